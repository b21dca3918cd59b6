import Derived.Test.YtcogpoamhflgjaaGreatDoorP2
/-
 Which disk a claim is bound to, what pods use, and where they are, as the program asks it.
-/
set_option maxRecDepth 100000
set_option maxHeartbeats 12800000
namespace Go.Proofs.YtcogpoamhflgjaaGreatDoor
open Go.RowKit
namespace Rc
open Mk

def InL (zs : List ByteArray) (t : ByteArray) : Prop:=∃ j : Nat,zs[j]? = some t

theorem iindex_any (a : Option Addr) (len cap : Nat) (zs : List ByteArray) (t : ByteArray) (w : World) (hr : TxRow w a len cap zs) :
  Calls Tryz.prog 171 #[.slice a len cap,.string t] w fun e w' => (∃ r : Int,e = .returned (.int .i64 r) ∧ ((0 ≤ r ∧ InL zs t) ∨ (r = -1 ∧ ¬ InL zs t))) ∧ w' = w:=by
 have HR:=hidK hr;have hlc : len ≤ 9223372036854775807:=Nat.le_trans hr.2.1 hr.2.2.1;have hzl : zs.length = len:=hr.1;clear hr
 go_enter Tryz.func171,Tryz.ntmps171
 go_wp2
 go_loop [8] (fun i => ∃ k : Nat,k ≤ len ∧ i = .int .i64 k ∧ Hid (∀ (j : Nat) x,j < k → zs[j]? = some x → ¬ x = t)) (fun i => len - (intOf i).toNat)
 case atStart => exact ⟨0,by omega,rfl,fun _ _ h => absurd h (by omega)⟩
 case round =>
  obtain ⟨k,hk,rfl,HE⟩:=hrel
  by_cases hlt : k < len
  ·obtain ⟨b,o,x,rfl,hb,hx,hc,hsz⟩:=HR.out.at hlt;have HX:=hidK hx;clear hx
   by_cases hn : t = x
   ·have hq:=tl_yes hn;have HN:=hidK hn;clear hn
    go_wp2
    go_ret;exact ⟨⟨k,rfl,.inl ⟨by omega,k,by rw [HX.out,HN.out]⟩⟩,rfl⟩
   ·have hq:=tl_no hn;have HN:=hidK hn;clear hn
    go_wp2
    refine ⟨⟨k + 1,by omega,by go_num,fun j z hj hz => ?_⟩,by simp [intOf];omega⟩
    by_cases e : j = k
    ·subst e;rw [HX.out] at hz;obtain rfl:=Option.some.inj hz;exact fun q => HN.out q.symm
    ·exact HE.out j z (by omega) hz
  ·obtain rfl : len = k:=by omega
   go_wp2
   go_ret;exact ⟨⟨-1,rfl,.inr ⟨rfl,fun ⟨j,hj⟩ => HE.out j t (by have:=(List.getElem?_eq_some_iff.1 hj).1;omega) hj rfl⟩⟩,rfl⟩

theorem icontains_any (a : Option Addr) (len cap : Nat) (zs : List ByteArray) (t : ByteArray) (w : World) (hr : TxRow w a len cap zs) :
  Calls Tryz.prog 162 #[.slice a len cap,.string t] w (BoolB (InL zs t) w):=by
 have HR:=hidK hr;clear hr
 go_enter Tryz.func162,Tryz.ntmps162
 go_wp2_with fail;refine (iindex_any a len cap zs t _ HR.out).mono ?_;rintro e w1 ⟨⟨r,rfl,hr⟩,rfl⟩
 rcases hr with ⟨h0,hi⟩ | ⟨rfl,hi⟩
 ·go_wp2
  go_ret;exact BoolB.t hi (Below.refl _ _)
 ·go_wp2
  go_ret;exact BoolB.f hi (Below.refl _ _)

theorem iclaimsWhy_any (d : Ad) (now : Int) (xs : List Xd) (a : Option Addr) (len cap : Nat) (zs : List ByteArray) (w : World) (hr : RRow w d.a4 d.l4 d.c4 5 (xs.map xdF)) (hz : TxRow w a len cap zs) (hG : ens w) :
  Calls Tryz.prog 72 #[.agg #[.slice d.a1 d.l1 d.c1,.slice d.a2 d.l2 d.c2,.slice d.a3 d.l3 d.c3,.slice d.a4 d.l4 d.c4,.slice d.a5 d.l5 d.c5,.int .i64 now],.slice a len cap] w (WhyB (∀ (j : Nat) t,zs[j]? = some t → hit Xd.n xs t = true) w):=by
 have HR:=hidK hr;have HE:=hidK hG;have HZ:=hidK hz;have hlc : len ≤ 9223372036854775807:=Nat.le_trans hz.2.1 hz.2.2.1;have hzl : zs.length = len:=hz.1;clear hr hG hz
 go_enter Tryz.func72,Tryz.ntmps72
 go_wp2
 go_loopw [11] (fun i wr => ∃ k : Nat,k ≤ len ∧ i = .int .i64 k ∧ Hid (∀ (j : Nat) t,j < k → zs[j]? = some t → hit Xd.n xs t = true) ∧ Hid (Below w.heap.size w wr) ∧ Hid (wr.heap[w.heap.size]? = some (.cells #[.slice d.a1 d.l1 d.c1,.slice d.a2 d.l2 d.c2,.slice d.a3 d.l3 d.c3,.slice d.a4 d.l4 d.c4,.slice d.a5 d.l5 d.c5,.int .i64 now] 40 (0,0)))) (fun i _ => len - (intOf i).toNat)
 case atStart => exact ⟨0,by omega,rfl,fun _ _ h => absurd h (by omega),below1 _ _,Array.getElem?_push_size⟩
 case round =>
  obtain ⟨k,hk,rfl,HQ,HB,Bk⟩:=hrel
  by_cases hlt : k < len
  ·obtain ⟨b,o,t,rfl,hb,hx,hc,hsz⟩:=(HZ.out.below HB.out).at hlt;have HX:=hidK hx;clear hx;obtain ⟨k0,k1,k2,k3,k4,k5⟩:=cs6 Bk.out;have ltk_0:=lt_of_some Bk.out;go_wp2_with fail;refine (thexd_any d now xs t w _ HR.out HB.out).mono ?_;rintro e w1 ⟨hb2,hf⟩;clear k0 k1 k2 k3 k4 k5 ltk_0;replace Bk:=upK Bk hb2;replace HB:=upB HB hb2;clear hb2;clear hb hc hsz;obtain ⟨T,q,hv⟩:=HE.out.below HB.out;have hl:=(HE.out.below HB.out).lt
   rcases hf with ⟨hh,x,hx,hn,rfl,z0,z2,z4⟩ | ⟨hh,rfl⟩
   ·have HH:=hidK hh;clear hh hx hn z0 z2 z4 hv hl
    go_wp2
    refine ⟨⟨k + 1,by omega,by go_num,fun j z hj hz => ?_,HB.out.alloc HB.out.size _,(Below.heap_alloc _ _ _ (lt_of_some Bk.out)).trans Bk.out⟩,by simp [intOf];omega⟩
    by_cases e : j = k
    ·subst e;rw [HX.out] at hz;obtain rfl:=Option.some.inj hz;exact HH.out
    ·exact HQ.out j z (by omega) hz
   ·have HH:=hidK hh;clear hh
    go_wp2
    go_ret;exact ⟨HB.out.alloc HB.out.size _,.inr ⟨fun h => (by have:=h k t HX.out;rw [HH.out] at this;cases this),T,q,rfl⟩⟩
  ·obtain rfl : len = k:=by omega
   go_wp2
   go_ret;exact ⟨HB.out,.inl ⟨fun j t ht => HQ.out j t (by have:=(List.getElem?_eq_some_iff.1 ht).1;omega) ht,rfl⟩⟩

def IsBd (c : Cl) (t : ByteArray) (v : Vd) : Prop:=∃ (i j : Nat) (x : Xd),c.xs[i]? = some x ∧ x.n = t ∧ c.vs[j]? = some v ∧ v.n = x.v
def BdAns (c : Cl) (t : ByteArray) (r w : World) (e : Ending) (w' : World) : Prop :=
 Below w.heap.size w w' ∧ ((∃ (v : Vd) (va : Option Addr) (vl vc : Nat),IsBd c t v ∧ e = .returned (.tuple #[.agg #[.string v.n,.int .i64 v.c,.string v.z,.string v.k,.bool v.x,.string v.m,.bool v.y,.slice va vl vc],.bool true]) ∧ v.n.size ≤ 9223372036854775807 ∧ v.z.size ≤ 9223372036854775807 ∧ TxRow r va vl vc v.zs) ∨ ((∀ v,¬ IsBd c t v) ∧ e = .returned (.tuple #[.agg #[.string ⟨#[]⟩,.int .i64 0,.string ⟨#[]⟩,.string ⟨#[]⟩,.bool false,.string ⟨#[]⟩,.bool false,.slice none 0 0],.bool false])))

theorem ibd_any (d : Ad) (c : Cl) (t : ByteArray) (r : World) (w : World) (hr : ClRow r d c.raw) (hrw : Below r.heap.size r w) (hx : RisBy Xd.n c.xs) (hv : RisBy Vd.n c.vs) (hne : ∀ (j : Nat) v,c.vs[j]? = some v → ¬ v.n = ⟨#[]⟩) :
  Calls Tryz.prog 161 #[.agg #[.slice d.a1 d.l1 d.c1,.slice d.a2 d.l2 d.c2,.slice d.a3 d.l3 d.c3,.slice d.a4 d.l4 d.c4,.slice d.a5 d.l5 d.c5,.int .i64 c.now],.string t] w (BdAns c t r w):=by
 have HR:=hidK hr;have HRW:=hidK hrw;have HX:=hidK hx;have HV:=hidK hv;have HNE:=hidK hne;have HB:=hidK (Below.refl w.heap.size w);clear hr hx hv hrw hne
 go_enter Tryz.func161,Tryz.ntmps161
 go_wp2_with fail;refine (thexd_any d c.now c.xs t r _ HR.out.x (HRW.out.trans ((below2 _ _ _).mono HRW.out.size))).mono ?_;rintro e w1 ⟨hb,hf⟩;obtain ⟨HA0,HA1,hbx⟩:=slots2 hb;have Bk:=hidK HA0;have Bs:=hidK HA1;replace HB:=upB HB hbx;clear hb hbx HA0 HA1
 rcases hf with ⟨hh,x,hx,hn,rfl,z0,z2,z4⟩ | ⟨hh,rfl⟩
 ·have HX1:=hidK hx;have HN1:=hidK hn;clear hx hn hh z0 z2 z4;obtain ⟨k0,k1,k2,k3,k4,k5⟩:=cs6 Bk.out;have ltk_1:=lt_of_some Bk.out;go_wp2_with fail;refine (thevd_any d c.now c.vs x.v r _ HR.out.v (HRW.out.trans ((HB.out.trans ((below1 _ _).mono HB.out.size)).mono HRW.out.size))).mono ?_;rintro e w2 ⟨hb,hf⟩;clear k0 k1 k2 k3 k4 k5 ltk_1;obtain ⟨HA0,hbx⟩:=slots1 hb;replace Bk:=upK Bk hbx;replace Bs:=upK Bs hbx;have Bx:=hidK HA0;replace HB:=upB HB hbx;clear hb hbx HA0
  rcases hf with ⟨hh,v,va,vl,vc,hx,hn,rfl,z0,z2,z3,z5,hvr⟩ | ⟨hh,rfl⟩
  ·have HX2:=hidK hx;have HN2:=hidK hn;have HT:=hidK hvr;have HZ0:=hidK z0;have HZ2:=hidK z2;clear hx hn hh z0 z2 z3 z5 hvr;obtain ⟨s0,s1,s2,s3,s4,s5,s6,s7⟩:=cs8 Bs.out;have lts_2:=lt_of_some Bs.out;have fr0:=froK Bs.out 0;have fr1:=froK Bs.out 1;have fr2:=froK Bs.out 2;have fr3:=froK Bs.out 3;have fr4:=froK Bs.out 4;have fr5:=froK Bs.out 5;have fr6:=froK Bs.out 6;have fr7:=froK Bs.out 7
   go_wp2
   refine bodyPost_ret (v:=.tuple #[.agg #[.string v.n,.int .i64 v.c,.string v.z,.string v.k,.bool v.x,.string v.m,.bool v.y,.slice va vl vc],.bool true]) (by simp [results,Tryz.results161,go_sem, *]) rfl ⟨set_below (Nat.le_succ _) (set_below (Nat.le_succ _) (set_below (Nat.le_succ _) (set_below (Nat.le_succ _) (set_below (Nat.le_succ _) (set_below (Nat.le_succ _) (set_below (Nat.le_succ _) (set_below (Nat.le_succ _) (HB.out)))))))),.inl ⟨v,va,vl,vc,⟨_,_,x,HX1.out,HN1.out,HX2.out,HN2.out⟩,rfl,HZ0.out,HZ2.out,HT.out⟩⟩
  ·have HH2:=hidK hh;clear hh;obtain ⟨s0,s1,s2,s3,s4,s5,s6,s7⟩:=cs8 Bs.out;have lts_2:=lt_of_some Bs.out;have fr0:=froK Bs.out 0;have fr1:=froK Bs.out 1;have fr2:=froK Bs.out 2;have fr3:=froK Bs.out 3;have fr4:=froK Bs.out 4;have fr5:=froK Bs.out 5;have fr6:=froK Bs.out 6;have fr7:=froK Bs.out 7
   go_wp2
   refine bodyPost_ret (v:=.tuple #[.agg #[.string ⟨#[]⟩,.int .i64 0,.string ⟨#[]⟩,.string ⟨#[]⟩,.bool false,.string ⟨#[]⟩,.bool false,.slice none 0 0],.bool false]) (by simp [results,Tryz.results161,go_sem, *]) rfl ⟨set_below (Nat.le_succ _) (set_below (Nat.le_succ _) (set_below (Nat.le_succ _) (set_below (Nat.le_succ _) (set_below (Nat.le_succ _) (set_below (Nat.le_succ _) (set_below (Nat.le_succ _) (set_below (Nat.le_succ _) (HB.out)))))))),.inr ⟨fun v ⟨i,j,x2,e1,e2,e3,e4⟩ => (by obtain ⟨_,rfl⟩:=HX.out.inj e1 HX1.out (e2.trans HN1.out.symm);have:=(hit_at HV.out e3 e4).2;rw [HH2.out] at this;cases this),rfl⟩⟩
 ·have HH1:=hidK hh;clear hh;obtain ⟨k0,k1,k2,k3,k4,k5⟩:=cs6 Bk.out;have ltk_1:=lt_of_some Bk.out;go_wp2_with fail;refine (thevd_any d c.now c.vs ⟨#[]⟩ r _ HR.out.v (HRW.out.trans ((HB.out.trans ((below1 _ _).mono HB.out.size)).mono HRW.out.size))).mono ?_;rintro e w2 ⟨hb,hf⟩;clear k0 k1 k2 k3 k4 k5 ltk_1;obtain ⟨HA0,hbx⟩:=slots1 hb;replace Bk:=upK Bk hbx;replace Bs:=upK Bs hbx;have Bx:=hidK HA0;replace HB:=upB HB hbx;clear hb hbx HA0
  rcases hf with ⟨hh,v,va,vl,vc,hx,hn,rfl,z0,z2,z3,z5,hvr⟩ | ⟨hh,rfl⟩
  ·have HX2:=hidK hx;have HN2:=hidK hn;have HT:=hidK hvr;have HZ0:=hidK z0;have HZ2:=hidK z2;clear hx hn hh z0 z2 z3 z5 hvr;exact absurd HN2.out (HNE.out _ _ HX2.out)
  ·have HH2:=hidK hh;clear hh;obtain ⟨s0,s1,s2,s3,s4,s5,s6,s7⟩:=cs8 Bs.out;have lts_2:=lt_of_some Bs.out;have fr0:=froK Bs.out 0;have fr1:=froK Bs.out 1;have fr2:=froK Bs.out 2;have fr3:=froK Bs.out 3;have fr4:=froK Bs.out 4;have fr5:=froK Bs.out 5;have fr6:=froK Bs.out 6;have fr7:=froK Bs.out 7
   go_wp2
   refine bodyPost_ret (v:=.tuple #[.agg #[.string ⟨#[]⟩,.int .i64 0,.string ⟨#[]⟩,.string ⟨#[]⟩,.bool false,.string ⟨#[]⟩,.bool false,.slice none 0 0],.bool false]) (by simp [results,Tryz.results161,go_sem, *]) rfl ⟨set_below (Nat.le_succ _) (set_below (Nat.le_succ _) (set_below (Nat.le_succ _) (set_below (Nat.le_succ _) (set_below (Nat.le_succ _) (set_below (Nat.le_succ _) (set_below (Nat.le_succ _) (set_below (Nat.le_succ _) (HB.out)))))))),.inr ⟨fun v ⟨i,j,x2,e1,e2,e3,e4⟩ => (by have:=(hit_at HX.out e1 e2).2;rw [HH1.out] at this;cases this),rfl⟩⟩

def cpuOf (t : ByteArray) : List Pd → Int
 | [] => 0
 | p :: ps => (if p.d = t then p.c else 0) + cpuOf t ps
theorem cpuOf_append (t : ByteArray) : ∀ ps qs : List Pd,cpuOf t (ps ++ qs) = cpuOf t ps + cpuOf t qs
 | [],qs => by simp [cpuOf]
 | p :: ps,qs => by simp [cpuOf,cpuOf_append t ps];omega
theorem cpuOf_step {t : ByteArray} {ps : List Pd} {k : Nat} {p : Pd} (h : ps[k]? = some p) : cpuOf t (ps.take (k + 1)) = cpuOf t (ps.take k) + (if p.d = t then p.c else 0):=by
 rw [List.take_add_one,h,cpuOf_append]
 simp [cpuOf]

theorem iusedCpu_any (d : Ad) (now : Int) (ps : List Pd) (t : ByteArray) (w : World) (hr : RRow w d.a5 d.l5 d.c5 6 (ps.map pdF)) (hl : ps.length ≤ 8) (hp : ∀ (j : Nat) p,ps[j]? = some p → 0 ≤ p.c ∧ p.c ≤ 1000000) :
  Calls Tryz.prog 144 #[.agg #[.slice d.a1 d.l1 d.c1,.slice d.a2 d.l2 d.c2,.slice d.a3 d.l3 d.c3,.slice d.a4 d.l4 d.c4,.slice d.a5 d.l5 d.c5,.int .i64 now],.string t] w fun e w' => e = .returned (.int .i64 (cpuOf t ps)) ∧ Below w.heap.size w w':=by
 obtain ⟨a1,l1,y1,a2,l2,y2,a3,l3,y3,a4,l4,y4,a5,l5,y5⟩:=d;dsimp only at hr ⊢;have HR:=hidK hr
 have hxl : ps.length = l5:=by simpa using hr.1
 have hlc : l5 ≤ 9223372036854775807:=Nat.le_trans hr.2.1 hr.2.2.1;have HP:=hidK hp;clear hr hp
 go_enter Tryz.func144,Tryz.ntmps144
 go_wp2
 go_loopw [5,11] (fun q i wr => ∃ (k : Nat) (s : Int),k ≤ l5 ∧ q = .int .i64 s ∧ i = .int .i64 k ∧ Hid (s = cpuOf t (ps.take k)) ∧ 0 ≤ s ∧ s ≤ k * 1000000 ∧ Hid (Below w.heap.size w wr)) (fun _ i _ => l5 - (intOf i).toNat)
 case atStart => exact ⟨0,0,by omega,rfl,rfl,rfl,by omega,by omega,below1 _ _⟩
 case round =>
  obtain ⟨k,s,hk,rfl,rfl,HS,hs0,hs1,HB⟩:=hrel
  by_cases hlt : k < l5
  ·obtain ⟨b,o,p,rfl,hb,hx,hat⟩:=pd_at (HR.out.below HB.out) hlt;obtain ⟨va,vl,vc,hvr,z0,z2,z4,c0,c1,c2,c3,c4,c5⟩:=pd_cells hat;have HX:=hidK hx;have hpc:=HP.out k p hx;clear hat hx z0 z2 z4 hvr
   by_cases hn : p.d = t
   ·have hq:=tl_yes hn;have HN:=hidK hn;clear hn
    go_wp2
    refine ⟨⟨k + 1,s + p.c,by omega,by go_num,by go_num,?_,by omega,by omega,HB.out.alloc HB.out.size _⟩,by simp [intOf];omega⟩
    show _ = _
    rw [cpuOf_step HX.out,if_pos HN.out,← HS.out]
   ·have hq:=tl_no hn;have HN:=hidK hn;clear hn
    go_wp2
    refine ⟨⟨k + 1,s,by omega,rfl,by go_num,?_,by omega,by omega,HB.out.alloc HB.out.size _⟩,by simp [intOf];omega⟩
    show _ = _
    rw [cpuOf_step HX.out,if_neg HN.out,← HS.out,Int.add_zero]
  ·obtain rfl : l5 = k:=by omega
   go_wp2
   go_ret;exact ⟨congrArg (fun z => Ending.returned (.int .i64 z)) (HS.out.trans (by rw [List.take_of_length_le (by omega)])),HB.out⟩

def OneNode (c : Cl) (t : ByteArray) : Prop:=∀ (i j : Nat) p q,c.ps[i]? = some p → c.ps[j]? = some q → ¬ p.d = ⟨#[]⟩ → ¬ q.d = ⟨#[]⟩ → InL p.zs t → InL q.zs t → p.d = q.d

theorem ione_any (d : Ad) (c : Cl) (t : ByteArray) (w : World) (hr : ClRow w d c.raw) :
  Calls Tryz.prog 145 #[.agg #[.slice d.a1 d.l1 d.c1,.slice d.a2 d.l2 d.c2,.slice d.a3 d.l3 d.c3,.slice d.a4 d.l4 d.c4,.slice d.a5 d.l5 d.c5,.int .i64 c.now],.string t] w (BoolB (OneNode c t) w):=by
 obtain ⟨a1,l1,y1,a2,l2,y2,a3,l3,y3,a4,l4,y4,a5,l5,y5⟩:=d;dsimp only;have HR:=hidK hr
 have hl1 : c.ns.length = l1:=by simpa using (show (c.ns.map ndF).length = l1 from hr.n.1)
 have hm1 : l1 ≤ 9223372036854775807:=Nat.le_trans hr.n.2.1 hr.n.2.2.1
 have hl2 : c.ks.length = l2:=by simpa using (show (c.ks.map kdF).length = l2 from hr.k.1)
 have hm2 : l2 ≤ 9223372036854775807:=Nat.le_trans hr.k.2.1 hr.k.2.2.1
 have hl3 : c.vs.length = l3:=by simpa using (show (c.vs.map vdF).length = l3 from hr.v.1)
 have hm3 : l3 ≤ 9223372036854775807:=Nat.le_trans hr.v.2.1 hr.v.2.2.1
 have hl4 : c.xs.length = l4:=by simpa using (show (c.xs.map xdF).length = l4 from hr.x.1)
 have hm4 : l4 ≤ 9223372036854775807:=Nat.le_trans hr.x.2.1 hr.x.2.2.1
 have hl5 : c.ps.length = l5:=by simpa using (show (c.ps.map pdF).length = l5 from hr.p.1)
 have hm5 : l5 ≤ 9223372036854775807:=Nat.le_trans hr.p.2.1 hr.p.2.2.1;clear hr
 go_enter Tryz.func145,Tryz.ntmps145
 go_wp2
 go_loopw [5,11] (fun q i wr => ∃ (k : Nat) (s : ByteArray),k ≤ l5 ∧ q = .string s ∧ i = .int .i64 k ∧ Hid (∀ (j : Nat) p,j < k → c.ps[j]? = some p → ¬ p.d = ⟨#[]⟩ → InL p.zs t → p.d = s) ∧ Hid (s = ⟨#[]⟩ ∨ ∃ (j : Nat) (p : Pd),j < k ∧ c.ps[j]? = some p ∧ ¬ p.d = ⟨#[]⟩ ∧ InL p.zs t ∧ p.d = s) ∧ Hid (Below w.heap.size w wr)) (fun _ i _ => l5 - (intOf i).toNat)
 case atStart => exact ⟨0,_,by omega,rfl,rfl,fun _ _ h => absurd h (by omega),.inl rfl,below1 _ _⟩
 case round =>
  obtain ⟨k,s,hk,rfl,rfl,HQ,HS,HB⟩:=hrel
  by_cases hlt : k < l5
  ·obtain ⟨b,o,p,rfl,hb,hx,hat⟩:=pd_at (HR.out.p.below HB.out) hlt;obtain ⟨va,vl,vc,hvr,z0,z2,z4,c0,c1,c2,c3,c4,c5⟩:=pd_cells hat;have HX:=hidK hx;have HT:=hidK hvr;clear hat hx z0 z2 z4 hvr
   have skip : (p.d = ⟨#[]⟩ ∨ ¬ InL p.zs t) → ∀ (j : Nat) q,j < k + 1 → c.ps[j]? = some q → ¬ q.d = ⟨#[]⟩ → InL q.zs t → q.d = s:=by
    intro h j q hj hq h1 h2
    by_cases e : j = k
    ·subst e;rw [HX.out] at hq;obtain rfl:=Option.some.inj hq
     rcases h with h | h
     ·exact absurd h h1
     ·exact absurd h2 h
    ·exact HQ.out j q (by omega) hq h1 h2
   have SK:=hidK skip;clear skip;have keepS : s = ⟨#[]⟩ ∨ ∃ (j : Nat) (p : Pd),j < k + 1 ∧ c.ps[j]? = some p ∧ ¬ p.d = ⟨#[]⟩ ∧ InL p.zs t ∧ p.d = s:=HS.out.imp id (fun ⟨j,p,h1,h2⟩ => ⟨j,p,by omega,h2⟩);have KS:=hidK keepS;clear keepS
   by_cases he : p.d = ⟨#[]⟩
   ·have hq:=isE_y he;have HEm:=hidK he;clear he
    go_wp2
    exact ⟨⟨k + 1,s,by omega,rfl,by go_num,SK.out (.inl HEm.out),KS.out,HB.out.alloc HB.out.size _⟩,by simp [intOf];omega⟩
   ·have hq:=isE_no he;have HEm:=hidK he;clear he;go_wp2_with fail;refine (icontains_any va vl vc p.zs t _ (HT.out.below (below1 _ _))).mono ?_;rintro e w1 ⟨r,rfl,hi,hb2⟩;obtain ⟨HA0,hbx⟩:=slots1 hb2;have Br:=hidK HA0;replace HB:=upB HB hbx;clear hb2 hbx HA0;have HI:=hidK hi;clear hi c0 c1 c2 c3 c4 c5 hb
    cases r
    ·obtain ⟨r0,r1,r2,r3,r4,r5⟩:=cs6 Br.out;have ltr_1:=lt_of_some Br.out
     go_wp2
     exact ⟨⟨k + 1,s,by omega,rfl,by go_num,SK.out (.inr (fun h => by have:=HI.out.2 h;cases this)),KS.out,HB.out⟩,by simp [intOf];omega⟩
    ·have HIn:=hidK (HI.out.1 (by first | trivial | rfl));clear HI
     by_cases hs : s = ⟨#[]⟩
     ·have hq2:=isE_y hs;have HSe:=hidK hs;clear hs;obtain ⟨r0,r1,r2,r3,r4,r5⟩:=cs6 Br.out;have ltr_1:=lt_of_some Br.out;go_wp2_with fail;refine ⟨⟨k + 1,p.d,by omega,rfl,by go_num,fun j q hj hq h1 h2 => ?_,.inr ⟨k,p,by omega,HX.out,HEm.out,HIn.out,rfl⟩,HB.out⟩,by simp [intOf];omega⟩
      by_cases e : j = k
      ·subst e;rw [HX.out] at hq;obtain rfl:=Option.some.inj hq
       rfl
      ·exact absurd (HSe.out ▸ HQ.out j q (by omega) hq h1 h2) h1
     ·have hq2:=isE_no hs;have HSe:=hidK hs;clear hs
      by_cases hd : p.d = s
      ·have hq3:=tl_yes hd;have HD:=hidK hd;clear hd;obtain ⟨r0,r1,r2,r3,r4,r5⟩:=cs6 Br.out;have ltr_1:=lt_of_some Br.out;go_wp2_with fail;refine ⟨⟨k + 1,p.d,by omega,rfl,by go_num,fun j q hj hq h1 h2 => ?_,.inr ⟨k,p,by omega,HX.out,HEm.out,HIn.out,rfl⟩,HB.out⟩,by simp [intOf];omega⟩
       by_cases e : j = k
       ·subst e;rw [HX.out] at hq;obtain rfl:=Option.some.inj hq
        rfl
       ·exact (HQ.out j q (by omega) hq h1 h2).trans HD.out.symm
      ·have hq3:=tl_no hd;have HD:=hidK hd;clear hd;obtain ⟨r0,r1,r2,r3,r4,r5⟩:=cs6 Br.out;have ltr_1:=lt_of_some Br.out
       go_wp2
       go_ret;refine BoolB.f (fun h => ?_) HB.out
       rcases HS.out with h1 | ⟨j,q,h1,h2,h3,h4,h5⟩
       ·exact HSe.out h1
       ·exact HD.out ((h k j p q HX.out h2 HEm.out h3 HIn.out h4).trans h5)
  ·obtain rfl : l5 = k:=by omega
   go_wp2
   go_ret;refine BoolB.t (fun i j p q hi hj h1 h2 h3 h4 => ?_) HB.out;rw [HQ.out i p (by have:=(List.getElem?_eq_some_iff.1 hi).1;omega) hi h1 h3,HQ.out j q (by have:=(List.getElem?_eq_some_iff.1 hj).1;omega) hj h2 h4]

theorem IsBd.inj {c : Cl} {t : ByteArray} {v v' : Vd} (hx : RisBy Xd.n c.xs) (hv : RisBy Vd.n c.vs) (h : IsBd c t v) (h' : IsBd c t v') : v = v':=by
 obtain ⟨i,j,x,e1,e2,e3,e4⟩:=h;obtain ⟨i',j',x',f1,f2,f3,f4⟩:=h';obtain ⟨_,rfl⟩:=hx.inj e1 f1 (e2.trans f2.symm);exact (hv.inj e3 f3 (e4.trans f4.symm)).2
def SuitI (c : Cl) (p : Pd) : Prop:=∃ (i : Nat) (n : Nd),c.ns[i]? = some n ∧ n.n = p.d ∧ (p.z = ⟨#[]⟩ ∨ p.z = n.z) ∧ ∀ (j : Nat) t,p.zs[j]? = some t → ∃ v,IsBd c t v ∧ v.z = n.z
def RunI (c : Cl) (p : Pd) : Prop:=∃ (i : Nat) (n : Nd),c.ns[i]? = some n ∧ n.n = p.d ∧ n.d = false ∧ ∀ (j : Nat) t,p.zs[j]? = some t → ∃ v,IsBd c t v ∧ InL n.zs v.n
def MntI (c : Cl) (n : Nd) : Prop:=∀ (j : Nat) t,n.zs[j]? = some t → ∃ (i : Nat) (v : Vd),c.vs[i]? = some v ∧ v.n = t ∧ (n.d = true ∨ InL v.zs n.n)

theorem isuit_any (d : Ad) (c : Cl) (p : Pd) (pa : Option Addr) (pl pc : Nat) (w : World) (hr : ClRow w d c.raw) (hn : RisBy Nd.n c.ns) (hx : RisBy Xd.n c.xs) (hv : RisBy Vd.n c.vs) (hne : ∀ (j : Nat) v,c.vs[j]? = some v → ¬ v.n = ⟨#[]⟩) (hp : TxRow w pa pl pc p.zs) :
  Calls Tryz.prog 143 #[.agg #[.slice d.a1 d.l1 d.c1,.slice d.a2 d.l2 d.c2,.slice d.a3 d.l3 d.c3,.slice d.a4 d.l4 d.c4,.slice d.a5 d.l5 d.c5,.int .i64 c.now],.agg #[.string p.n,.int .i64 p.c,.string p.z,.slice pa pl pc,.string p.d,.int .i64 p.p]] w (BoolB (SuitI c p) w):=by
 have HR:=hidK hr;have HN:=hidK hn;have HX:=hidK hx;have HV:=hidK hv;have HNE:=hidK hne;have HP:=hidK hp;have hlc : pl ≤ 9223372036854775807:=Nat.le_trans hp.2.1 hp.2.2.1;have hzl : p.zs.length = pl:=hp.1;have HB:=hidK (Below.refl w.heap.size w);clear hr hn hx hv hne hp
 go_enter Tryz.func143,Tryz.ntmps143
 go_wp2_with fail;refine (thend_any d c.now c.ns p.d w _ HR.out.n (below2 _ _ _)).mono ?_;rintro e w1 ⟨hb,hf⟩;obtain ⟨HA0,HA1,hbx⟩:=slots2 hb;have Bk:=hidK HA0;have Bp:=hidK HA1;replace HB:=upB HB hbx;clear hb hbx HA0 HA1
 rcases hf with ⟨hh,n,va,vl,vc,hx,hn,rfl,z0,z1,hvr⟩ | ⟨hh,rfl⟩
 rotate_left
 ·have HH:=hidK hh;clear hh;obtain ⟨k0,k1,k2,k3,k4,k5⟩:=cs6 Bk.out;have ltk_1:=lt_of_some Bk.out;obtain ⟨p0,p1,p2,p3,p4,p5⟩:=cs6 Bp.out;have ltp_1:=lt_of_some Bp.out
  go_wp2
  go_ret;refine BoolB.f (fun ⟨i,n,e1,e2,_⟩ => ?_) (HB.out.alloc HB.out.size _);have:=(hit_at HN.out e1 e2).2;rw [HH.out] at this
  cases this
 have HX1:=hidK hx;have HN1:=hidK hn;have HT1:=hidK hvr;clear hx hn hh z0 z1 hvr;have hz : (p.z = ⟨#[]⟩ ∨ p.z = n.z) ∨ ¬ (p.z = ⟨#[]⟩ ∨ p.z = n.z):=Classical.em _
 rcases hz with hz | hz
 rotate_left
 ·have q1:=isE_no (fun e => hz (.inl e));have q2:=tl_no (fun e => hz (.inr e));have HC:=hidK hz;clear hz;obtain ⟨k0,k1,k2,k3,k4,k5⟩:=cs6 Bk.out;have ltk_1:=lt_of_some Bk.out;obtain ⟨p0,p1,p2,p3,p4,p5⟩:=cs6 Bp.out;have ltp_1:=lt_of_some Bp.out
  go_wp2
  go_ret;refine BoolB.f (fun ⟨i,m,e1,e2,e3,_⟩ => ?_) (HB.out.alloc HB.out.size _);obtain ⟨_,rfl⟩:=HN.out.inj e1 HX1.out (e2.trans HN1.out.symm);exact HC.out e3
 have HC:=hidK hz
 have hq : (p.z.toList.isEmpty = true) ∨ (p.z.toList.isEmpty = false ∧ (p.z.toList == n.z.toList) = true):=by
  by_cases e : p.z = ⟨#[]⟩
  ·exact .inl (isE_y e)
  ·exact .inr ⟨isE_no e,tl_yes (HC.out.resolve_left e)⟩
 clear hz
 rcases hq with hq | ⟨hq,hq2⟩
 ·obtain ⟨k0,k1,k2,k3,k4,k5⟩:=cs6 Bk.out;have ltk_1:=lt_of_some Bk.out;obtain ⟨p0,p1,p2,p3,p4,p5⟩:=cs6 Bp.out;have ltp_1:=lt_of_some Bp.out
  go_wp2
  go_loopw [35] (fun i wr => ∃ k : Nat,k ≤ pl ∧ i = .int .i64 k ∧ Hid (∀ (j : Nat) t,j < k → p.zs[j]? = some t → ∃ v,IsBd c t v ∧ v.z = n.z) ∧ Hid (Below w.heap.size w wr) ∧ Hid (wr.heap[w.heap.size]? = some (.cells #[.slice d.a1 d.l1 d.c1,.slice d.a2 d.l2 d.c2,.slice d.a3 d.l3 d.c3,.slice d.a4 d.l4 d.c4,.slice d.a5 d.l5 d.c5,.int .i64 c.now] 40 (0,0))) ∧ Hid (wr.heap[w1.heap.size]? = some (.cells #[.string n.n,.string n.z,.int .i64 n.c,.int .i64 n.s,.int .i64 n.u,.bool n.d,.slice va vl vc] 120 (0,0)))) (fun i _ => pl - (intOf i).toNat)
  case atStart => exact ⟨0,by omega,rfl,fun _ _ h => absurd h (by omega),HB.out.alloc HB.out.size _,(Below.heap_alloc _ _ _ (lt_of_some Bk.out)).trans Bk.out,Array.getElem?_push_size⟩
  case round =>
   obtain ⟨k,hk,rfl,HQ,HB,Bk,Bn⟩:=hrel
   by_cases hlt : k < pl
   ·obtain ⟨b,o,t,rfl,hb,hx,hc,hsz⟩:=(HP.out.below HB.out).at hlt;have HXt:=hidK hx;clear hx hsz;obtain ⟨k0,k1,k2,k3,k4,k5⟩:=cs6 Bk.out;have ltk_0:=lt_of_some Bk.out;obtain ⟨n0,n1,n2,n3,n4,n5,n6⟩:=cs7 Bn.out;have ltn_0:=lt_of_some Bn.out;go_wp2_with fail;refine (ibd_any d c t w _ HR.out HB.out HX.out HV.out HNE.out).mono ?_;rintro e w2 ⟨hb2,hf⟩;clear k0 k1 k2 k3 k4 k5 ltk_0 n0 n1 n2 n3 n4 n5 n6 ltn_0;replace Bk:=upK Bk hb2;replace Bn:=upK Bn hb2;replace HB:=upB HB hb2;clear hb2;clear hb hc
    rcases hf with ⟨v,xa,xl,xc,hbd,rfl,z0,z2,hxr⟩ | ⟨hbd,rfl⟩
    rotate_left
    ·have HD:=hidK hbd;clear hbd;obtain ⟨k0,k1,k2,k3,k4,k5⟩:=cs6 Bk.out;have ltk_1:=lt_of_some Bk.out;obtain ⟨n0,n1,n2,n3,n4,n5,n6⟩:=cs7 Bn.out;have ltn_1:=lt_of_some Bn.out
     go_wp2
     go_ret;refine BoolB.f (fun ⟨i,m,e1,e2,e3,e4⟩ => ?_) (HB.out.alloc HB.out.size _);obtain ⟨v,e5,_⟩:=e4 k t HXt.out;exact HD.out v e5
    have HD:=hidK hbd;have HTx:=hidK hxr;clear hbd hxr z0 z2
    by_cases hz2 : v.z = n.z
    ·have q3:=tl_yes hz2;have HZ2:=hidK hz2;clear hz2;obtain ⟨k0,k1,k2,k3,k4,k5⟩:=cs6 Bk.out;have ltk_1:=lt_of_some Bk.out;obtain ⟨n0,n1,n2,n3,n4,n5,n6⟩:=cs7 Bn.out;have ltn_1:=lt_of_some Bn.out;go_wp2_with fail;refine ⟨⟨k + 1,by omega,by go_num,fun j s hj hs => ?_,(HB.out.alloc HB.out.size _),(Below.heap_alloc _ _ _ (lt_of_some Bk.out)).trans Bk.out,(Below.heap_alloc _ _ _ (lt_of_some Bn.out)).trans Bn.out⟩,by simp [intOf];omega⟩
     by_cases e : j = k
     ·subst e;rw [HXt.out] at hs;obtain rfl:=Option.some.inj hs;exact ⟨v,HD.out,HZ2.out⟩
     ·exact HQ.out j s (by omega) hs
    ·have q3:=tl_no hz2;have HZ2:=hidK hz2;clear hz2;obtain ⟨k0,k1,k2,k3,k4,k5⟩:=cs6 Bk.out;have ltk_1:=lt_of_some Bk.out;obtain ⟨n0,n1,n2,n3,n4,n5,n6⟩:=cs7 Bn.out;have ltn_1:=lt_of_some Bn.out
     go_wp2
     go_ret;refine BoolB.f (fun ⟨i,m,e1,e2,e3,e4⟩ => ?_) (HB.out.alloc HB.out.size _);obtain ⟨_,rfl⟩:=HN.out.inj e1 HX1.out (e2.trans HN1.out.symm);obtain ⟨v',e5,e6⟩:=e4 k t HXt.out;obtain rfl:=IsBd.inj HX.out HV.out HD.out e5;exact HZ2.out e6
   ·obtain rfl : pl = k:=by omega
    go_wp2
    go_ret;exact BoolB.t ⟨_,n,HX1.out,HN1.out,HC.out,fun j t ht => HQ.out j t (by have:=(List.getElem?_eq_some_iff.1 ht).1;omega) ht⟩ HB.out
 ·obtain ⟨k0,k1,k2,k3,k4,k5⟩:=cs6 Bk.out;have ltk_1:=lt_of_some Bk.out;obtain ⟨p0,p1,p2,p3,p4,p5⟩:=cs6 Bp.out;have ltp_1:=lt_of_some Bp.out
  go_wp2
  go_loopw [35] (fun i wr => ∃ k : Nat,k ≤ pl ∧ i = .int .i64 k ∧ Hid (∀ (j : Nat) t,j < k → p.zs[j]? = some t → ∃ v,IsBd c t v ∧ v.z = n.z) ∧ Hid (Below w.heap.size w wr) ∧ Hid (wr.heap[w.heap.size]? = some (.cells #[.slice d.a1 d.l1 d.c1,.slice d.a2 d.l2 d.c2,.slice d.a3 d.l3 d.c3,.slice d.a4 d.l4 d.c4,.slice d.a5 d.l5 d.c5,.int .i64 c.now] 40 (0,0))) ∧ Hid (wr.heap[w1.heap.size]? = some (.cells #[.string n.n,.string n.z,.int .i64 n.c,.int .i64 n.s,.int .i64 n.u,.bool n.d,.slice va vl vc] 120 (0,0)))) (fun i _ => pl - (intOf i).toNat)
  case atStart => exact ⟨0,by omega,rfl,fun _ _ h => absurd h (by omega),HB.out.alloc HB.out.size _,(Below.heap_alloc _ _ _ (lt_of_some Bk.out)).trans Bk.out,Array.getElem?_push_size⟩
  case round =>
   obtain ⟨k,hk,rfl,HQ,HB,Bk,Bn⟩:=hrel
   by_cases hlt : k < pl
   ·obtain ⟨b,o,t,rfl,hb,hx,hc,hsz⟩:=(HP.out.below HB.out).at hlt;have HXt:=hidK hx;clear hx hsz;obtain ⟨k0,k1,k2,k3,k4,k5⟩:=cs6 Bk.out;have ltk_0:=lt_of_some Bk.out;obtain ⟨n0,n1,n2,n3,n4,n5,n6⟩:=cs7 Bn.out;have ltn_0:=lt_of_some Bn.out;go_wp2_with fail;refine (ibd_any d c t w _ HR.out HB.out HX.out HV.out HNE.out).mono ?_;rintro e w2 ⟨hb2,hf⟩;clear k0 k1 k2 k3 k4 k5 ltk_0 n0 n1 n2 n3 n4 n5 n6 ltn_0;replace Bk:=upK Bk hb2;replace Bn:=upK Bn hb2;replace HB:=upB HB hb2;clear hb2;clear hb hc
    rcases hf with ⟨v,xa,xl,xc,hbd,rfl,z0,z2,hxr⟩ | ⟨hbd,rfl⟩
    rotate_left
    ·have HD:=hidK hbd;clear hbd;obtain ⟨k0,k1,k2,k3,k4,k5⟩:=cs6 Bk.out;have ltk_1:=lt_of_some Bk.out;obtain ⟨n0,n1,n2,n3,n4,n5,n6⟩:=cs7 Bn.out;have ltn_1:=lt_of_some Bn.out
     go_wp2
     go_ret;refine BoolB.f (fun ⟨i,m,e1,e2,e3,e4⟩ => ?_) (HB.out.alloc HB.out.size _);obtain ⟨v,e5,_⟩:=e4 k t HXt.out;exact HD.out v e5
    have HD:=hidK hbd;have HTx:=hidK hxr;clear hbd hxr z0 z2
    by_cases hz2 : v.z = n.z
    ·have q3:=tl_yes hz2;have HZ2:=hidK hz2;clear hz2;obtain ⟨k0,k1,k2,k3,k4,k5⟩:=cs6 Bk.out;have ltk_1:=lt_of_some Bk.out;obtain ⟨n0,n1,n2,n3,n4,n5,n6⟩:=cs7 Bn.out;have ltn_1:=lt_of_some Bn.out;go_wp2_with fail;refine ⟨⟨k + 1,by omega,by go_num,fun j s hj hs => ?_,(HB.out.alloc HB.out.size _),(Below.heap_alloc _ _ _ (lt_of_some Bk.out)).trans Bk.out,(Below.heap_alloc _ _ _ (lt_of_some Bn.out)).trans Bn.out⟩,by simp [intOf];omega⟩
     by_cases e : j = k
     ·subst e;rw [HXt.out] at hs;obtain rfl:=Option.some.inj hs;exact ⟨v,HD.out,HZ2.out⟩
     ·exact HQ.out j s (by omega) hs
    ·have q3:=tl_no hz2;have HZ2:=hidK hz2;clear hz2;obtain ⟨k0,k1,k2,k3,k4,k5⟩:=cs6 Bk.out;have ltk_1:=lt_of_some Bk.out;obtain ⟨n0,n1,n2,n3,n4,n5,n6⟩:=cs7 Bn.out;have ltn_1:=lt_of_some Bn.out
     go_wp2
     go_ret;refine BoolB.f (fun ⟨i,m,e1,e2,e3,e4⟩ => ?_) (HB.out.alloc HB.out.size _);obtain ⟨_,rfl⟩:=HN.out.inj e1 HX1.out (e2.trans HN1.out.symm);obtain ⟨v',e5,e6⟩:=e4 k t HXt.out;obtain rfl:=IsBd.inj HX.out HV.out HD.out e5;exact HZ2.out e6
   ·obtain rfl : pl = k:=by omega
    go_wp2
    go_ret;exact BoolB.t ⟨_,n,HX1.out,HN1.out,HC.out,fun j t ht => HQ.out j t (by have:=(List.getElem?_eq_some_iff.1 ht).1;omega) ht⟩ HB.out

theorem irun_any (d : Ad) (c : Cl) (p : Pd) (pa : Option Addr) (pl pc : Nat) (w : World) (hr : ClRow w d c.raw) (hn : RisBy Nd.n c.ns) (hx : RisBy Xd.n c.xs) (hv : RisBy Vd.n c.vs) (hne : ∀ (j : Nat) v,c.vs[j]? = some v → ¬ v.n = ⟨#[]⟩) (hp : TxRow w pa pl pc p.zs) :
  Calls Tryz.prog 149 #[.agg #[.slice d.a1 d.l1 d.c1,.slice d.a2 d.l2 d.c2,.slice d.a3 d.l3 d.c3,.slice d.a4 d.l4 d.c4,.slice d.a5 d.l5 d.c5,.int .i64 c.now],.agg #[.string p.n,.int .i64 p.c,.string p.z,.slice pa pl pc,.string p.d,.int .i64 p.p]] w (BoolB (RunI c p) w):=by
 have HR:=hidK hr;have HN:=hidK hn;have HX:=hidK hx;have HV:=hidK hv;have HNE:=hidK hne;have HP:=hidK hp;have hlc : pl ≤ 9223372036854775807:=Nat.le_trans hp.2.1 hp.2.2.1;have hzl : p.zs.length = pl:=hp.1;have HB:=hidK (Below.refl w.heap.size w);clear hr hn hx hv hne hp
 go_enter Tryz.func149,Tryz.ntmps149
 go_wp2_with fail;refine (thend_any d c.now c.ns p.d w _ HR.out.n (below2 _ _ _)).mono ?_;rintro e w1 ⟨hb,hf⟩;obtain ⟨HA0,HA1,hbx⟩:=slots2 hb;have Bk:=hidK HA0;have Bp:=hidK HA1;replace HB:=upB HB hbx;clear hb hbx HA0 HA1
 rcases hf with ⟨hh,n,va,vl,vc,hx,hn,rfl,z0,z1,hvr⟩ | ⟨hh,rfl⟩
 rotate_left
 ·have HH:=hidK hh;clear hh;obtain ⟨k0,k1,k2,k3,k4,k5⟩:=cs6 Bk.out;have ltk_1:=lt_of_some Bk.out;obtain ⟨p0,p1,p2,p3,p4,p5⟩:=cs6 Bp.out;have ltp_1:=lt_of_some Bp.out
  go_wp2
  go_ret;refine BoolB.f (fun ⟨i,n,e1,e2,_⟩ => ?_) (HB.out.alloc HB.out.size _);have:=(hit_at HN.out e1 e2).2;rw [HH.out] at this
  cases this
 have HX1:=hidK hx;have HN1:=hidK hn;have HT1:=hidK hvr;clear hx hn hh z0 z1 hvr
 cases hd : n.d
 rotate_left
 ·obtain ⟨k0,k1,k2,k3,k4,k5⟩:=cs6 Bk.out;have ltk_1:=lt_of_some Bk.out;obtain ⟨p0,p1,p2,p3,p4,p5⟩:=cs6 Bp.out;have ltp_1:=lt_of_some Bp.out
  go_wp2
  go_ret;refine BoolB.f (fun ⟨i,m,e1,e2,e3,_⟩ => ?_) (HB.out.alloc HB.out.size _);obtain ⟨_,rfl⟩:=HN.out.inj e1 HX1.out (e2.trans HN1.out.symm);rw [hd] at e3
  cases e3
 have HC:=hidK hd;clear hd;obtain ⟨k0,k1,k2,k3,k4,k5⟩:=cs6 Bk.out;have ltk_1:=lt_of_some Bk.out;obtain ⟨p0,p1,p2,p3,p4,p5⟩:=cs6 Bp.out;have ltp_1:=lt_of_some Bp.out
 go_wp2
 go_loopw [27] (fun i wr => ∃ k : Nat,k ≤ pl ∧ i = .int .i64 k ∧ Hid (∀ (j : Nat) t,j < k → p.zs[j]? = some t → ∃ v,IsBd c t v ∧ InL n.zs v.n) ∧ Hid (Below w.heap.size w wr) ∧ Hid (wr.heap[w.heap.size]? = some (.cells #[.slice d.a1 d.l1 d.c1,.slice d.a2 d.l2 d.c2,.slice d.a3 d.l3 d.c3,.slice d.a4 d.l4 d.c4,.slice d.a5 d.l5 d.c5,.int .i64 c.now] 40 (0,0))) ∧ Hid (wr.heap[w1.heap.size]? = some (.cells #[.string n.n,.string n.z,.int .i64 n.c,.int .i64 n.s,.int .i64 n.u,.bool false,.slice va vl vc] 120 (0,0)))) (fun i _ => pl - (intOf i).toNat)
 case atStart => exact ⟨0,by omega,rfl,fun _ _ h => absurd h (by omega),HB.out.alloc HB.out.size _,(Below.heap_alloc _ _ _ (lt_of_some Bk.out)).trans Bk.out,Array.getElem?_push_size⟩
 case round =>
  obtain ⟨k,hk,rfl,HQ,HB,Bk,Bn⟩:=hrel
  by_cases hlt : k < pl
  ·obtain ⟨b,o,t,rfl,hb,hx,hc,hsz⟩:=(HP.out.below HB.out).at hlt;have HXt:=hidK hx;clear hx hsz;obtain ⟨k0,k1,k2,k3,k4,k5⟩:=cs6 Bk.out;have ltk_0:=lt_of_some Bk.out;obtain ⟨n0,n1,n2,n3,n4,n5,n6⟩:=cs7 Bn.out;have ltn_0:=lt_of_some Bn.out;go_wp2_with fail;refine (ibd_any d c t w _ HR.out HB.out HX.out HV.out HNE.out).mono ?_;rintro e w2 ⟨hb2,hf⟩;clear k0 k1 k2 k3 k4 k5 ltk_0 n0 n1 n2 n3 n4 n5 n6 ltn_0;replace Bk:=upK Bk hb2;replace Bn:=upK Bn hb2;replace HB:=upB HB hb2;clear hb2;clear hb hc
   rcases hf with ⟨v,xa,xl,xc,hbd,rfl,z0,z2,hxr⟩ | ⟨hbd,rfl⟩
   rotate_left
   ·have HD:=hidK hbd;clear hbd;obtain ⟨k0,k1,k2,k3,k4,k5⟩:=cs6 Bk.out;have ltk_1:=lt_of_some Bk.out;obtain ⟨n0,n1,n2,n3,n4,n5,n6⟩:=cs7 Bn.out;have ltn_1:=lt_of_some Bn.out
    go_wp2
    go_ret;refine BoolB.f (fun ⟨i,m,e1,e2,e3,e4⟩ => ?_) (HB.out.alloc HB.out.size _);obtain ⟨v,e5,_⟩:=e4 k t HXt.out;exact HD.out v e5
   have HD:=hidK hbd;have HTx:=hidK hxr;clear hbd hxr z0 z2;obtain ⟨k0,k1,k2,k3,k4,k5⟩:=cs6 Bk.out;have ltk_1:=lt_of_some Bk.out;obtain ⟨n0,n1,n2,n3,n4,n5,n6⟩:=cs7 Bn.out;have ltn_1:=lt_of_some Bn.out;go_wp2_with fail;refine (icontains_any va vl vc n.zs v.n _ (HT1.out.below (HB.out.trans ((below1 _ _).mono HB.out.size)))).mono ?_;rintro e w3 ⟨r,rfl,hi,hb3⟩;clear k0 k1 k2 k3 k4 k5 ltk_1 n0 n1 n2 n3 n4 n5 n6 ltn_1;obtain ⟨HA0,hbx⟩:=slots1 hb3;replace Bk:=upK Bk hbx;replace Bn:=upK Bn hbx;have Bv:=hidK HA0;replace HB:=upB HB hbx;clear hb3 hbx HA0;have HI:=hidK hi;clear hi
   cases r
   ·go_wp2
    go_ret;refine BoolB.f (fun ⟨i,m,e1,e2,e3,e4⟩ => ?_) HB.out;obtain ⟨_,rfl⟩:=HN.out.inj e1 HX1.out (e2.trans HN1.out.symm);obtain ⟨v',e5,e6⟩:=e4 k t HXt.out;obtain rfl:=IsBd.inj HX.out HV.out HD.out e5;have:=HI.out.2 e6
    cases this
   ·go_wp2_with fail;refine ⟨⟨k + 1,by omega,by go_num,fun j s hj hs => ?_,HB.out,Bk.out,Bn.out⟩,by simp [intOf];omega⟩
    by_cases e : j = k
    ·subst e;rw [HXt.out] at hs;obtain rfl:=Option.some.inj hs;exact ⟨v,HD.out,HI.out.1 (by first | trivial | rfl)⟩
    ·exact HQ.out j s (by omega) hs
  ·obtain rfl : pl = k:=by omega
   go_wp2
   go_ret;exact BoolB.t ⟨_,n,HX1.out,HN1.out,HC.out,fun j t ht => HQ.out j t (by have:=(List.getElem?_eq_some_iff.1 ht).1;omega) ht⟩ HB.out

theorem imnt_any (d : Ad) (c : Cl) (n : Nd) (pa : Option Addr) (pl pc : Nat) (w : World) (hr : ClRow w d c.raw) (hv : RisBy Vd.n c.vs) (hp : TxRow w pa pl pc n.zs) :
  Calls Tryz.prog 148 #[.agg #[.slice d.a1 d.l1 d.c1,.slice d.a2 d.l2 d.c2,.slice d.a3 d.l3 d.c3,.slice d.a4 d.l4 d.c4,.slice d.a5 d.l5 d.c5,.int .i64 c.now],.agg #[.string n.n,.string n.z,.int .i64 n.c,.int .i64 n.s,.int .i64 n.u,.bool n.d,.slice pa pl pc]] w (BoolB (MntI c n) w):=by
 have HR:=hidK hr;have HV:=hidK hv;have HP:=hidK hp;have hlc : pl ≤ 9223372036854775807:=Nat.le_trans hp.2.1 hp.2.2.1;have hzl : n.zs.length = pl:=hp.1;clear hr hv hp
 go_enter Tryz.func148,Tryz.ntmps148
 go_wp2
 go_loopw [12] (fun i wr => ∃ k : Nat,k ≤ pl ∧ i = .int .i64 k ∧ Hid (∀ (j : Nat) t,j < k → n.zs[j]? = some t → ∃ (i : Nat) (v : Vd),c.vs[i]? = some v ∧ v.n = t ∧ (n.d = true ∨ InL v.zs n.n)) ∧ Hid (Below w.heap.size w wr) ∧ Hid (wr.heap[w.heap.size]? = some (.cells #[.slice d.a1 d.l1 d.c1,.slice d.a2 d.l2 d.c2,.slice d.a3 d.l3 d.c3,.slice d.a4 d.l4 d.c4,.slice d.a5 d.l5 d.c5,.int .i64 c.now] 40 (0,0))) ∧ Hid (wr.heap[w.heap.size + 1]? = some (.cells #[.string n.n,.string n.z,.int .i64 n.c,.int .i64 n.s,.int .i64 n.u,.bool n.d,.slice pa pl pc] 120 (0,0)))) (fun i _ => pl - (intOf i).toNat)
 case atStart => exact ⟨0,by omega,rfl,fun _ _ h => absurd h (by omega),below2 _ _ _,heap2_0 _ _ _,heap2_1 _ _ _⟩
 case round =>
  obtain ⟨k,hk,rfl,HQ,HB,Bk,Bn⟩:=hrel
  by_cases hlt : k < pl
  ·obtain ⟨b,o,t,rfl,hb,hx,hc,hsz⟩:=(HP.out.below HB.out).at hlt;have HXt:=hidK hx;clear hx hsz;obtain ⟨k0,k1,k2,k3,k4,k5⟩:=cs6 Bk.out;have ltk_0:=lt_of_some Bk.out;obtain ⟨n0,n1,n2,n3,n4,n5,n6⟩:=cs7 Bn.out;have ltn_0:=lt_of_some Bn.out;go_wp2_with fail;refine (thevd_any d c.now c.vs t w _ HR.out.v HB.out).mono ?_;rintro e w2 ⟨hb2,hf⟩;clear k0 k1 k2 k3 k4 k5 ltk_0 n0 n1 n2 n3 n4 n5 n6 ltn_0;replace Bk:=upK Bk hb2;replace Bn:=upK Bn hb2;replace HB:=upB HB hb2;clear hb2;clear hb hc
   rcases hf with ⟨hh,v,va,vl,vc,hx,hn,rfl,z0,z2,z3,z5,hvr⟩ | ⟨hh,rfl⟩
   rotate_left
   ·have HH:=hidK hh;clear hh;obtain ⟨k0,k1,k2,k3,k4,k5⟩:=cs6 Bk.out;have ltk_1:=lt_of_some Bk.out;obtain ⟨n0,n1,n2,n3,n4,n5,n6⟩:=cs7 Bn.out;have ltn_1:=lt_of_some Bn.out
    go_wp2
    go_ret;refine BoolB.f (fun h => ?_) (HB.out.alloc HB.out.size _);obtain ⟨i,v,e1,e2,_⟩:=h k t HXt.out;have:=(hit_at HV.out e1 e2).2;rw [HH.out] at this
    cases this
   have HXv:=hidK hx;have HNv:=hidK hn;have HTv:=hidK hvr;clear hx hn hh z0 z2 z3 z5 hvr
   rcases Bool.eq_false_or_eq_true n.d with hd | hd
   ·have HD:=hidK hd;clear hd;obtain ⟨k0,k1,k2,k3,k4,k5⟩:=cs6 Bk.out;have ltk_1:=lt_of_some Bk.out;obtain ⟨n0,n1,n2,n3,n4,-,n6⟩:=cs7 Bn.out;have ltn_1:=lt_of_some Bn.out;have n5 : w2.cell? ⟨w.heap.size + 1,5,none⟩ = some (.bool true):=(cellK Bn.out 5).trans (congrArg (fun z => some (Value.bool z)) HD.out);go_wp2_with fail;refine ⟨⟨k + 1,by omega,by go_num,fun j s hj hs => ?_,(HB.out.alloc HB.out.size _),(Below.heap_alloc _ _ _ (lt_of_some Bk.out)).trans Bk.out,(Below.heap_alloc _ _ _ (lt_of_some Bn.out)).trans Bn.out⟩,by simp [intOf];omega⟩
    by_cases e : j = k
    ·subst e;rw [HXt.out] at hs;obtain rfl:=Option.some.inj hs;exact ⟨_,v,HXv.out,HNv.out,.inl HD.out⟩
    ·exact HQ.out j s (by omega) hs
   ·have HD:=hidK hd;clear hd;obtain ⟨k0,k1,k2,k3,k4,k5⟩:=cs6 Bk.out;have ltk_1:=lt_of_some Bk.out;obtain ⟨n0,n1,n2,n3,n4,-,n6⟩:=cs7 Bn.out;have ltn_1:=lt_of_some Bn.out;have n5 : w2.cell? ⟨w.heap.size + 1,5,none⟩ = some (.bool false):=(cellK Bn.out 5).trans (congrArg (fun z => some (Value.bool z)) HD.out);go_wp2_with fail;refine (icontains_any va vl vc v.zs n.n _ (HTv.out.below (HB.out.trans ((below1 _ _).mono HB.out.size)))).mono ?_;rintro e w3 ⟨r,rfl,hi,hb3⟩;clear k0 k1 k2 k3 k4 k5 ltk_1 n0 n1 n2 n3 n4 n6 ltn_1 n5;obtain ⟨HA0,hbx⟩:=slots1 hb3;replace Bk:=upK Bk hbx;replace Bn:=upK Bn hbx;have Bv:=hidK HA0;replace HB:=upB HB hbx;clear hb3 hbx HA0;have HI:=hidK hi;clear hi
    cases r
    ·go_wp2
     go_ret;refine BoolB.f (fun h => ?_) HB.out;obtain ⟨i,v',e1,e2,e3⟩:=h k t HXt.out;obtain ⟨_,rfl⟩:=HV.out.inj e1 HXv.out (e2.trans HNv.out.symm)
     rcases e3 with e3 | e3
     ·rw [HD.out] at e3;cases e3
     ·have:=HI.out.2 e3
      cases this
    ·go_wp2_with fail;refine ⟨⟨k + 1,by omega,by go_num,fun j s hj hs => ?_,HB.out,Bk.out,Bn.out⟩,by simp [intOf];omega⟩
     by_cases e : j = k
     ·subst e;rw [HXt.out] at hs;obtain rfl:=Option.some.inj hs;exact ⟨_,v,HXv.out,HNv.out,.inr (HI.out.1 (by first | trivial | rfl))⟩
     ·exact HQ.out j s (by omega) hs
  ·obtain rfl : pl = k:=by omega
   go_wp2
   go_ret;exact BoolB.t (fun j t ht => HQ.out j t (by have:=(List.getElem?_eq_some_iff.1 ht).1;omega) ht) HB.out

open Classical in
noncomputable def onOf (t : ByteArray) : List Vd → Int
 | [] => 0
 | v :: vs => (if InL v.zs t then 1 else 0) + onOf t vs
theorem onOf_append (t : ByteArray) : ∀ vs us : List Vd,onOf t (vs ++ us) = onOf t vs + onOf t us
 | [],us => by simp [onOf]
 | v :: vs,us => by simp [onOf,onOf_append t vs];omega
open Classical in
theorem onOf_step {t : ByteArray} {vs : List Vd} {k : Nat} {v : Vd} (h : vs[k]? = some v) : onOf t (vs.take (k + 1)) = onOf t (vs.take k) + (if InL v.zs t then 1 else 0):=by
 rw [List.take_add_one,h,onOf_append]
 simp [onOf]

theorem iusedSlots_any (d : Ad) (now : Int) (vs : List Vd) (t : ByteArray) (w : World) (hr : RRow w d.a3 d.l3 d.c3 8 (vs.map vdF)) (hl : vs.length ≤ 8) :
  Calls Tryz.prog 147 #[.agg #[.slice d.a1 d.l1 d.c1,.slice d.a2 d.l2 d.c2,.slice d.a3 d.l3 d.c3,.slice d.a4 d.l4 d.c4,.slice d.a5 d.l5 d.c5,.int .i64 now],.string t] w fun e w' => e = .returned (.int .i64 (onOf t vs)) ∧ Below w.heap.size w w':=by
 obtain ⟨a1,l1,y1,a2,l2,y2,a3,l3,y3,a4,l4,y4,a5,l5,y5⟩:=d;dsimp only at hr ⊢;have HR:=hidK hr
 have hxl : vs.length = l3:=by simpa using hr.1
 clear hr
 go_enter Tryz.func147,Tryz.ntmps147
 go_wp2
 go_loopw [5,11] (fun q i wr => ∃ (k : Nat) (s : Int),k ≤ l3 ∧ q = .int .i64 s ∧ i = .int .i64 k ∧ Hid (s = onOf t (vs.take k)) ∧ 0 ≤ s ∧ s ≤ k ∧ Hid (Below w.heap.size w wr)) (fun _ i _ => l3 - (intOf i).toNat)
 case atStart => exact ⟨0,0,by omega,rfl,rfl,rfl,by omega,by omega,below1 _ _⟩
 case round =>
  obtain ⟨k,s,hk,rfl,rfl,HS,hs0,hs1,HB⟩:=hrel
  by_cases hlt : k < l3
  ·obtain ⟨b,o,v,rfl,hb,hx,hat⟩:=vd_at (HR.out.below HB.out) hlt;obtain ⟨va,vl,vc,hvr,z0,z2,z3,z5,c0,c1,c2,c3,c4,c5,c6,c7⟩:=vd_cells hat;have HX:=hidK hx;have HT:=hidK hvr;clear hat hx z0 z2 z3 z5 hvr;go_wp2_with fail;refine (icontains_any va vl vc v.zs t _ (HT.out.below (below1 _ _))).mono ?_;rintro e w1 ⟨r,rfl,hi,hb2⟩;obtain ⟨HA0,hbx⟩:=slots1 hb2;have Bv:=hidK HA0;replace HB:=upB HB hbx;clear hb2 hbx HA0;have HI:=hidK hi;clear hi hb c0 c1 c2 c3 c4 c5 c6 c7
   cases r
   ·go_wp2
    refine ⟨⟨k + 1,s,by omega,rfl,by go_num,?_,by omega,by omega,HB.out⟩,by simp [intOf];omega⟩
    show _ = _
    rw [onOf_step HX.out,if_neg (fun h => by have:=HI.out.2 h;cases this),← HS.out,Int.add_zero]
   ·go_wp2
    refine ⟨⟨k + 1,s + 1,by omega,by go_num,by go_num,?_,by omega,by omega,HB.out⟩,by simp [intOf];omega⟩
    show _ = _
    rw [onOf_step HX.out,if_pos (HI.out.1 (by first | trivial | rfl)),← HS.out]
  ·obtain rfl : l3 = k:=by omega
   go_wp2
   go_ret;exact ⟨congrArg (fun z => Ending.returned (.int .i64 z)) (HS.out.trans (by rw [List.take_of_length_le (by omega)])),HB.out⟩

def PQ1 (c : Cl) (p : Pd) : Prop:=(∀ (j : Nat) t,p.zs[j]? = some t → hit Xd.n c.xs t = true) ∧ (p.d = ⟨#[]⟩ ∨ SuitI c p)
def PQ2 (c : Cl) (n : Nd) : Prop:=cpuOf n.n c.ps ≤ n.c
def PQ3 (c : Cl) (v : Vd) : Prop:=v.x = true → ¬ v.m = ⟨#[]⟩ → OneNode c v.m
def PlacedI (c : Cl) : Prop:=(∀ (j : Nat) z,c.ps[j]? = some z → PQ1 c z) ∧ (∀ (j : Nat) z,c.ns[j]? = some z → PQ2 c z) ∧ (∀ (j : Nat) z,c.vs[j]? = some z → PQ3 c z)

theorem iplaced_any (d : Ad) (c : Cl) (w : World) (hr : ClRow w d c.raw) (hn : RisBy Nd.n c.ns) (hx : RisBy Xd.n c.xs) (hv : RisBy Vd.n c.vs) (hne : ∀ (j : Nat) v,c.vs[j]? = some v → ¬ v.n = ⟨#[]⟩) (hps8 : c.ps.length ≤ 8) (hpc : ∀ (j : Nat) p,c.ps[j]? = some p → 0 ≤ p.c ∧ p.c ≤ 1000000) (hG : ens w) :
  Calls Tryz.prog 94 #[.agg #[.slice d.a1 d.l1 d.c1,.slice d.a2 d.l2 d.c2,.slice d.a3 d.l3 d.c3,.slice d.a4 d.l4 d.c4,.slice d.a5 d.l5 d.c5,.int .i64 c.now]] w (BoolB (PlacedI c) w):=by
 obtain ⟨a1,l1,y1,a2,l2,y2,a3,l3,y3,a4,l4,y4,a5,l5,y5⟩:=d;dsimp only;have HR:=hidK hr
 have hl1 : c.ns.length = l1:=by simpa using (show (c.ns.map ndF).length = l1 from hr.n.1)
 have hm1 : l1 ≤ 9223372036854775807:=Nat.le_trans hr.n.2.1 hr.n.2.2.1
 have hl2 : c.ks.length = l2:=by simpa using (show (c.ks.map kdF).length = l2 from hr.k.1)
 have hm2 : l2 ≤ 9223372036854775807:=Nat.le_trans hr.k.2.1 hr.k.2.2.1
 have hl3 : c.vs.length = l3:=by simpa using (show (c.vs.map vdF).length = l3 from hr.v.1)
 have hm3 : l3 ≤ 9223372036854775807:=Nat.le_trans hr.v.2.1 hr.v.2.2.1
 have hl4 : c.xs.length = l4:=by simpa using (show (c.xs.map xdF).length = l4 from hr.x.1)
 have hm4 : l4 ≤ 9223372036854775807:=Nat.le_trans hr.x.2.1 hr.x.2.2.1
 have hl5 : c.ps.length = l5:=by simpa using (show (c.ps.map pdF).length = l5 from hr.p.1)
 have hm5 : l5 ≤ 9223372036854775807:=Nat.le_trans hr.p.2.1 hr.p.2.2.1;clear hr;have HE:=hidK hG;have HNR:=hidK hn;have HXR:=hidK hx;have HVR:=hidK hv;have HNE:=hidK hne;have HL5:=hidK hps8;have HPC:=hidK hpc;clear hn hx hv hne hps8 hpc hG
 go_enter Tryz.func94,Tryz.ntmps94
 go_wp2
 go_loopw [12] (fun i wr => ∃ k : Nat,k ≤ l5 ∧ i = .int .i64 k ∧ Hid (∀ (j : Nat) z,j < k → c.ps[j]? = some z → PQ1 c z) ∧ Hid (Below w.heap.size w wr) ∧ Hid (wr.heap[w.heap.size]? = some (.cells #[.slice a1 l1 y1,.slice a2 l2 y2,.slice a3 l3 y3,.slice a4 l4 y4,.slice a5 l5 y5,.int .i64 c.now] 40 (0,0)))) (fun i _ => l5 - (intOf i).toNat)
 case atStart => exact ⟨0,by omega,rfl,fun _ _ h => absurd h (by omega),below1 _ _,Array.getElem?_push_size⟩
 case round =>
  obtain ⟨k,hk,rfl,HQ,HB,Bk⟩:=hrel
  by_cases hlt : k < l5
  ·obtain ⟨b,o,p,rfl,hb,hx,hat⟩:=pd_at (HR.out.p.below HB.out) hlt;obtain ⟨va,vl,vc,hvr,z0,z2,z4,c0,c1,c2,c3,c4,c5⟩:=pd_cells hat;have HXp:=hidK hx;have HTp:=hidK hvr;have HZp0:=hidK z0;have HZp2:=hidK z2;have HZp4:=hidK z4;clear hat hx z0 z2 z4 hvr;obtain ⟨k0,k1,k2,k3,k4,k5⟩:=cs6 Bk.out;have ltk_0:=lt_of_some Bk.out;go_wp2_with fail;refine (iclaimsWhy_any ⟨a1,l1,y1,a2,l2,y2,a3,l3,y3,a4,l4,y4,(some ⟨b,o,none⟩),l5,y5⟩ c.now c.xs va vl vc p.zs _ (HR.out.x.below (HB.out.trans ((below1 _ _).mono HB.out.size))) (HTp.out.below (below1 _ _)) (HE.out.below (HB.out.trans ((below1 _ _).mono HB.out.size)))).mono ?_;rintro e w1 ⟨hb2,hf⟩;clear k0 k1 k2 k3 k4 k5 ltk_0;obtain ⟨HA0,hbx⟩:=slots1 hb2;replace Bk:=upK Bk hbx;have Br:=hidK HA0;replace HTp:=hidK (HTp.out.below hbx);replace HB:=upB HB hbx;clear hb2 hbx HA0;clear hb c0 c1 c2 c3 c4 c5
   rcases hf with ⟨hh,rfl⟩ | ⟨hh,T,q,rfl⟩
   rotate_left
   ·have HH:=hidK hh;clear hh;obtain ⟨k0,k1,k2,k3,k4,k5⟩:=cs6 Bk.out;have ltk_1:=lt_of_some Bk.out;obtain ⟨r0,r1,r2,r3,r4,r5⟩:=cs6 Br.out;have ltr_1:=lt_of_some Br.out
    go_wp2
    go_ret;exact BoolB.f (fun h => HH.out (h.1 k p HXp.out).1) HB.out
   have HH:=hidK hh;clear hh
   by_cases he : p.d = ⟨#[]⟩
   ·have hq:=isE_y he;have HEm:=hidK he;clear he;obtain ⟨k0,k1,k2,k3,k4,k5⟩:=cs6 Bk.out;have ltk_1:=lt_of_some Bk.out;obtain ⟨r0,r1,r2,r3,r4,r5⟩:=cs6 Br.out;have ltr_1:=lt_of_some Br.out;go_wp2_with fail;refine ⟨⟨k + 1,by omega,by go_num,fun j z hj hz => ?_,HB.out,Bk.out⟩,by simp [intOf];omega⟩
    by_cases e : j = k
    ·subst e;rw [HXp.out] at hz;obtain rfl:=Option.some.inj hz;exact ⟨HH.out,.inl HEm.out⟩
    ·exact HQ.out j z (by omega) hz
   ·have hq:=isE_no he;have HEm:=hidK he;clear he;obtain ⟨k0,k1,k2,k3,k4,k5⟩:=cs6 Bk.out;have ltk_1:=lt_of_some Bk.out;obtain ⟨r0,r1,r2,r3,r4,r5⟩:=cs6 Br.out;have ltr_1:=lt_of_some Br.out;go_wp2_with fail;refine (isuit_any ⟨a1,l1,y1,a2,l2,y2,a3,l3,y3,a4,l4,y4,(some ⟨b,o,none⟩),l5,y5⟩ c p va vl vc _ (HR.out.below HB.out) HNR.out HXR.out HVR.out HNE.out HTp.out).mono ?_;rintro e w2 ⟨r,rfl,hi,hb3⟩;clear k0 k1 k2 k3 k4 k5 ltk_1 r0 r1 r2 r3 r4 r5 ltr_1;replace Bk:=upK Bk hb3;replace Br:=upK Br hb3;replace HTp:=hidK (HTp.out.below hb3);replace HB:=upB HB hb3;clear hb3;have HI:=hidK hi;clear hi
    cases r
    ·go_wp2
     go_ret;refine BoolB.f (fun h => ?_) HB.out
     rcases (h.1 k p HXp.out).2 with h2 | h2
     ·exact HEm.out h2
     ·have:=HI.out.2 h2
      cases this
    ·go_wp2_with fail;refine ⟨⟨k + 1,by omega,by go_num,fun j z hj hz => ?_,HB.out,Bk.out⟩,by simp [intOf];omega⟩
     by_cases e : j = k
     ·subst e;rw [HXp.out] at hz;obtain rfl:=Option.some.inj hz;exact ⟨HH.out,.inr (HI.out.1 (by first | trivial | rfl))⟩
     ·exact HQ.out j z (by omega) hz
  ·obtain rfl : l5 = k:=by omega
   have HQ1 : Hid (∀ (j : Nat) z,c.ps[j]? = some z → PQ1 c z):=fun j z hz => HQ.out j z (by have:=(List.getElem?_eq_some_iff.1 hz).1;omega) hz;clear HQ;have kc : wr.cell? ⟨w.heap.size,0,none⟩ = some (.slice a1 l1 y1):=cellK Bk.out 0;have kl : w.heap.size < wr.heap.size:=lt_of_some Bk.out
   go_wp2
   go_loopw [36] (fun i wr => ∃ k : Nat,k ≤ l1 ∧ i = .int .i64 k ∧ Hid (∀ (j : Nat) z,j < k → c.ns[j]? = some z → PQ2 c z) ∧ Hid (Below w.heap.size w wr) ∧ Hid (wr.heap[w.heap.size]? = some (.cells #[.slice a1 l1 y1,.slice a2 l2 y2,.slice a3 l3 y3,.slice a4 l4 y4,.slice a5 l5 y5,.int .i64 c.now] 40 (0,0)))) (fun i _ => l1 - (intOf i).toNat)
   case atStart => exact ⟨0,by omega,rfl,fun _ _ h => absurd h (by omega),HB.out,Bk.out⟩
   case round =>
    obtain ⟨k,hk,rfl,HQ,HB,Bk⟩:=hrel
    by_cases hlt : k < l1
    ·obtain ⟨b,o,n,rfl,hb,hx,hat⟩:=nd_at (HR.out.n.below HB.out) hlt;obtain ⟨va,vl,vc,hvr,z0,z1,c0,c1,c2,c3,c4,c5,c6⟩:=nd_cells hat;have HXn:=hidK hx;have HTn:=hidK hvr;have HZn0:=hidK z0;have HZn1:=hidK z1;clear hat hx z0 z1 hvr;have GK:=hidK ((Below.heap_alloc wr (.cells #[.string n.n,.string n.z,.int .i64 n.c,.int .i64 n.s,.int .i64 n.u,.bool n.d,.slice va vl vc] 120) _ (lt_of_some Bk.out)).trans Bk.out);have GR : Hid ((wr.alloc (.cells #[.string n.n,.string n.z,.int .i64 n.c,.int .i64 n.s,.int .i64 n.u,.bool n.d,.slice va vl vc] 120)).heap[wr.heap.size]? = some (.cells #[.string n.n,.string n.z,.int .i64 n.c,.int .i64 n.s,.int .i64 n.u,.bool n.d,.slice va vl vc] 120 (0,0))):=Array.getElem?_push_size;have HW:=hidK (HB.out.trans ((below1 wr (.cells #[.string n.n,.string n.z,.int .i64 n.c,.int .i64 n.s,.int .i64 n.u,.bool n.d,.slice va vl vc] 120)).mono HB.out.size));obtain ⟨k0,k1,k2,k3,k4,k5⟩:=sl6 GK;obtain ⟨r0,r1,r2,r3,r4,r5,r6⟩:=sl7 GR;have hne0:=Wd.ne (wr.alloc (.cells #[.string n.n,.string n.z,.int .i64 n.c,.int .i64 n.s,.int .i64 n.u,.bool n.d,.slice va vl vc] 120));have HC:=hidK (fun q : Wd (wr.alloc (.cells #[.string n.n,.string n.z,.int .i64 n.c,.int .i64 n.s,.int .i64 n.u,.bool n.d,.slice va vl vc] 120)) => iusedCpu_any ⟨(some ⟨b,o,none⟩),l1,y1,a2,l2,y2,a3,l3,y3,a4,l4,y4,a5,l5,y5⟩ c.now c.ps n.n q.w (HR.out.p.below (HW.out.trans (q.b.mono HW.out.size))) HL5.out HPC.out);go_wp2_with fail;refine wp_region_wide (by kernel_rfl) (by kernel_rfl) ?_
     repeat (go_big_quiet_step (first | (go_at_call 144;exact Calls.wide (HC.out _)) | fail))
     refine wpQuiet_nil ?_;rintro _ ⟨q,rfl⟩;have HB2:=upB HW q.b;have Bk2:=upK GK q.b;clear HC hne0 k0 k1 k2 k3 k4 k5 r0 r1 r2 r3 r4 r5 r6 c0 c1 c2 c3 c4 c5 c6 hb HB Bk HW GK GR;have HB:=HB2;have Bk:=Bk2;clear HB2 Bk2
     by_cases hq : cpuOf n.n c.ps ≤ n.c
     ·go_wp2_with fail;refine ⟨⟨k + 1,by omega,by go_num,fun j z hj hz => ?_,HB.out,Bk.out⟩,by simp [intOf];omega⟩
      by_cases e : j = k
      ·subst e;rw [HXn.out] at hz;obtain rfl:=Option.some.inj hz;exact hq
      ·exact HQ.out j z (by omega) hz
     ·have HQ2:=hidK hq
      go_wp2
      go_ret;exact BoolB.f (fun h => by have h1 : cpuOf n.n c.ps ≤ n.c:=(h.2.1 k n HXn.out);have h2:=HQ2.out;omega) HB.out
    ·obtain rfl : l1 = k:=by omega
     have HQ2 : Hid (∀ (j : Nat) z,c.ns[j]? = some z → PQ2 c z):=fun j z hz => HQ.out j z (by have:=(List.getElem?_eq_some_iff.1 hz).1;omega) hz;clear HQ;have kc : wr.cell? ⟨w.heap.size,2,none⟩ = some (.slice a3 l3 y3):=cellK Bk.out 2;have kl : w.heap.size < wr.heap.size:=lt_of_some Bk.out
     go_wp2
     go_loopw [51] (fun i wr => ∃ k : Nat,k ≤ l3 ∧ i = .int .i64 k ∧ Hid (∀ (j : Nat) z,j < k → c.vs[j]? = some z → PQ3 c z) ∧ Hid (Below w.heap.size w wr) ∧ Hid (wr.heap[w.heap.size]? = some (.cells #[.slice a1 l1 y1,.slice a2 l2 y2,.slice a3 l3 y3,.slice a4 l4 y4,.slice a5 l5 y5,.int .i64 c.now] 40 (0,0)))) (fun i _ => l3 - (intOf i).toNat)
     case atStart => exact ⟨0,by omega,rfl,fun _ _ h => absurd h (by omega),HB.out,Bk.out⟩
     case round =>
      obtain ⟨k,hk,rfl,HQ,HB,Bk⟩:=hrel
      by_cases hlt : k < l3
      ·obtain ⟨b,o,v,rfl,hb,hx,hat⟩:=vd_at (HR.out.v.below HB.out) hlt;obtain ⟨va,vl,vc,hvr,z0,z2,z3,z5,c0,c1,c2,c3,c4,c5,c6,c7⟩:=vd_cells hat;have HXv:=hidK hx;have HTv:=hidK hvr;have HZv0:=hidK z0;have HZv2:=hidK z2;have HZv3:=hidK z3;have HZv5:=hidK z5;clear hat hx z0 z2 z3 z5 hvr
       have hcase : (v.x = false ∨ v.m = ⟨#[]⟩) ∨ (v.x = true ∧ ¬ v.m = ⟨#[]⟩):=by
        rcases Bool.eq_false_or_eq_true v.x with h | h
        ·by_cases e : v.m = ⟨#[]⟩
         ·exact .inl (.inr e)
         ·exact .inr ⟨h,e⟩
        ·exact .inl (.inl h)
       rcases hcase with hcase | ⟨hs,he⟩
       ·have HCs:=hidK hcase
        rcases hcase with hs | he
        ·rw [hs] at c4;clear hs;obtain ⟨k0,k1,k2,k3,k4,k5⟩:=cs6 Bk.out;have ltk_0:=lt_of_some Bk.out
         go_wp2
         refine ⟨⟨k + 1,by omega,by go_num,fun j z hj hz => ?_,(HB.out.alloc HB.out.size _),(Below.heap_alloc _ _ _ (lt_of_some Bk.out)).trans Bk.out⟩,by simp [intOf];omega⟩
         by_cases e : j = k
         ·subst e;rw [HXv.out] at hz;obtain rfl:=Option.some.inj hz
          exact fun h1 h2 => by rcases HCs.out with h | h;(rw [h] at h1;cases h1);exact absurd h h2
         ·exact HQ.out j z (by omega) hz
        ·have hq:=isE_y he;clear he
         rcases Bool.eq_false_or_eq_true v.x with hs | hs
         ·rw [hs] at c4;clear hs;obtain ⟨k0,k1,k2,k3,k4,k5⟩:=cs6 Bk.out;have ltk_0:=lt_of_some Bk.out
          go_wp2
          refine ⟨⟨k + 1,by omega,by go_num,fun j z hj hz => ?_,(HB.out.alloc HB.out.size _),(Below.heap_alloc _ _ _ (lt_of_some Bk.out)).trans Bk.out⟩,by simp [intOf];omega⟩
          by_cases e : j = k
          ·subst e;rw [HXv.out] at hz;obtain rfl:=Option.some.inj hz
           exact fun h1 h2 => by rcases HCs.out with h | h;(rw [h] at h1;cases h1);exact absurd h h2
          ·exact HQ.out j z (by omega) hz
         ·rw [hs] at c4;clear hs;obtain ⟨k0,k1,k2,k3,k4,k5⟩:=cs6 Bk.out;have ltk_0:=lt_of_some Bk.out
          go_wp2
          refine ⟨⟨k + 1,by omega,by go_num,fun j z hj hz => ?_,(HB.out.alloc HB.out.size _),(Below.heap_alloc _ _ _ (lt_of_some Bk.out)).trans Bk.out⟩,by simp [intOf];omega⟩
          by_cases e : j = k
          ·subst e;rw [HXv.out] at hz;obtain rfl:=Option.some.inj hz
           exact fun h1 h2 => by rcases HCs.out with h | h;(rw [h] at h1;cases h1);exact absurd h h2
          ·exact HQ.out j z (by omega) hz
       ·have hq:=isE_no he;have HEm:=hidK he;have HSi:=hidK hs;rw [hs] at c4;clear he hs;obtain ⟨k0,k1,k2,k3,k4,k5⟩:=cs6 Bk.out;have ltk_0:=lt_of_some Bk.out;go_wp2_with fail;refine (ione_any ⟨a1,l1,y1,a2,l2,y2,(some ⟨b,o,none⟩),l3,y3,a4,l4,y4,a5,l5,y5⟩ c v.m _ (HR.out.below (HB.out.trans ((below1 _ _).mono HB.out.size)))).mono ?_;rintro e w2 ⟨r,rfl,hi,hb3⟩;clear k0 k1 k2 k3 k4 k5 ltk_0;obtain ⟨HA0,hbx⟩:=slots1 hb3;replace Bk:=upK Bk hbx;have Br:=hidK HA0;replace HB:=upB HB hbx;clear hb3 hbx HA0;have HI:=hidK hi;clear hi hb c0 c1 c2 c3 c4 c5 c6 c7
        cases r
        ·go_wp2
         go_ret;exact BoolB.f (fun h => by have:=HI.out.2 ((h.2.2 k v HXv.out) HSi.out HEm.out);cases this) HB.out
        ·go_wp2_with fail;refine ⟨⟨k + 1,by omega,by go_num,fun j z hj hz => ?_,HB.out,Bk.out⟩,by simp [intOf];omega⟩
         by_cases e : j = k
         ·subst e;rw [HXv.out] at hz;obtain rfl:=Option.some.inj hz;exact fun _ _ => HI.out.1 (by first | trivial | rfl)
         ·exact HQ.out j z (by omega) hz
      ·obtain rfl : l3 = k:=by omega
       have HQ3 : Hid (∀ (j : Nat) z,c.vs[j]? = some z → PQ3 c z):=fun j z hz => HQ.out j z (by have:=(List.getElem?_eq_some_iff.1 hz).1;omega) hz;clear HQ
       go_wp2
       go_ret;exact BoolB.t ⟨HQ1.out,HQ2.out,HQ3.out⟩ HB.out

def AQ1 (c : Cl) (v : Vd) : Prop:=∀ (j : Nat) t,v.zs[j]? = some t → ∃ (i : Nat) (n : Nd),c.ns[i]? = some n ∧ n.n = t ∧ n.z = v.z
def AQ2 (c : Cl) (n : Nd) : Prop:=onOf n.n c.vs ≤ n.s
def AttachedI (c : Cl) : Prop:=(∀ (j : Nat) z,c.vs[j]? = some z → AQ1 c z) ∧ (∀ (j : Nat) z,c.ns[j]? = some z → AQ2 c z)

theorem iattached_any (d : Ad) (c : Cl) (w : World) (hr : ClRow w d c.raw) (hn : RisBy Nd.n c.ns) (hvs8 : c.vs.length ≤ 8) :
  Calls Tryz.prog 95 #[.agg #[.slice d.a1 d.l1 d.c1,.slice d.a2 d.l2 d.c2,.slice d.a3 d.l3 d.c3,.slice d.a4 d.l4 d.c4,.slice d.a5 d.l5 d.c5,.int .i64 c.now]] w (BoolB (AttachedI c) w):=by
 obtain ⟨a1,l1,y1,a2,l2,y2,a3,l3,y3,a4,l4,y4,a5,l5,y5⟩:=d;dsimp only;have HR:=hidK hr
 have hl1 : c.ns.length = l1:=by simpa using (show (c.ns.map ndF).length = l1 from hr.n.1)
 have hm1 : l1 ≤ 9223372036854775807:=Nat.le_trans hr.n.2.1 hr.n.2.2.1
 have hl2 : c.ks.length = l2:=by simpa using (show (c.ks.map kdF).length = l2 from hr.k.1)
 have hm2 : l2 ≤ 9223372036854775807:=Nat.le_trans hr.k.2.1 hr.k.2.2.1
 have hl3 : c.vs.length = l3:=by simpa using (show (c.vs.map vdF).length = l3 from hr.v.1)
 have hm3 : l3 ≤ 9223372036854775807:=Nat.le_trans hr.v.2.1 hr.v.2.2.1
 have hl4 : c.xs.length = l4:=by simpa using (show (c.xs.map xdF).length = l4 from hr.x.1)
 have hm4 : l4 ≤ 9223372036854775807:=Nat.le_trans hr.x.2.1 hr.x.2.2.1
 have hl5 : c.ps.length = l5:=by simpa using (show (c.ps.map pdF).length = l5 from hr.p.1)
 have hm5 : l5 ≤ 9223372036854775807:=Nat.le_trans hr.p.2.1 hr.p.2.2.1;clear hr;have HNR:=hidK hn;have HL3:=hidK hvs8;clear hn hvs8
 go_enter Tryz.func95,Tryz.ntmps95
 go_wp2
 go_loopw [14] (fun i wr => ∃ k : Nat,k ≤ l3 ∧ i = .int .i64 k ∧ Hid (∀ (j : Nat) z,j < k → c.vs[j]? = some z → AQ1 c z) ∧ Hid (Below w.heap.size w wr) ∧ Hid (wr.heap[w.heap.size]? = some (.cells #[.slice a1 l1 y1,.slice a2 l2 y2,.slice a3 l3 y3,.slice a4 l4 y4,.slice a5 l5 y5,.int .i64 c.now] 40 (0,0)))) (fun i _ => l3 - (intOf i).toNat)
 case atStart => exact ⟨0,by omega,rfl,fun _ _ h => absurd h (by omega),below1 _ _,Array.getElem?_push_size⟩
 case round =>
  obtain ⟨k,hk,rfl,HQ,HB,Bk⟩:=hrel
  by_cases hlt : k < l3
  ·obtain ⟨b,o,v,rfl,hb,hx,hat⟩:=vd_at (HR.out.v.below HB.out) hlt;obtain ⟨va,vl,vc,hvr,z0,z2,z3,z5,c0,c1,c2,c3,c4,c5,c6,c7⟩:=vd_cells hat;have HXv:=hidK hx;have HTv:=hidK hvr;have HZv0:=hidK z0;have HZv2:=hidK z2;have HZv3:=hidK z3;have HZv5:=hidK z5;clear hat hx z0 z2 z3 z5 hvr;have hvl:=HTv.out.1;have hvc : vl ≤ 9223372036854775807:=Nat.le_trans HTv.out.2.1 HTv.out.2.2.1;have HVL:=hidK hvl;clear hvl;have KV:=hidK ((Below.heap_alloc wr (.cells #[.string v.n,.int .i64 v.c,.string v.z,.string v.k,.bool v.x,.string v.m,.bool v.y,.slice va vl vc] 45) _ (lt_of_some Bk.out)).trans Bk.out);have GV : Hid ((wr.alloc (.cells #[.string v.n,.int .i64 v.c,.string v.z,.string v.k,.bool v.x,.string v.m,.bool v.y,.slice va vl vc] 45)).heap[wr.heap.size]? = some (.cells #[.string v.n,.int .i64 v.c,.string v.z,.string v.k,.bool v.x,.string v.m,.bool v.y,.slice va vl vc] 45 (0,0))):=Array.getElem?_push_size;have BV:=hidK (HB.out.trans ((below1 wr (.cells #[.string v.n,.int .i64 v.c,.string v.z,.string v.k,.bool v.x,.string v.m,.bool v.y,.slice va vl vc] 45)).mono HB.out.size));have TV:=hidK (HTv.out.below (below1 wr (.cells #[.string v.n,.int .i64 v.c,.string v.z,.string v.k,.bool v.x,.string v.m,.bool v.y,.slice va vl vc] 45)));obtain ⟨W,hW⟩ : ∃ W,W = wr.alloc (.cells #[.string v.n,.int .i64 v.c,.string v.z,.string v.k,.bool v.x,.string v.m,.bool v.y,.slice va vl vc] 45):=⟨_,rfl⟩;obtain ⟨gb,hgb⟩ : ∃ gb,gb = wr.heap.size:=⟨_,rfl⟩;rw [← hW] at KV GV BV TV;rw [← hgb] at GV
   go_wp2
   rw [← hW,← hgb];clear hW hgb HB Bk HTv c0 c1 c2 c3 c4 c5 c6 c7 hb
   go_loopw [21] (fun i wr => ∃ kq : Nat,kq ≤ vl ∧ i = .int .i64 kq ∧ Hid (∀ (j : Nat) t,j < kq → v.zs[j]? = some t → ∃ (i : Nat) (n : Nd),c.ns[i]? = some n ∧ n.n = t ∧ n.z = v.z) ∧ Hid (Below W.heap.size W wr)) (fun i _ => vl - (intOf i).toNat)
   case atStart => exact ⟨0,by omega,rfl,fun _ _ h => absurd h (by omega),Below.refl _ _⟩
   case round =>
    obtain ⟨kq,hkq,rfl,HQ2,HBW⟩:=hrel;have HB:=hidK (BV.out.trans (HBW.out.mono BV.out.size));have Bk:=upK KV HBW.out;have Bv:=upK GV HBW.out
    by_cases hlt2 : kq < vl
    ·obtain ⟨b2,o2,t,rfl,hb,hx,hc,hsz⟩:=(TV.out.below HBW.out).at hlt2;have HXt:=hidK hx;clear hx hsz;obtain ⟨k0,k1,k2,k3,k4,k5⟩:=cs6 Bk.out;have ltk_0:=lt_of_some Bk.out;obtain ⟨v0,v1,v2,v3,v4,v5,v6,v7⟩:=cs8 Bv.out;have ltv_0:=lt_of_some Bv.out;go_wp2_with fail;refine (thend_any ⟨a1,l1,y1,a2,l2,y2,(some ⟨b,o,none⟩),l3,y3,a4,l4,y4,a5,l5,y5⟩ c.now c.ns t w _ HR.out.n HB.out).mono ?_;rintro e w1 ⟨hb2,hf⟩;have HBW1:=upB HBW hb2;clear k0 k1 k2 k3 k4 k5 ltk_0 v0 v1 v2 v3 v4 v5 v6 v7 ltv_0;replace Bk:=upK Bk hb2;replace Bv:=upK Bv hb2;replace HB:=upB HB hb2;clear hb2;clear hb hc
     rcases hf with ⟨hh,m,ma,ml,mc,hx,hn,rfl,z0,z1,hmr⟩ | ⟨hh,rfl⟩
     rotate_left
     ·have HH:=hidK hh;clear hh;obtain ⟨k0,k1,k2,k3,k4,k5⟩:=cs6 Bk.out;have ltk_1:=lt_of_some Bk.out;obtain ⟨v0,v1,v2,v3,v4,v5,v6,v7⟩:=cs8 Bv.out;have ltv_1:=lt_of_some Bv.out
      go_wp2
      go_ret;refine BoolB.f (fun h => ?_) (HB.out.alloc HB.out.size _);obtain ⟨i,m,e1,e2,_⟩:=(h.1 k v HXv.out) kq t HXt.out;have:=(hit_at HNR.out e1 e2).2;rw [HH.out] at this
      cases this
     have HXm:=hidK hx;have HNm:=hidK hn;clear hx hn hh z0 z1 hmr
     by_cases hz : m.z = v.z
     ·have q1:=tl_yes hz;have HZ:=hidK hz;clear hz;obtain ⟨k0,k1,k2,k3,k4,k5⟩:=cs6 Bk.out;have ltk_1:=lt_of_some Bk.out;obtain ⟨v0,v1,v2,v3,v4,v5,v6,v7⟩:=cs8 Bv.out;have ltv_1:=lt_of_some Bv.out;go_wp2_with fail;refine ⟨⟨kq + 1,by omega,by go_num,fun j s hj hs => ?_,HBW1.out.alloc HBW1.out.size _⟩,by simp [intOf];omega⟩
      by_cases e : j = kq
      ·subst e;rw [HXt.out] at hs;obtain rfl:=Option.some.inj hs;exact ⟨_,m,HXm.out,HNm.out,HZ.out⟩
      ·exact HQ2.out j s (by omega) hs
     ·have q1:=tl_no hz;have HZ:=hidK hz;clear hz;obtain ⟨k0,k1,k2,k3,k4,k5⟩:=cs6 Bk.out;have ltk_1:=lt_of_some Bk.out;obtain ⟨v0,v1,v2,v3,v4,v5,v6,v7⟩:=cs8 Bv.out;have ltv_1:=lt_of_some Bv.out
      go_wp2
      go_ret;refine BoolB.f (fun h => ?_) (HB.out.alloc HB.out.size _);obtain ⟨i,m2,e1,e2,e3⟩:=(h.1 k v HXv.out) kq t HXt.out;obtain ⟨_,rfl⟩:=HNR.out.inj e1 HXm.out (e2.trans HNm.out.symm);exact HZ.out e3
    ·obtain rfl : vl = kq:=by omega
     go_wp2_with fail;refine ⟨⟨k + 1,by omega,by go_num,fun j z hj hz => ?_,HB.out,Bk.out⟩,by simp [intOf];omega⟩
     by_cases e : j = k
     ·subst e;rw [HXv.out] at hz;obtain rfl:=Option.some.inj hz;exact fun j s hs => HQ2.out j s (by have h1:=(List.getElem?_eq_some_iff.1 hs).1;have h2:=HVL.out;omega) hs
     ·exact HQ.out j z (by omega) hz
  ·obtain rfl : l3 = k:=by omega
   have HQ1 : Hid (∀ (j : Nat) z,c.vs[j]? = some z → AQ1 c z):=fun j z hz => HQ.out j z (by have:=(List.getElem?_eq_some_iff.1 hz).1;omega) hz;clear HQ;have kc : wr.cell? ⟨w.heap.size,0,none⟩ = some (.slice a1 l1 y1):=cellK Bk.out 0;have kl : w.heap.size < wr.heap.size:=lt_of_some Bk.out
   go_wp2
   go_loopw [45] (fun i wr => ∃ k : Nat,k ≤ l1 ∧ i = .int .i64 k ∧ Hid (∀ (j : Nat) z,j < k → c.ns[j]? = some z → AQ2 c z) ∧ Hid (Below w.heap.size w wr) ∧ Hid (wr.heap[w.heap.size]? = some (.cells #[.slice a1 l1 y1,.slice a2 l2 y2,.slice a3 l3 y3,.slice a4 l4 y4,.slice a5 l5 y5,.int .i64 c.now] 40 (0,0)))) (fun i _ => l1 - (intOf i).toNat)
   case atStart => exact ⟨0,by omega,rfl,fun _ _ h => absurd h (by omega),HB.out,Bk.out⟩
   case round =>
    obtain ⟨k,hk,rfl,HQ,HB,Bk⟩:=hrel
    by_cases hlt : k < l1
    ·obtain ⟨b,o,n,rfl,hb,hx,hat⟩:=nd_at (HR.out.n.below HB.out) hlt;obtain ⟨va,vl,vc,hvr,z0,z1,c0,c1,c2,c3,c4,c5,c6⟩:=nd_cells hat;have HXn:=hidK hx;have HTn:=hidK hvr;have HZn0:=hidK z0;have HZn1:=hidK z1;clear hat hx z0 z1 hvr;have GK:=hidK ((Below.heap_alloc wr (.cells #[.string n.n,.string n.z,.int .i64 n.c,.int .i64 n.s,.int .i64 n.u,.bool n.d,.slice va vl vc] 120) _ (lt_of_some Bk.out)).trans Bk.out);have GR : Hid ((wr.alloc (.cells #[.string n.n,.string n.z,.int .i64 n.c,.int .i64 n.s,.int .i64 n.u,.bool n.d,.slice va vl vc] 120)).heap[wr.heap.size]? = some (.cells #[.string n.n,.string n.z,.int .i64 n.c,.int .i64 n.s,.int .i64 n.u,.bool n.d,.slice va vl vc] 120 (0,0))):=Array.getElem?_push_size;have HW:=hidK (HB.out.trans ((below1 wr (.cells #[.string n.n,.string n.z,.int .i64 n.c,.int .i64 n.s,.int .i64 n.u,.bool n.d,.slice va vl vc] 120)).mono HB.out.size));obtain ⟨k0,k1,k2,k3,k4,k5⟩:=sl6 GK;obtain ⟨r0,r1,r2,r3,r4,r5,r6⟩:=sl7 GR;have hne0:=Wd.ne (wr.alloc (.cells #[.string n.n,.string n.z,.int .i64 n.c,.int .i64 n.s,.int .i64 n.u,.bool n.d,.slice va vl vc] 120));have HC:=hidK (fun q : Wd (wr.alloc (.cells #[.string n.n,.string n.z,.int .i64 n.c,.int .i64 n.s,.int .i64 n.u,.bool n.d,.slice va vl vc] 120)) => iusedSlots_any ⟨(some ⟨b,o,none⟩),l1,y1,a2,l2,y2,a3,l3,y3,a4,l4,y4,a5,l5,y5⟩ c.now c.vs n.n q.w (HR.out.v.below (HW.out.trans (q.b.mono HW.out.size))) HL3.out);go_wp2_with fail;refine wp_region_wide (by kernel_rfl) (by kernel_rfl) ?_
     repeat (go_big_quiet_step (first | (go_at_call 147;exact Calls.wide (HC.out _)) | fail))
     refine wpQuiet_nil ?_;rintro _ ⟨q,rfl⟩;have HB2:=upB HW q.b;have Bk2:=upK GK q.b;clear HC hne0 k0 k1 k2 k3 k4 k5 r0 r1 r2 r3 r4 r5 r6 c0 c1 c2 c3 c4 c5 c6 hb HB Bk HW GK GR;have HB:=HB2;have Bk:=Bk2;clear HB2 Bk2
     by_cases hq : onOf n.n c.vs ≤ n.s
     ·go_wp2_with fail;refine ⟨⟨k + 1,by omega,by go_num,fun j z hj hz => ?_,HB.out,Bk.out⟩,by simp [intOf];omega⟩
      by_cases e : j = k
      ·subst e;rw [HXn.out] at hz;obtain rfl:=Option.some.inj hz;exact hq
      ·exact HQ.out j z (by omega) hz
     ·have HQ2:=hidK hq
      go_wp2
      go_ret;exact BoolB.f (fun h => by have h1 : onOf n.n c.vs ≤ n.s:=(h.2 k n HXn.out);have h2:=HQ2.out;omega) HB.out
    ·obtain rfl : l1 = k:=by omega
     have HQ2 : Hid (∀ (j : Nat) z,c.ns[j]? = some z → AQ2 c z):=fun j z hz => HQ.out j z (by have:=(List.getElem?_eq_some_iff.1 hz).1;omega) hz;clear HQ
     go_wp2
     go_ret;exact BoolB.t ⟨HQ1.out,HQ2.out⟩ HB.out

def MQ2 (c : Cl) (p : Pd) : Prop:=p.p = 2 → RunI c p
def MountedI (c : Cl) : Prop:=(∀ (j : Nat) z,c.ns[j]? = some z → MntI c z) ∧ (∀ (j : Nat) z,c.ps[j]? = some z → MQ2 c z)

theorem imounted_any (d : Ad) (c : Cl) (w : World) (hr : ClRow w d c.raw) (hn : RisBy Nd.n c.ns) (hx : RisBy Xd.n c.xs) (hv : RisBy Vd.n c.vs) (hne : ∀ (j : Nat) v,c.vs[j]? = some v → ¬ v.n = ⟨#[]⟩) :
  Calls Tryz.prog 96 #[.agg #[.slice d.a1 d.l1 d.c1,.slice d.a2 d.l2 d.c2,.slice d.a3 d.l3 d.c3,.slice d.a4 d.l4 d.c4,.slice d.a5 d.l5 d.c5,.int .i64 c.now]] w (BoolB (MountedI c) w):=by
 obtain ⟨a1,l1,y1,a2,l2,y2,a3,l3,y3,a4,l4,y4,a5,l5,y5⟩:=d;dsimp only;have HR:=hidK hr
 have hl1 : c.ns.length = l1:=by simpa using (show (c.ns.map ndF).length = l1 from hr.n.1)
 have hm1 : l1 ≤ 9223372036854775807:=Nat.le_trans hr.n.2.1 hr.n.2.2.1
 have hl2 : c.ks.length = l2:=by simpa using (show (c.ks.map kdF).length = l2 from hr.k.1)
 have hm2 : l2 ≤ 9223372036854775807:=Nat.le_trans hr.k.2.1 hr.k.2.2.1
 have hl3 : c.vs.length = l3:=by simpa using (show (c.vs.map vdF).length = l3 from hr.v.1)
 have hm3 : l3 ≤ 9223372036854775807:=Nat.le_trans hr.v.2.1 hr.v.2.2.1
 have hl4 : c.xs.length = l4:=by simpa using (show (c.xs.map xdF).length = l4 from hr.x.1)
 have hm4 : l4 ≤ 9223372036854775807:=Nat.le_trans hr.x.2.1 hr.x.2.2.1
 have hl5 : c.ps.length = l5:=by simpa using (show (c.ps.map pdF).length = l5 from hr.p.1)
 have hm5 : l5 ≤ 9223372036854775807:=Nat.le_trans hr.p.2.1 hr.p.2.2.1;clear hr;have HNR:=hidK hn;have HXR:=hidK hx;have HVR:=hidK hv;have HNE:=hidK hne;clear hn hx hv hne
 go_enter Tryz.func96,Tryz.ntmps96
 go_wp2
 go_loopw [10] (fun i wr => ∃ k : Nat,k ≤ l1 ∧ i = .int .i64 k ∧ Hid (∀ (j : Nat) z,j < k → c.ns[j]? = some z → MntI c z) ∧ Hid (Below w.heap.size w wr) ∧ Hid (wr.heap[w.heap.size]? = some (.cells #[.slice a1 l1 y1,.slice a2 l2 y2,.slice a3 l3 y3,.slice a4 l4 y4,.slice a5 l5 y5,.int .i64 c.now] 40 (0,0)))) (fun i _ => l1 - (intOf i).toNat)
 case atStart => exact ⟨0,by omega,rfl,fun _ _ h => absurd h (by omega),below1 _ _,Array.getElem?_push_size⟩
 case round =>
  obtain ⟨k,hk,rfl,HQ,HB,Bk⟩:=hrel
  by_cases hlt : k < l1
  ·obtain ⟨b,o,n,rfl,hb,hx,hat⟩:=nd_at (HR.out.n.below HB.out) hlt;obtain ⟨va,vl,vc,hvr,z0,z1,c0,c1,c2,c3,c4,c5,c6⟩:=nd_cells hat;have HXn:=hidK hx;have HTn:=hidK hvr;have HZn0:=hidK z0;have HZn1:=hidK z1;clear hat hx z0 z1 hvr;obtain ⟨k0,k1,k2,k3,k4,k5⟩:=cs6 Bk.out;have ltk_0:=lt_of_some Bk.out;go_wp2_with fail;refine (imnt_any ⟨(some ⟨b,o,none⟩),l1,y1,a2,l2,y2,a3,l3,y3,a4,l4,y4,a5,l5,y5⟩ c n va vl vc _ (HR.out.below (HB.out.trans ((below1 _ _).mono HB.out.size))) HVR.out (HTn.out.below (below1 _ _))).mono ?_;rintro e w2 ⟨r,rfl,hi,hb3⟩;clear k0 k1 k2 k3 k4 k5 ltk_0;obtain ⟨HA0,hbx⟩:=slots1 hb3;replace Bk:=upK Bk hbx;have Br:=hidK HA0;replace HB:=upB HB hbx;clear hb3 hbx HA0;have HI:=hidK hi;clear hi hb c0 c1 c2 c3 c4 c5 c6
   cases r
   ·go_wp2
    go_ret;exact BoolB.f (fun h => by have:=HI.out.2 (h.1 k n HXn.out);cases this) HB.out
   ·go_wp2_with fail;refine ⟨⟨k + 1,by omega,by go_num,fun j z hj hz => ?_,HB.out,Bk.out⟩,by simp [intOf];omega⟩
    by_cases e : j = k
    ·subst e;rw [HXn.out] at hz;obtain rfl:=Option.some.inj hz;exact HI.out.1 (by first | trivial | rfl)
    ·exact HQ.out j z (by omega) hz
  ·obtain rfl : l1 = k:=by omega
   have HQ1 : Hid (∀ (j : Nat) z,c.ns[j]? = some z → MntI c z):=fun j z hz => HQ.out j z (by have:=(List.getElem?_eq_some_iff.1 hz).1;omega) hz;clear HQ;have kc : wr.cell? ⟨w.heap.size,4,none⟩ = some (.slice a5 l5 y5):=cellK Bk.out 4;have kl : w.heap.size < wr.heap.size:=lt_of_some Bk.out
   go_wp2
   go_loopw [22] (fun i wr => ∃ k : Nat,k ≤ l5 ∧ i = .int .i64 k ∧ Hid (∀ (j : Nat) z,j < k → c.ps[j]? = some z → MQ2 c z) ∧ Hid (Below w.heap.size w wr) ∧ Hid (wr.heap[w.heap.size]? = some (.cells #[.slice a1 l1 y1,.slice a2 l2 y2,.slice a3 l3 y3,.slice a4 l4 y4,.slice a5 l5 y5,.int .i64 c.now] 40 (0,0)))) (fun i _ => l5 - (intOf i).toNat)
   case atStart => exact ⟨0,by omega,rfl,fun _ _ h => absurd h (by omega),HB.out,Bk.out⟩
   case round =>
    obtain ⟨k,hk,rfl,HQ,HB,Bk⟩:=hrel
    by_cases hlt : k < l5
    ·obtain ⟨b,o,p,rfl,hb,hx,hat⟩:=pd_at (HR.out.p.below HB.out) hlt;obtain ⟨va,vl,vc,hvr,z0,z2,z4,c0,c1,c2,c3,c4,c5⟩:=pd_cells hat;have HXp:=hidK hx;have HTp:=hidK hvr;have HZp0:=hidK z0;have HZp2:=hidK z2;have HZp4:=hidK z4;clear hat hx z0 z2 z4 hvr
     by_cases hp2 : p.p = 2
     rotate_left
     ·have HP2:=hidK hp2;obtain ⟨k0,k1,k2,k3,k4,k5⟩:=cs6 Bk.out;have ltk_0:=lt_of_some Bk.out
      go_wp2
      refine ⟨⟨k + 1,by omega,by go_num,fun j z hj hz => ?_,(HB.out.alloc HB.out.size _),(Below.heap_alloc _ _ _ (lt_of_some Bk.out)).trans Bk.out⟩,by simp [intOf];omega⟩
      by_cases e : j = k
      ·subst e;rw [HXp.out] at hz;obtain rfl:=Option.some.inj hz;exact fun h => absurd h HP2.out
      ·exact HQ.out j z (by omega) hz
     have HP2:=hidK hp2;rw [hp2] at c5;clear hp2;obtain ⟨k0,k1,k2,k3,k4,k5⟩:=cs6 Bk.out;have ltk_0:=lt_of_some Bk.out;go_wp2_with fail;have HCall:=hidK (irun_any ⟨a1,l1,y1,a2,l2,y2,a3,l3,y3,a4,l4,y4,(some ⟨b,o,none⟩),l5,y5⟩ c p va vl vc (wr.alloc (.cells #[.string p.n,.int .i64 p.c,.string p.z,.slice va vl vc,.string p.d,.int .i64 2] 58)) (HR.out.below (HB.out.trans ((below1 _ _).mono HB.out.size))) HNR.out HXR.out HVR.out HNE.out (HTp.out.below (below1 _ _)));rw [HP2.out] at HCall;refine (HCall.out).mono ?_;rintro e w2 ⟨r,rfl,hi,hb3⟩;clear k0 k1 k2 k3 k4 k5 ltk_0;obtain ⟨HA0,hbx⟩:=slots1 hb3;replace Bk:=upK Bk hbx;have Br:=hidK HA0;replace HB:=upB HB hbx;clear hb3 hbx HA0;have HI:=hidK hi;clear hi hb HCall c0 c1 c2 c3 c4 c5
     cases r
     ·go_wp2
      go_ret;exact BoolB.f (fun h => by have:=HI.out.2 ((h.2 k p HXp.out) HP2.out);cases this) HB.out
     ·go_wp2_with fail;refine ⟨⟨k + 1,by omega,by go_num,fun j z hj hz => ?_,HB.out,Bk.out⟩,by simp [intOf];omega⟩
      by_cases e : j = k
      ·subst e;rw [HXp.out] at hz;obtain rfl:=Option.some.inj hz;exact fun _ => HI.out.1 (by first | trivial | rfl)
      ·exact HQ.out j z (by omega) hz
    ·obtain rfl : l5 = k:=by omega
     have HQ2 : Hid (∀ (j : Nat) z,c.ps[j]? = some z → MQ2 c z):=fun j z hz => HQ.out j z (by have:=(List.getElem?_eq_some_iff.1 hz).1;omega) hz;clear HQ
     go_wp2
     go_ret;exact BoolB.t ⟨HQ1.out,HQ2.out⟩ HB.out

def RowsOk (c : Cl) : Prop:=RowOk ndOk Nd.n c.ns 6 ∧ RowOk kdOk Kd.n c.ks 8 ∧ RowOk vdOk Vd.n c.vs 8 ∧ RowOk xdOk Xd.n c.xs 8 ∧ RowOk pdOk Pd.n c.ps 8
def RightI (c : Cl) : Prop:=Inn c.now 0 1000000 ∧ RowsOk c ∧ BoundI c ∧ PlacedI c ∧ AttachedI c ∧ MountedI c

theorem irows_any (d : Ad) (c : Cl) (w : World) (hr : ClRow w d c.raw) :
  Calls Tryz.prog 92 #[.agg #[.slice d.a1 d.l1 d.c1,.slice d.a2 d.l2 d.c2,.slice d.a3 d.l3 d.c3,.slice d.a4 d.l4 d.c4,.slice d.a5 d.l5 d.c5,.int .i64 c.now]] w (BoolB (RowsOk c) w):=by
 have HR:=hidK hr;have HB:=hidK (Below.refl w.heap.size w);clear hr
 go_enter Tryz.func92,Tryz.ntmps92
 go_wp2_with fail;refine (rowrnd_any _ _ _ c.ns 6 _ (HR.out.n.below (HB.out.trans ((below1 _ _).mono HB.out.size)))).mono ?_;rintro e w1 ⟨r,rfl,hi,hb⟩;obtain ⟨HA0,hbx⟩:=slots1 hb;have Bk:=hidK HA0;replace HB:=upB HB hbx;clear hb hbx HA0;have HI1:=hidK hi;clear hi
 cases r
 ·obtain ⟨k0,k1,k2,k3,k4,k5⟩:=cs6 Bk.out;have ltk_1:=lt_of_some Bk.out
  go_wp2
  go_ret;exact BoolB.f (fun h => by have:=HI1.out.2 h.1;cases this) HB.out
 obtain ⟨k0,k1,k2,k3,k4,k5⟩:=cs6 Bk.out;have ltk_1:=lt_of_some Bk.out;go_wp2_with fail;refine (rowrkd_any _ _ _ c.ks 8 _ (HR.out.k.below HB.out)).mono ?_;rintro e w2 ⟨r,rfl,hi,hb⟩;clear k0 k1 k2 k3 k4 k5 ltk_1;replace Bk:=upK Bk hb;replace HB:=upB HB hb;clear hb;have HI2:=hidK hi;clear hi
 cases r
 ·obtain ⟨k0,k1,k2,k3,k4,k5⟩:=cs6 Bk.out;have ltk_2:=lt_of_some Bk.out
  go_wp2
  go_ret;exact BoolB.f (fun h => by have:=HI2.out.2 h.2.1;cases this) HB.out
 obtain ⟨k0,k1,k2,k3,k4,k5⟩:=cs6 Bk.out;have ltk_2:=lt_of_some Bk.out;go_wp2_with fail;refine (rowrvd_any _ _ _ c.vs 8 _ (HR.out.v.below HB.out)).mono ?_;rintro e w3 ⟨r,rfl,hi,hb⟩;clear k0 k1 k2 k3 k4 k5 ltk_2;replace Bk:=upK Bk hb;replace HB:=upB HB hb;clear hb;have HI3:=hidK hi;clear hi
 cases r
 ·obtain ⟨k0,k1,k2,k3,k4,k5⟩:=cs6 Bk.out;have ltk_3:=lt_of_some Bk.out
  go_wp2
  go_ret;exact BoolB.f (fun h => by have:=HI3.out.2 h.2.2.1;cases this) HB.out
 obtain ⟨k0,k1,k2,k3,k4,k5⟩:=cs6 Bk.out;have ltk_3:=lt_of_some Bk.out;go_wp2_with fail;refine (rowrxd_any _ _ _ c.xs 8 _ (HR.out.x.below HB.out)).mono ?_;rintro e w4 ⟨r,rfl,hi,hb⟩;clear k0 k1 k2 k3 k4 k5 ltk_3;replace Bk:=upK Bk hb;replace HB:=upB HB hb;clear hb;have HI4:=hidK hi;clear hi
 cases r
 ·obtain ⟨k0,k1,k2,k3,k4,k5⟩:=cs6 Bk.out;have ltk_4:=lt_of_some Bk.out
  go_wp2
  go_ret;exact BoolB.f (fun h => by have:=HI4.out.2 h.2.2.2.1;cases this) HB.out
 obtain ⟨k0,k1,k2,k3,k4,k5⟩:=cs6 Bk.out;have ltk_4:=lt_of_some Bk.out;go_wp2_with fail;refine (rowrpd_any _ _ _ c.ps 8 _ (HR.out.p.below HB.out)).mono ?_;rintro e w5 ⟨r,rfl,hi,hb⟩;clear k0 k1 k2 k3 k4 k5 ltk_4;replace Bk:=upK Bk hb;replace HB:=upB HB hb;clear hb;have HI5:=hidK hi;clear hi
 cases r
 ·obtain ⟨k0,k1,k2,k3,k4,k5⟩:=cs6 Bk.out;have ltk_5:=lt_of_some Bk.out
  go_wp2
  go_ret;exact BoolB.f (fun h => by have:=HI5.out.2 h.2.2.2.2;cases this) HB.out
 go_wp2
 go_ret;exact BoolB.t ⟨HI1.out.1 (by first | trivial | rfl),HI2.out.1 (by first | trivial | rfl),HI3.out.1 (by first | trivial | rfl),HI4.out.1 (by first | trivial | rfl),HI5.out.1 (by first | trivial | rfl)⟩ HB.out

theorem RowsOk.ne {c : Cl} (h : RowsOk c) (j : Nat) (v : Vd) (hv : c.vs[j]? = some v) : ¬ v.n = ⟨#[]⟩:=fun e => by
 have h1:=(h.2.2.1.2.1 j v hv).1.1;rw [e] at h1;exact absurd h1 (by decide)
theorem RowsOk.cpu {c : Cl} (h : RowsOk c) (j : Nat) (p : Pd) (hp : c.ps[j]? = some p) : 0 ≤ p.c ∧ p.c ≤ 1000000:=(h.2.2.2.2.2.1 j p hp).2.1

theorem iright_any (d : Ad) (c : Cl) (w : World) (hr : ClRow w d c.raw) (hG : ens w) :
  Calls Tryz.prog 45 #[.agg #[.slice d.a1 d.l1 d.c1,.slice d.a2 d.l2 d.c2,.slice d.a3 d.l3 d.c3,.slice d.a4 d.l4 d.c4,.slice d.a5 d.l5 d.c5,.int .i64 c.now]] w (BoolB (RightI c) w):=by
 have HR:=hidK hr;have HE:=hidK hG;have HB:=hidK (Below.refl w.heap.size w);clear hr hG
 go_enter Tryz.func45,Tryz.ntmps45
 go_wp2_with fail;refine (kwithin_any c.now 0 1000000 _).mono ?_;rintro e w1 ⟨r,rfl,hi,hw⟩
 have hb : Below (w.alloc (.cells #[.slice d.a1 d.l1 d.c1,.slice d.a2 d.l2 d.c2,.slice d.a3 d.l3 d.c3,.slice d.a4 d.l4 d.c4,.slice d.a5 d.l5 d.c5,.int .i64 c.now] 40)).heap.size (w.alloc (.cells #[.slice d.a1 d.l1 d.c1,.slice d.a2 d.l2 d.c2,.slice d.a3 d.l3 d.c3,.slice d.a4 d.l4 d.c4,.slice d.a5 d.l5 d.c5,.int .i64 c.now] 40)) w1:=by first | (rw [hw];exact Below.refl _ _) | (rw [← hw];exact Below.refl _ _)
 clear hw;obtain ⟨HA0,hbx⟩:=slots1 hb;have Bk:=hidK HA0;replace HB:=upB HB hbx;clear hb hbx HA0;have HI1:=hidK hi;clear hi
 cases r
 ·obtain ⟨k0,k1,k2,k3,k4,k5⟩:=cs6 Bk.out;have ltk_1:=lt_of_some Bk.out
  go_wp2
  go_ret;exact BoolB.f (fun h => by have:=HI1.out.2 h.1;cases this) HB.out
 obtain ⟨k0,k1,k2,k3,k4,k5⟩:=cs6 Bk.out;have ltk_1:=lt_of_some Bk.out;go_wp2_with fail;refine (irows_any d c _ (HR.out.below HB.out)).mono ?_;rintro e w2 ⟨r,rfl,hi,hb⟩;clear k0 k1 k2 k3 k4 k5 ltk_1;replace Bk:=upK Bk hb;replace HB:=upB HB hb;clear hb;have HI2:=hidK hi;clear hi
 cases r
 ·obtain ⟨k0,k1,k2,k3,k4,k5⟩:=cs6 Bk.out;have ltk_2:=lt_of_some Bk.out
  go_wp2
  go_ret;exact BoolB.f (fun h => by have:=HI2.out.2 h.2.1;cases this) HB.out
 have HOK:=hidK (HI2.out.1 (by first | trivial | rfl));obtain ⟨k0,k1,k2,k3,k4,k5⟩:=cs6 Bk.out;have ltk_2:=lt_of_some Bk.out;go_wp2_with fail;refine (ibound_any d c _ (HR.out.below HB.out) HOK.out.2.2.2.1.2.2 HOK.out.2.2.1.2.2 (HE.out.below HB.out)).mono ?_;rintro e w3 ⟨r,rfl,hi,hb⟩;clear k0 k1 k2 k3 k4 k5 ltk_2;replace Bk:=upK Bk hb;replace HB:=upB HB hb;clear hb;have HI3:=hidK hi;clear hi
 cases r
 ·obtain ⟨k0,k1,k2,k3,k4,k5⟩:=cs6 Bk.out;have ltk_3:=lt_of_some Bk.out
  go_wp2
  go_ret;exact BoolB.f (fun h => by have:=HI3.out.2 h.2.2.1;cases this) HB.out
 obtain ⟨k0,k1,k2,k3,k4,k5⟩:=cs6 Bk.out;have ltk_3:=lt_of_some Bk.out;go_wp2_with fail;refine (iplaced_any d c _ (HR.out.below HB.out) HOK.out.1.2.2 HOK.out.2.2.2.1.2.2 HOK.out.2.2.1.2.2 HOK.out.ne (by have:=HOK.out.2.2.2.2.1;omega) HOK.out.cpu (HE.out.below HB.out)).mono ?_;rintro e w4 ⟨r,rfl,hi,hb⟩;clear k0 k1 k2 k3 k4 k5 ltk_3;replace Bk:=upK Bk hb;replace HB:=upB HB hb;clear hb;have HI4:=hidK hi;clear hi
 cases r
 ·obtain ⟨k0,k1,k2,k3,k4,k5⟩:=cs6 Bk.out;have ltk_4:=lt_of_some Bk.out
  go_wp2
  go_ret;exact BoolB.f (fun h => by have:=HI4.out.2 h.2.2.2.1;cases this) HB.out
 obtain ⟨k0,k1,k2,k3,k4,k5⟩:=cs6 Bk.out;have ltk_4:=lt_of_some Bk.out;go_wp2_with fail;refine (iattached_any d c _ (HR.out.below HB.out) HOK.out.1.2.2 (by have:=HOK.out.2.2.1.1;omega)).mono ?_;rintro e w5 ⟨r,rfl,hi,hb⟩;clear k0 k1 k2 k3 k4 k5 ltk_4;replace Bk:=upK Bk hb;replace HB:=upB HB hb;clear hb;have HI5:=hidK hi;clear hi
 cases r
 ·obtain ⟨k0,k1,k2,k3,k4,k5⟩:=cs6 Bk.out;have ltk_5:=lt_of_some Bk.out
  go_wp2
  go_ret;exact BoolB.f (fun h => by have:=HI5.out.2 h.2.2.2.2.1;cases this) HB.out
 obtain ⟨k0,k1,k2,k3,k4,k5⟩:=cs6 Bk.out;have ltk_5:=lt_of_some Bk.out;go_wp2_with fail;refine (imounted_any d c _ (HR.out.below HB.out) HOK.out.1.2.2 HOK.out.2.2.2.1.2.2 HOK.out.2.2.1.2.2 HOK.out.ne).mono ?_;rintro e w6 ⟨r,rfl,hi,hb⟩;clear k0 k1 k2 k3 k4 k5 ltk_5;replace Bk:=upK Bk hb;replace HB:=upB HB hb;clear hb;have HI6:=hidK hi;clear hi
 cases r
 ·obtain ⟨k0,k1,k2,k3,k4,k5⟩:=cs6 Bk.out;have ltk_6:=lt_of_some Bk.out
  go_wp2
  go_ret;exact BoolB.f (fun h => by have:=HI6.out.2 h.2.2.2.2.2;cases this) HB.out
 go_wp2
 go_ret;exact BoolB.t ⟨HI1.out.1 (by first | trivial | rfl),HI2.out.1 (by first | trivial | rfl),HI3.out.1 (by first | trivial | rfl),HI4.out.1 (by first | trivial | rfl),HI5.out.1 (by first | trivial | rfl),HI6.out.1 (by first | trivial | rfl)⟩ HB.out

theorem shas_any (a : Option Addr) (len cap : Nat) (zs : List ByteArray) (t : ByteArray) (w : World) (hr : TxRow w a len cap zs) :
  Calls Tryz.prog 135 #[.slice a len cap,.string t] w (BoolB (InL zs t) w):=by
 have HR:=hidK hr;have hlc : len ≤ 9223372036854775807:=Nat.le_trans hr.2.1 hr.2.2.1;have hzl : zs.length = len:=hr.1;clear hr
 go_enter Tryz.func135,Tryz.ntmps135
 go_wp2
 go_loop [5] (fun i => ∃ k : Nat,k ≤ len ∧ i = .int .i64 k ∧ Hid (∀ (j : Nat) x,j < k → zs[j]? = some x → ¬ x = t)) (fun i => len - (intOf i).toNat)
 case atStart => exact ⟨0,by omega,rfl,fun _ _ h => absurd h (by omega)⟩
 case round =>
  obtain ⟨k,hk,rfl,HE⟩:=hrel
  by_cases hlt : k < len
  ·obtain ⟨b,o,x,rfl,hb,hx,hc,hsz⟩:=HR.out.at hlt;have HX:=hidK hx;clear hx
   by_cases hn : x = t
   ·have hq:=tl_yes hn;have HN:=hidK hn;clear hn
    go_wp2
    go_ret;exact BoolB.t ⟨k,by rw [HX.out,HN.out]⟩ (Below.refl _ _)
   ·have hq:=tl_no hn;have HN:=hidK hn;clear hn
    go_wp2
    refine ⟨⟨k + 1,by omega,by go_num,fun j z hj hz => ?_⟩,by simp [intOf];omega⟩
    by_cases e : j = k
    ·subst e;rw [HX.out] at hz;obtain rfl:=Option.some.inj hz;exact HN.out
    ·exact HE.out j z (by omega) hz
  ·obtain rfl : len = k:=by omega
   go_wp2
   go_ret;exact BoolB.f (fun ⟨j,hj⟩ => HE.out j t (by have:=(List.getElem?_eq_some_iff.1 hj).1;omega) hj rfl) (Below.refl _ _)

theorem sxnd_hit (d : Ad) (now : Int) (xs : List Nd) (t : ByteArray) (w : World) (hr : RRow w d.a1 d.l1 d.c1 7 (xs.map ndF)) (hs : RisBy Nd.n xs) {j : Nat} {x : Nd} (hx : xs[j]? = some x) (hn : x.n = t) :
  Calls Tryz.prog 130 #[.agg #[.slice d.a1 d.l1 d.c1,.slice d.a2 d.l2 d.c2,.slice d.a3 d.l3 d.c3,.slice d.a4 d.l4 d.c4,.slice d.a5 d.l5 d.c5,.int .i64 now],.string t] w fun e w' => e = .returned (.int .i64 j) ∧ Below w.heap.size w w':=by
 refine (sxnd_any d now xs t w hr).mono ?_;rintro e w' ⟨hb,h⟩
 rcases h with ⟨i,y,h1,h2,rfl⟩ | ⟨h1,rfl⟩
 ·obtain ⟨rfl,_⟩:=hs.inj h1 hx (h2.trans hn.symm);exact ⟨rfl,hb⟩
 ·exact absurd hn (h1 j x hx)
theorem sxnd_miss (d : Ad) (now : Int) (xs : List Nd) (t : ByteArray) (w : World) (hr : RRow w d.a1 d.l1 d.c1 7 (xs.map ndF)) (hn : ∀ (j : Nat) x,xs[j]? = some x → ¬ x.n = t) :
  Calls Tryz.prog 130 #[.agg #[.slice d.a1 d.l1 d.c1,.slice d.a2 d.l2 d.c2,.slice d.a3 d.l3 d.c3,.slice d.a4 d.l4 d.c4,.slice d.a5 d.l5 d.c5,.int .i64 now],.string t] w fun e w' => e = .returned (.int .i64 (-1)) ∧ Below w.heap.size w w':=by
 refine (sxnd_any d now xs t w hr).mono ?_;rintro e w' ⟨hb,h⟩
 rcases h with ⟨i,y,h1,h2,rfl⟩ | ⟨h1,rfl⟩
 ·exact absurd h2 (hn i y h1)
 ·exact ⟨rfl,hb⟩

theorem sxkd_hit (d : Ad) (now : Int) (xs : List Kd) (t : ByteArray) (w : World) (hr : RRow w d.a2 d.l2 d.c2 4 (xs.map kdF)) (hs : RisBy Kd.n xs) {j : Nat} {x : Kd} (hx : xs[j]? = some x) (hn : x.n = t) :
  Calls Tryz.prog 35 #[.agg #[.slice d.a1 d.l1 d.c1,.slice d.a2 d.l2 d.c2,.slice d.a3 d.l3 d.c3,.slice d.a4 d.l4 d.c4,.slice d.a5 d.l5 d.c5,.int .i64 now],.string t] w fun e w' => e = .returned (.int .i64 j) ∧ Below w.heap.size w w':=by
 refine (sxkd_any d now xs t w hr).mono ?_;rintro e w' ⟨hb,h⟩
 rcases h with ⟨i,y,h1,h2,rfl⟩ | ⟨h1,rfl⟩
 ·obtain ⟨rfl,_⟩:=hs.inj h1 hx (h2.trans hn.symm);exact ⟨rfl,hb⟩
 ·exact absurd hn (h1 j x hx)
theorem sxkd_miss (d : Ad) (now : Int) (xs : List Kd) (t : ByteArray) (w : World) (hr : RRow w d.a2 d.l2 d.c2 4 (xs.map kdF)) (hn : ∀ (j : Nat) x,xs[j]? = some x → ¬ x.n = t) :
  Calls Tryz.prog 35 #[.agg #[.slice d.a1 d.l1 d.c1,.slice d.a2 d.l2 d.c2,.slice d.a3 d.l3 d.c3,.slice d.a4 d.l4 d.c4,.slice d.a5 d.l5 d.c5,.int .i64 now],.string t] w fun e w' => e = .returned (.int .i64 (-1)) ∧ Below w.heap.size w w':=by
 refine (sxkd_any d now xs t w hr).mono ?_;rintro e w' ⟨hb,h⟩
 rcases h with ⟨i,y,h1,h2,rfl⟩ | ⟨h1,rfl⟩
 ·exact absurd h2 (hn i y h1)
 ·exact ⟨rfl,hb⟩

theorem sxvd_hit (d : Ad) (now : Int) (xs : List Vd) (t : ByteArray) (w : World) (hr : RRow w d.a3 d.l3 d.c3 8 (xs.map vdF)) (hs : RisBy Vd.n xs) {j : Nat} {x : Vd} (hx : xs[j]? = some x) (hn : x.n = t) :
  Calls Tryz.prog 34 #[.agg #[.slice d.a1 d.l1 d.c1,.slice d.a2 d.l2 d.c2,.slice d.a3 d.l3 d.c3,.slice d.a4 d.l4 d.c4,.slice d.a5 d.l5 d.c5,.int .i64 now],.string t] w fun e w' => e = .returned (.int .i64 j) ∧ Below w.heap.size w w':=by
 refine (sxvd_any d now xs t w hr).mono ?_;rintro e w' ⟨hb,h⟩
 rcases h with ⟨i,y,h1,h2,rfl⟩ | ⟨h1,rfl⟩
 ·obtain ⟨rfl,_⟩:=hs.inj h1 hx (h2.trans hn.symm);exact ⟨rfl,hb⟩
 ·exact absurd hn (h1 j x hx)
theorem sxvd_miss (d : Ad) (now : Int) (xs : List Vd) (t : ByteArray) (w : World) (hr : RRow w d.a3 d.l3 d.c3 8 (xs.map vdF)) (hn : ∀ (j : Nat) x,xs[j]? = some x → ¬ x.n = t) :
  Calls Tryz.prog 34 #[.agg #[.slice d.a1 d.l1 d.c1,.slice d.a2 d.l2 d.c2,.slice d.a3 d.l3 d.c3,.slice d.a4 d.l4 d.c4,.slice d.a5 d.l5 d.c5,.int .i64 now],.string t] w fun e w' => e = .returned (.int .i64 (-1)) ∧ Below w.heap.size w w':=by
 refine (sxvd_any d now xs t w hr).mono ?_;rintro e w' ⟨hb,h⟩
 rcases h with ⟨i,y,h1,h2,rfl⟩ | ⟨h1,rfl⟩
 ·exact absurd h2 (hn i y h1)
 ·exact ⟨rfl,hb⟩

theorem sxxd_hit (d : Ad) (now : Int) (xs : List Xd) (t : ByteArray) (w : World) (hr : RRow w d.a4 d.l4 d.c4 5 (xs.map xdF)) (hs : RisBy Xd.n xs) {j : Nat} {x : Xd} (hx : xs[j]? = some x) (hn : x.n = t) :
  Calls Tryz.prog 69 #[.agg #[.slice d.a1 d.l1 d.c1,.slice d.a2 d.l2 d.c2,.slice d.a3 d.l3 d.c3,.slice d.a4 d.l4 d.c4,.slice d.a5 d.l5 d.c5,.int .i64 now],.string t] w fun e w' => e = .returned (.int .i64 j) ∧ Below w.heap.size w w':=by
 refine (sxxd_any d now xs t w hr).mono ?_;rintro e w' ⟨hb,h⟩
 rcases h with ⟨i,y,h1,h2,rfl⟩ | ⟨h1,rfl⟩
 ·obtain ⟨rfl,_⟩:=hs.inj h1 hx (h2.trans hn.symm);exact ⟨rfl,hb⟩
 ·exact absurd hn (h1 j x hx)
theorem sxxd_miss (d : Ad) (now : Int) (xs : List Xd) (t : ByteArray) (w : World) (hr : RRow w d.a4 d.l4 d.c4 5 (xs.map xdF)) (hn : ∀ (j : Nat) x,xs[j]? = some x → ¬ x.n = t) :
  Calls Tryz.prog 69 #[.agg #[.slice d.a1 d.l1 d.c1,.slice d.a2 d.l2 d.c2,.slice d.a3 d.l3 d.c3,.slice d.a4 d.l4 d.c4,.slice d.a5 d.l5 d.c5,.int .i64 now],.string t] w fun e w' => e = .returned (.int .i64 (-1)) ∧ Below w.heap.size w w':=by
 refine (sxxd_any d now xs t w hr).mono ?_;rintro e w' ⟨hb,h⟩
 rcases h with ⟨i,y,h1,h2,rfl⟩ | ⟨h1,rfl⟩
 ·exact absurd h2 (hn i y h1)
 ·exact ⟨rfl,hb⟩

def SbAns (c : Cl) (t : ByteArray) (w : World) (e : Ending) (w' : World) : Prop :=
 Below w.heap.size w w' ∧ ((∃ (j : Nat) (v : Vd),c.vs[j]? = some v ∧ IsBd c t v ∧ e = .returned (.int .i64 j)) ∨ ((∀ v,¬ IsBd c t v) ∧ e = .returned (.int .i64 (-1))))

theorem sbind_any (d : Ad) (c : Cl) (t : ByteArray) (w : World) (hr : ClRow w d c.raw) (hx : RisBy Xd.n c.xs) (hv : RisBy Vd.n c.vs) (hne : ∀ (j : Nat) v,c.vs[j]? = some v → ¬ v.n = ⟨#[]⟩) :
  Calls Tryz.prog 131 #[.agg #[.slice d.a1 d.l1 d.c1,.slice d.a2 d.l2 d.c2,.slice d.a3 d.l3 d.c3,.slice d.a4 d.l4 d.c4,.slice d.a5 d.l5 d.c5,.int .i64 c.now],.string t] w (SbAns c t w):=by
 obtain ⟨a1,l1,y1,a2,l2,y2,a3,l3,y3,a4,l4,y4,a5,l5,y5⟩:=d;dsimp only;have HR:=hidK hr
 have hl1 : c.ns.length = l1:=by simpa using (show (c.ns.map ndF).length = l1 from hr.n.1)
 have hm1 : l1 ≤ 9223372036854775807:=Nat.le_trans hr.n.2.1 hr.n.2.2.1
 have hl2 : c.ks.length = l2:=by simpa using (show (c.ks.map kdF).length = l2 from hr.k.1)
 have hm2 : l2 ≤ 9223372036854775807:=Nat.le_trans hr.k.2.1 hr.k.2.2.1
 have hl3 : c.vs.length = l3:=by simpa using (show (c.vs.map vdF).length = l3 from hr.v.1)
 have hm3 : l3 ≤ 9223372036854775807:=Nat.le_trans hr.v.2.1 hr.v.2.2.1
 have hl4 : c.xs.length = l4:=by simpa using (show (c.xs.map xdF).length = l4 from hr.x.1)
 have hm4 : l4 ≤ 9223372036854775807:=Nat.le_trans hr.x.2.1 hr.x.2.2.1
 have hl5 : c.ps.length = l5:=by simpa using (show (c.ps.map pdF).length = l5 from hr.p.1)
 have hm5 : l5 ≤ 9223372036854775807:=Nat.le_trans hr.p.2.1 hr.p.2.2.1;clear hr;have HX:=hidK hx;have HV:=hidK hv;have HNE:=hidK hne;have HB:=hidK (Below.refl w.heap.size w);clear hx hv hne
 go_enter Tryz.func131,Tryz.ntmps131
 go_wp2_with fail;refine (sxxd_any ⟨a1,l1,y1,a2,l2,y2,a3,l3,y3,a4,l4,y4,a5,l5,y5⟩ c.now c.xs t _ (HR.out.x.below (below1 _ _))).mono ?_;rintro e w1 ⟨hb,hf⟩;obtain ⟨HA0,hbx⟩:=slots1 hb;have Bk:=hidK HA0;replace HB:=upB HB hbx;clear hb hbx HA0
 rcases hf with ⟨j,x,hx,hn,rfl⟩ | ⟨hh,rfl⟩
 rotate_left
 ·have HH:=hidK hh;clear hh;obtain ⟨k0,k1,k2,k3,k4,k5⟩:=cs6 Bk.out;have ltk_1:=lt_of_some Bk.out
  go_wp2
  go_ret;exact ⟨HB.out,.inr ⟨fun v ⟨i,j,x,e1,e2,_⟩ => HH.out i x e1 e2,rfl⟩⟩
 have hj : j < l4:=by have h1:=(List.getElem?_eq_some_iff.1 hx).1;omega
 obtain ⟨b,o,y,rfl,hbb,hy,hat⟩:=xd_at HR.out.x hj;rw [hx] at hy;obtain rfl:=Option.some.inj hy;obtain ⟨z0,z2,z4,c0,c1,c2,c3,c4⟩:=xd_cells hat;have HX1:=hidK hx;have HN1:=hidK hn;have e4:=(cell_below HB.out hbb).trans c4;have hb1 : b < w1.heap.size:=Nat.lt_of_lt_of_le hbb HB.out.size
 have hj0 : (0 : Int) ≤ j:=by omega
 clear hx hn hy hat z0 z2 z4 c0 c1 c2 c3
 by_cases he : x.v = ⟨#[]⟩
 ·have hq:=isE_y he;have HEm:=hidK he;clear he;obtain ⟨k0,k1,k2,k3,k4,k5⟩:=cs6 Bk.out;have ltk_1:=lt_of_some Bk.out
  go_wp2
  go_ret;refine ⟨HB.out,.inr ⟨fun v ⟨i,j2,x2,e1,e2,e3,e5⟩ => ?_,rfl⟩⟩;obtain ⟨_,rfl⟩:=HX.out.inj e1 HX1.out (e2.trans HN1.out.symm);exact HNE.out j2 v e3 (e5.trans HEm.out)
 ·have hq:=isE_no he;have HEm:=hidK he;clear he;obtain ⟨k0,k1,k2,k3,k4,k5⟩:=cs6 Bk.out;have ltk_1:=lt_of_some Bk.out;go_wp2_with fail
  by_cases hf : ∃ (j2 : Nat) (v : Vd),c.vs[j2]? = some v ∧ v.n = x.v
  ·obtain ⟨j2,v,h1,h2⟩:=hf;have HF1:=hidK h1;have HF2:=hidK h2;clear h1 h2;clear k0 k1 k2 k3 k4 k5 ltk_1;have Gk:=Bk;have HW:=HB;have k0:=fun q : Wd w1 => q.slot (o:=0) Gk.out rfl;have k1:=fun q : Wd w1 => q.slot (o:=1) Gk.out rfl;have k2:=fun q : Wd w1 => q.slot (o:=2) Gk.out rfl;have k3:=fun q : Wd w1 => q.slot (o:=3) Gk.out rfl;have k4:=fun q : Wd w1 => q.slot (o:=4) Gk.out rfl;have k5:=fun q : Wd w1 => q.slot (o:=5) Gk.out rfl;have e4w:=fun q : Wd w1 => (q.cell hb1).trans e4;have hne0:=Wd.ne w1;have HC0:=hidK (fun q : Wd w1 => sxvd_hit ⟨a1,l1,y1,a2,l2,y2,a3,l3,y3,(some ⟨b,o,none⟩),l4,y4,a5,l5,y5⟩ c.now c.vs x.v q.w (HR.out.v.below (HW.out.trans (q.b.mono HW.out.size))) HV.out HF1.out HF2.out);go_wp2_with fail;refine wp_region_wide (by kernel_rfl) (by kernel_rfl) ?_
   repeat (go_big_quiet_step (first | (go_at_call 34;exact Calls.wide (HC0.out _)) | fail))
   refine wpQuiet_nil ?_;rintro _ ⟨q,rfl⟩;have HB2:=upB HW q.b;have Ck:=upK Gk q.b;clear hne0 HW HB HC0 k0 k1 k2 k3 k4 k5 e4w Gk Bk;have HB:=HB2;clear HB2;have Bk:=Ck;clear Ck;go_wp2_with fail;go_ret;exact ⟨HB.out,.inl ⟨j2,v,HF1.out,⟨_,_,x,HX1.out,HN1.out,HF1.out,HF2.out⟩,rfl⟩⟩
  ·have HF:=hidK hf;clear hf;clear k0 k1 k2 k3 k4 k5 ltk_1;have Gk:=Bk;have HW:=HB;obtain ⟨k0,k1,k2,k3,k4,k5⟩:=sl6 Gk;have e4w:=fun q : Wd w1 => (q.cell hb1).trans e4;have hne0:=Wd.ne w1;have HC0:=hidK (fun q : Wd w1 => sxvd_miss ⟨a1,l1,y1,a2,l2,y2,a3,l3,y3,(some ⟨b,o,none⟩),l4,y4,a5,l5,y5⟩ c.now c.vs x.v q.w (HR.out.v.below (HW.out.trans (q.b.mono HW.out.size))) (fun j2 v h1 h2 => HF.out ⟨j2,v,h1,h2⟩));go_wp2_with fail;refine wp_region_wide (by kernel_rfl) (by kernel_rfl) ?_
   repeat (go_big_quiet_step (first | (go_at_call 34;exact Calls.wide (HC0.out _)) | fail))
   refine wpQuiet_nil ?_;rintro _ ⟨q,rfl⟩;have HB2:=upB HW q.b;have Ck:=upK Gk q.b;clear hne0 HW HB HC0 k0 k1 k2 k3 k4 k5 e4w Gk Bk;have HB:=HB2;clear HB2;have Bk:=Ck;clear Ck;go_wp2_with fail;go_ret;refine ⟨HB.out,.inr ⟨fun v ⟨i,j2,x2,e1,e2,e3,e5⟩ => ?_,rfl⟩⟩;obtain ⟨_,rfl⟩:=HX.out.inj e1 HX1.out (e2.trans HN1.out.symm);exact HF.out ⟨j2,v,e3,e5⟩

theorem sbind_hit (d : Ad) (c : Cl) (t : ByteArray) (w : World) (hr : ClRow w d c.raw) (hx : RisBy Xd.n c.xs) (hv : RisBy Vd.n c.vs) (hne : ∀ (j : Nat) v,c.vs[j]? = some v → ¬ v.n = ⟨#[]⟩) {j : Nat} {v : Vd} (hj : c.vs[j]? = some v) (hb : IsBd c t v) :
  Calls Tryz.prog 131 #[.agg #[.slice d.a1 d.l1 d.c1,.slice d.a2 d.l2 d.c2,.slice d.a3 d.l3 d.c3,.slice d.a4 d.l4 d.c4,.slice d.a5 d.l5 d.c5,.int .i64 c.now],.string t] w fun e w' => e = .returned (.int .i64 j) ∧ Below w.heap.size w w':=by
 refine (sbind_any d c t w hr hx hv hne).mono ?_;rintro e w' ⟨hw,h⟩
 rcases h with ⟨i,u,h1,h2,rfl⟩ | ⟨h1,rfl⟩
 ·obtain rfl:=IsBd.inj hx hv h2 hb;obtain ⟨rfl,_⟩:=hv.inj h1 hj rfl;exact ⟨rfl,hw⟩
 ·exact absurd hb (h1 v)
theorem sbind_miss (d : Ad) (c : Cl) (t : ByteArray) (w : World) (hr : ClRow w d c.raw) (hx : RisBy Xd.n c.xs) (hv : RisBy Vd.n c.vs) (hne : ∀ (j : Nat) v,c.vs[j]? = some v → ¬ v.n = ⟨#[]⟩) (hb : ∀ v,¬ IsBd c t v) :
  Calls Tryz.prog 131 #[.agg #[.slice d.a1 d.l1 d.c1,.slice d.a2 d.l2 d.c2,.slice d.a3 d.l3 d.c3,.slice d.a4 d.l4 d.c4,.slice d.a5 d.l5 d.c5,.int .i64 c.now],.string t] w fun e w' => e = .returned (.int .i64 (-1)) ∧ Below w.heap.size w w':=by
 refine (sbind_any d c t w hr hx hv hne).mono ?_;rintro e w' ⟨hw,h⟩
 rcases h with ⟨i,u,h1,h2,rfl⟩ | ⟨h1,rfl⟩
 ·exact absurd h2 (hb u)
 ·exact ⟨rfl,hw⟩
theorem IsBd.at {c : Cl} {t : ByteArray} {v : Vd} (h : IsBd c t v) : ∃ j : Nat,c.vs[j]? = some v:=by
 obtain ⟨_,j,_,_,_,h,_⟩:=h;exact ⟨j,h⟩

theorem sused_any (d : Ad) (now : Int) (ps : List Pd) (t : ByteArray) (w : World) (hr : RRow w d.a5 d.l5 d.c5 6 (ps.map pdF)) (hl : ps.length ≤ 8) (hp : ∀ (j : Nat) p,ps[j]? = some p → 0 ≤ p.c ∧ p.c ≤ 1000000) :
  Calls Tryz.prog 133 #[.agg #[.slice d.a1 d.l1 d.c1,.slice d.a2 d.l2 d.c2,.slice d.a3 d.l3 d.c3,.slice d.a4 d.l4 d.c4,.slice d.a5 d.l5 d.c5,.int .i64 now],.string t] w fun e w' => e = .returned (.int .i64 (cpuOf t ps)) ∧ Below w.heap.size w w':=by
 obtain ⟨a1,l1,y1,a2,l2,y2,a3,l3,y3,a4,l4,y4,a5,l5,y5⟩:=d;dsimp only at hr ⊢;have HR:=hidK hr
 have hxl : ps.length = l5:=by simpa using hr.1
 have HP:=hidK hp;clear hr hp
 go_enter Tryz.func133,Tryz.ntmps133
 go_wp2
 go_loopw [5,6] (fun q i wr => ∃ (k : Nat) (s : Int),k ≤ l5 ∧ q = .int .i64 s ∧ i = .int .i64 k ∧ Hid (s = cpuOf t (ps.take k)) ∧ 0 ≤ s ∧ s ≤ k * 1000000 ∧ wr = w.alloc (.cells #[.slice a1 l1 y1,.slice a2 l2 y2,.slice a3 l3 y3,.slice a4 l4 y4,.slice a5 l5 y5,.int .i64 now] 40)) (fun _ i _ => l5 - (intOf i).toNat)
 case atStart => exact ⟨0,0,by omega,rfl,rfl,rfl,by omega,by omega,rfl⟩
 case round =>
  obtain ⟨k,s,hk,rfl,rfl,HS,hs0,hs1,rfl⟩:=hrel
  by_cases hlt : k < l5
  ·obtain ⟨b,o,p,rfl,hb,hx,hat⟩:=pd_at HR.out hlt;obtain ⟨va,vl,vc,hvr,z0,z2,z4,c0,c1,c2,c3,c4,c5⟩:=pd_cells hat;have HX:=hidK hx;have hpc:=HP.out k p hx;clear hat hx z0 z2 z4 hvr
   by_cases hn : p.d = t
   ·have hq:=tl_yes hn;have HN:=hidK hn;clear hn
    go_wp2
    refine ⟨⟨k + 1,s + p.c,by omega,by go_num,by go_num,?_,by omega,by omega,by first | rfl | trivial⟩,by simp [intOf];omega⟩
    show _ = _
    rw [cpuOf_step HX.out,if_pos HN.out,← HS.out]
   ·have hq:=tl_no hn;have HN:=hidK hn;clear hn
    go_wp2
    refine ⟨⟨k + 1,s,by omega,rfl,by go_num,?_,by omega,by omega,by first | rfl | trivial⟩,by simp [intOf];omega⟩
    show _ = _
    rw [cpuOf_step HX.out,if_neg HN.out,← HS.out,Int.add_zero]
  ·obtain rfl : l5 = k:=by omega
   go_wp2
   go_ret;exact ⟨congrArg (fun z => Ending.returned (.int .i64 z)) (HS.out.trans (by rw [List.take_of_length_le (by omega)])),below1 _ _⟩

theorem son_any (d : Ad) (now : Int) (vs : List Vd) (t : ByteArray) (w : World) (hr : RRow w d.a3 d.l3 d.c3 8 (vs.map vdF)) (hl : vs.length ≤ 8) :
  Calls Tryz.prog 134 #[.agg #[.slice d.a1 d.l1 d.c1,.slice d.a2 d.l2 d.c2,.slice d.a3 d.l3 d.c3,.slice d.a4 d.l4 d.c4,.slice d.a5 d.l5 d.c5,.int .i64 now],.string t] w fun e w' => e = .returned (.int .i64 (onOf t vs)) ∧ Below w.heap.size w w':=by
 obtain ⟨a1,l1,y1,a2,l2,y2,a3,l3,y3,a4,l4,y4,a5,l5,y5⟩:=d;dsimp only at hr ⊢;have HR:=hidK hr
 have hxl : vs.length = l3:=by simpa using hr.1
 clear hr
 go_enter Tryz.func134,Tryz.ntmps134
 go_wp2
 go_loopw [5,6] (fun q i wr => ∃ (k : Nat) (s : Int),k ≤ l3 ∧ q = .int .i64 s ∧ i = .int .i64 k ∧ Hid (s = onOf t (vs.take k)) ∧ 0 ≤ s ∧ s ≤ k ∧ Hid (Below w.heap.size w wr) ∧ Hid (wr.heap[w.heap.size]? = some (.cells #[.slice a1 l1 y1,.slice a2 l2 y2,.slice a3 l3 y3,.slice a4 l4 y4,.slice a5 l5 y5,.int .i64 now] 40 (0,0)))) (fun _ i _ => l3 - (intOf i).toNat)
 case atStart => exact ⟨0,0,by omega,rfl,rfl,rfl,by omega,by omega,below1 _ _,Array.getElem?_push_size⟩
 case round =>
  obtain ⟨k,s,hk,rfl,rfl,HS,hs0,hs1,HB,Bk⟩:=hrel;have kk : wr.cell? ⟨w.heap.size,2,none⟩ = some (.slice a3 l3 y3):=cellK Bk.out 2
  by_cases hlt : k < l3
  ·obtain ⟨b,o,v,rfl,hb,hx,hat⟩:=vd_at (HR.out.below HB.out) hlt;obtain ⟨va,vl,vc,hvr,z0,z2,z3,z5,c0,c1,c2,c3,c4,c5,c6,c7⟩:=vd_cells hat;have HX:=hidK hx;have HT:=hidK hvr;clear hat hx z0 z2 z3 z5 hvr;go_wp2_with fail;refine (shas_any va vl vc v.zs t _ HT.out).mono ?_;rintro e w1 ⟨r,rfl,hi,hb2⟩;replace Bk:=upK Bk hb2;replace HB:=upB HB hb2;clear hb2;have HI:=hidK hi;clear hi hb kk c0 c1 c2 c3 c4 c5 c6 c7
   cases r
   ·go_wp2
    refine ⟨⟨k + 1,s,by omega,rfl,by go_num,?_,by omega,by omega,HB.out,Bk.out⟩,by simp [intOf];omega⟩
    show _ = _
    rw [onOf_step HX.out,if_neg (fun h => by have:=HI.out.2 h;cases this),← HS.out,Int.add_zero]
   ·go_wp2
    refine ⟨⟨k + 1,s + 1,by omega,by go_num,by go_num,?_,by omega,by omega,HB.out,Bk.out⟩,by simp [intOf];omega⟩
    show _ = _
    rw [onOf_step HX.out,if_pos (HI.out.1 (by first | trivial | rfl)),← HS.out]
  ·obtain rfl : l3 = k:=by omega
   go_wp2
   go_ret;exact ⟨congrArg (fun z => Ending.returned (.int .i64 z)) (HS.out.trans (by rw [List.take_of_length_le (by omega)])),HB.out⟩

def PairS (c : Cl) (p q : Pd) : Prop:=p.d = ⟨#[]⟩ ∨ q.d = ⟨#[]⟩ ∨ p.d = q.d ∨ ∀ (j : Nat) t,p.zs[j]? = some t → ∀ v,IsBd c t v → v.x = true → ¬ InL q.zs t

theorem spair_any (d : Ad) (c : Cl) (p q : Pd) (pa : Option Addr) (pl pc : Nat) (qa : Option Addr) (ql qc : Nat) (w : World) (hr : ClRow w d c.raw) (hx : RisBy Xd.n c.xs) (hv : RisBy Vd.n c.vs) (hne : ∀ (j : Nat) v,c.vs[j]? = some v → ¬ v.n = ⟨#[]⟩) (hp : TxRow w pa pl pc p.zs) (hq : TxRow w qa ql qc q.zs) :
  Calls Tryz.prog 132 #[.agg #[.slice d.a1 d.l1 d.c1,.slice d.a2 d.l2 d.c2,.slice d.a3 d.l3 d.c3,.slice d.a4 d.l4 d.c4,.slice d.a5 d.l5 d.c5,.int .i64 c.now],.agg #[.string p.n,.int .i64 p.c,.string p.z,.slice pa pl pc,.string p.d,.int .i64 p.p],.agg #[.string q.n,.int .i64 q.c,.string q.z,.slice qa ql qc,.string q.d,.int .i64 q.p]] w (BoolB (PairS c p q) w):=by
 obtain ⟨a1,l1,y1,a2,l2,y2,a3,l3,y3,a4,l4,y4,a5,l5,y5⟩:=d;dsimp only;have HR:=hidK hr
 have hl1 : c.ns.length = l1:=by simpa using (show (c.ns.map ndF).length = l1 from hr.n.1)
 have hm1 : l1 ≤ 9223372036854775807:=Nat.le_trans hr.n.2.1 hr.n.2.2.1
 have hl2 : c.ks.length = l2:=by simpa using (show (c.ks.map kdF).length = l2 from hr.k.1)
 have hm2 : l2 ≤ 9223372036854775807:=Nat.le_trans hr.k.2.1 hr.k.2.2.1
 have hl3 : c.vs.length = l3:=by simpa using (show (c.vs.map vdF).length = l3 from hr.v.1)
 have hm3 : l3 ≤ 9223372036854775807:=Nat.le_trans hr.v.2.1 hr.v.2.2.1
 have hl4 : c.xs.length = l4:=by simpa using (show (c.xs.map xdF).length = l4 from hr.x.1)
 have hm4 : l4 ≤ 9223372036854775807:=Nat.le_trans hr.x.2.1 hr.x.2.2.1
 have hl5 : c.ps.length = l5:=by simpa using (show (c.ps.map pdF).length = l5 from hr.p.1)
 have hm5 : l5 ≤ 9223372036854775807:=Nat.le_trans hr.p.2.1 hr.p.2.2.1;clear hr;have HX:=hidK hx;have HV:=hidK hv;have HNE:=hidK hne;have HP:=hidK hp;have HQ0:=hidK hq;have hlc : pl ≤ 9223372036854775807:=Nat.le_trans hp.2.1 hp.2.2.1;have hzl : p.zs.length = pl:=hp.1;clear hx hv hne hp hq
 by_cases hp0 : p.d = ⟨#[]⟩
 ·have e1:=isE_y hp0;have HH:=hidK hp0;clear hp0
  go_enter Tryz.func132,Tryz.ntmps132
  go_wp2
  go_ret;exact BoolB.t (.inl HH.out) (below3 _ _ _ _)
 by_cases hq0 : q.d = ⟨#[]⟩
 ·have e1:=isE_no hp0;have e2:=isE_y hq0;have HH:=hidK hq0;clear hp0 hq0
  go_enter Tryz.func132,Tryz.ntmps132
  go_wp2
  go_ret;exact BoolB.t (.inr (.inl HH.out)) (below3 _ _ _ _)
 by_cases hpq : p.d = q.d
 ·have e1:=isE_no hp0;have e2:=isE_no hq0;have e3:=tl_yes hpq;have HH:=hidK hpq;clear hp0 hq0 hpq
  go_enter Tryz.func132,Tryz.ntmps132
  go_wp2
  go_ret;exact BoolB.t (.inr (.inr (.inl HH.out))) (below3 _ _ _ _)
 have e1:=isE_no hp0;have e2:=isE_no hq0;have e3:=tl_no hpq;have HP0:=hidK hp0;have HQ1:=hidK hq0;have HPQ:=hidK hpq;clear hp0 hq0 hpq
 go_enter Tryz.func132,Tryz.ntmps132
 go_wp2
 clear e1 e2 e3
 go_loopw [7] (fun i wr => ∃ k : Nat,k ≤ pl ∧ i = .int .i64 k ∧ Hid (∀ (j : Nat) t,j < k → p.zs[j]? = some t → ∀ v,IsBd c t v → v.x = true → ¬ InL q.zs t) ∧ Hid (Below w.heap.size w wr) ∧ Hid (wr.heap[w.heap.size]? = some (.cells #[.slice a1 l1 y1,.slice a2 l2 y2,.slice a3 l3 y3,.slice a4 l4 y4,.slice a5 l5 y5,.int .i64 c.now] 40 (0,0))) ∧ Hid (wr.heap[w.heap.size + 1]? = some (.cells #[.string p.n,.int .i64 p.c,.string p.z,.slice pa pl pc,.string p.d,.int .i64 p.p] 58 (0,0))) ∧ Hid (wr.heap[w.heap.size + 1 + 1]? = some (.cells #[.string q.n,.int .i64 q.c,.string q.z,.slice qa ql qc,.string q.d,.int .i64 q.p] 58 (0,0)))) (fun i _ => pl - (intOf i).toNat)
 case atStart => exact ⟨0,by omega,rfl,fun _ _ h => absurd h (by omega),below3 _ _ _ _,heap3_0 _ _ _ _,heap3_1 _ _ _ _,heap3_2 _ _ _ _⟩
 case round =>
  obtain ⟨k,hk,rfl,HQ,HB,Bk,Bx,By⟩:=hrel;have px3 : wr.cell? ⟨w.heap.size + 1,3,none⟩ = some (.slice pa pl pc):=cellK Bx.out 3
  by_cases hlt : k < pl
  ·obtain ⟨b,o,t,rfl,hb,hxt,hc,hsz⟩:=HP.out.at hlt;have HXt:=hidK hxt;have hcw:=(cell_below HB.out hb).trans hc;have hbw : b < wr.heap.size:=Nat.lt_of_lt_of_le hb HB.out.size;clear hxt hsz
   have hcase : (∃ v,IsBd c t v) ∨ (∀ v,¬ IsBd c t v):=by
    by_cases h : ∃ v,IsBd c t v
    ·exact .inl h
    ·exact .inr (fun v hv => h ⟨v,hv⟩)
   rcases hcase with ⟨v,hbd⟩ | hbd
   ·obtain ⟨j3,hj3⟩:=hbd.at
    have hl3' : j3 < l3:=by have h1:=(List.getElem?_eq_some_iff.1 hj3).1;omega
    obtain ⟨b3,o3,v',rfl,hb3,hv',hat⟩:=vd_at HR.out.v hl3';rw [hj3] at hv';obtain rfl:=Option.some.inj hv';obtain ⟨va,vl,vc,hvr,z0,z2,z3,z5,c0,c1,c2,c3,c4,c5,c6,c7⟩:=vd_cells hat;have HJ:=hidK hj3;have HD:=hidK hbd;have hcv:=(cell_below HB.out hb3).trans c4;have hbv : b3 < wr.heap.size:=Nat.lt_of_lt_of_le hb3 HB.out.size
    have hj0 : (0 : Int) ≤ j3:=by omega
    clear hv' hat hvr z0 z2 z3 z5 c0 c1 c2 c3 c4 c5 c6 c7 hj3 hbd;have Gk:=Bk;have Gx:=Bx;have Gy:=By;have HW:=HB;obtain ⟨k0,k1,k2,k3,k4,k5⟩:=sl6 Gk;have x3:=fun q : Wd wr => q.slot (o:=3) Gx.out rfl;have tw:=fun q : Wd wr => (q.cell hbw).trans hcw;have hne0:=Wd.ne wr;have HC0:=hidK (fun q : Wd wr => sbind_hit ⟨a1,l1,y1,a2,l2,y2,(some ⟨b3,o3,none⟩),l3,y3,a4,l4,y4,a5,l5,y5⟩ c t q.w (HR.out.below (HW.out.trans (q.b.mono HW.out.size))) HX.out HV.out HNE.out HJ.out HD.out);go_wp2_with fail;refine wp_region_wide (by kernel_rfl) (by kernel_rfl) ?_
    repeat (go_big_quiet_step (first | (go_at_call 131;exact Calls.wide (HC0.out _)) | fail))
    refine wpQuiet_nil ?_;rintro _ ⟨q1,rfl⟩;have HB1:=upB HW q1.b;have Ck:=upK Gk q1.b;have Cx:=upK Gx q1.b;have Cy:=upK Gy q1.b;clear hne0 HW HB HC0 k0 k1 k2 k3 k4 k5 x3 tw Gk Gx Gy Bk Bx By px3;have HB:=HB1;clear HB1;have Bk:=Ck;clear Ck;have Bx:=Cx;clear Cx;have By:=Cy;clear Cy;have hcw1:=(q1.cell hbw).trans hcw;have hbw1 : b < q1.w.heap.size:=Nat.lt_of_lt_of_le hbw q1.b.size;have hcv1:=(q1.cell hbv).trans hcv;have hbv1 : b3 < q1.w.heap.size:=Nat.lt_of_lt_of_le hbv q1.b.size;clear hcw hbw hcv hbv
    rcases Bool.eq_false_or_eq_true v.x with hs | hs
    rotate_left
    ·have HSi:=hidK hs;rw [hs] at hcv1;clear hs;have Gk:=Bk;have Gx:=Bx;have Gy:=By;have HW:=HB;have k2:=fun q : Wd q1.w => q.slot (o:=2) Gk.out rfl;have x3:=fun q : Wd q1.w => q.slot (o:=3) Gx.out rfl;have y3:=fun q : Wd q1.w => q.slot (o:=3) Gy.out rfl;have tw:=fun q : Wd q1.w => (q.cell hbw1).trans hcw1;have vw:=fun q : Wd q1.w => (q.cell hbv1).trans hcv1;have hne0:=Wd.ne q1.w;go_wp2_with fail;refine wp_region_wide (by kernel_rfl) (by kernel_rfl) ?_
     repeat (go_big_quiet_step (first | fail))
     refine wpQuiet_nil ?_;rintro _ ⟨q2,rfl⟩;have HB2:=upB HW q2.b;have Ck:=upK Gk q2.b;have Cx:=upK Gx q2.b;have Cy:=upK Gy q2.b;clear hne0 HW HB k2 x3 y3 tw vw Gk Gx Gy Bk Bx By;have HB:=HB2;clear HB2;have Bk:=Ck;clear Ck;have Bx:=Cx;clear Cx;have By:=Cy;clear Cy;go_wp2_with fail;refine ⟨⟨k + 1,by omega,by go_num,fun j s hj hs => ?_,HB.out,Bk.out,Bx.out,By.out⟩,by simp [intOf];omega⟩
     by_cases e : j = k
     ·subst e;rw [HXt.out] at hs;obtain rfl:=Option.some.inj hs;intro v2 h1 h2;obtain rfl:=IsBd.inj HX.out HV.out HD.out h1;rw [HSi.out] at h2;cases h2
     ·exact HQ.out j s (by omega) hs
    have HSi:=hidK hs;rw [hs] at hcv1;clear hs
    by_cases hin : InL q.zs t
    ·have HIn:=hidK hin;clear hin;have Gk:=Bk;have Gx:=Bx;have Gy:=By;have HW:=HB;have k2:=fun q : Wd q1.w => q.slot (o:=2) Gk.out rfl;have x3:=fun q : Wd q1.w => q.slot (o:=3) Gx.out rfl;have y3:=fun q : Wd q1.w => q.slot (o:=3) Gy.out rfl;have tw:=fun q : Wd q1.w => (q.cell hbw1).trans hcw1;have vw:=fun q : Wd q1.w => (q.cell hbv1).trans hcv1;have hne0:=Wd.ne q1.w;have HC0:=hidK (fun qq : Wd q1.w => (shas_any qa ql qc q.zs t qq.w (HQ0.out.below (HW.out.trans (qq.b.mono HW.out.size)))).mono (fun _ _ h => BoolB.yes h HIn.out));go_wp2_with fail;refine wp_region_wide (by kernel_rfl) (by kernel_rfl) ?_
     repeat (go_big_quiet_step (first | (go_at_call 135;exact Calls.wide (HC0.out _)) | fail))
     refine wpQuiet_nil ?_;rintro _ ⟨q2,rfl⟩;have HB2:=upB HW q2.b;have Ck:=upK Gk q2.b;have Cx:=upK Gx q2.b;have Cy:=upK Gy q2.b;clear hne0 HW HB HC0 k2 x3 y3 tw vw Gk Gx Gy Bk Bx By;have HB:=HB2;clear HB2;have Bk:=Ck;clear Ck;have Bx:=Cx;clear Cx;have By:=Cy;clear Cy
     go_wp2
     go_ret;refine BoolB.f (fun h => ?_) HB.out
     rcases h with h | h | h | h
     ·exact HP0.out h
     ·exact HQ1.out h
     ·exact HPQ.out h
     ·exact h k t HXt.out v HD.out HSi.out HIn.out
    ·have HIn:=hidK hin;clear hin;have Gk:=Bk;have Gx:=Bx;have Gy:=By;have HW:=HB;have k2:=fun q : Wd q1.w => q.slot (o:=2) Gk.out rfl;have x3:=fun q : Wd q1.w => q.slot (o:=3) Gx.out rfl;have y3:=fun q : Wd q1.w => q.slot (o:=3) Gy.out rfl;have tw:=fun q : Wd q1.w => (q.cell hbw1).trans hcw1;have vw:=fun q : Wd q1.w => (q.cell hbv1).trans hcv1;have hne0:=Wd.ne q1.w;have HC0:=hidK (fun qq : Wd q1.w => (shas_any qa ql qc q.zs t qq.w (HQ0.out.below (HW.out.trans (qq.b.mono HW.out.size)))).mono (fun _ _ h => BoolB.no h HIn.out));go_wp2_with fail;refine wp_region_wide (by kernel_rfl) (by kernel_rfl) ?_
     repeat (go_big_quiet_step (first | (go_at_call 135;exact Calls.wide (HC0.out _)) | fail))
     refine wpQuiet_nil ?_;rintro _ ⟨q2,rfl⟩;have HB2:=upB HW q2.b;have Ck:=upK Gk q2.b;have Cx:=upK Gx q2.b;have Cy:=upK Gy q2.b;clear hne0 HW HB HC0 k2 x3 y3 tw vw Gk Gx Gy Bk Bx By;have HB:=HB2;clear HB2;have Bk:=Ck;clear Ck;have Bx:=Cx;clear Cx;have By:=Cy;clear Cy;go_wp2_with fail;refine ⟨⟨k + 1,by omega,by go_num,fun j s hj hs => ?_,HB.out,Bk.out,Bx.out,By.out⟩,by simp [intOf];omega⟩
     by_cases e : j = k
     ·subst e;rw [HXt.out] at hs;obtain rfl:=Option.some.inj hs;intro v2 h1 h2;exact HIn.out
     ·exact HQ.out j s (by omega) hs
   ·have HD:=hidK hbd;clear hbd;have Gk:=Bk;have Gx:=Bx;have Gy:=By;have HW:=HB;obtain ⟨k0,k1,k2,k3,k4,k5⟩:=sl6 Gk;have x3:=fun q : Wd wr => q.slot (o:=3) Gx.out rfl;have tw:=fun q : Wd wr => (q.cell hbw).trans hcw;have hne0:=Wd.ne wr;have HC0:=hidK (fun q : Wd wr => sbind_miss ⟨a1,l1,y1,a2,l2,y2,a3,l3,y3,a4,l4,y4,a5,l5,y5⟩ c t q.w (HR.out.below (HW.out.trans (q.b.mono HW.out.size))) HX.out HV.out HNE.out HD.out);go_wp2_with fail;refine wp_region_wide (by kernel_rfl) (by kernel_rfl) ?_
    repeat (go_big_quiet_step (first | (go_at_call 131;exact Calls.wide (HC0.out _)) | fail))
    refine wpQuiet_nil ?_;rintro _ ⟨q1,rfl⟩;have HB1:=upB HW q1.b;have Ck:=upK Gk q1.b;have Cx:=upK Gx q1.b;have Cy:=upK Gy q1.b;clear hne0 HW HB HC0 k0 k1 k2 k3 k4 k5 x3 tw Gk Gx Gy Bk Bx By px3;have HB:=HB1;clear HB1;have Bk:=Ck;clear Ck;have Bx:=Cx;clear Cx;have By:=Cy;clear Cy;have Gk:=Bk;have Gx:=Bx;have Gy:=By;have HW:=HB;have k2:=fun q : Wd q1.w => q.slot (o:=2) Gk.out rfl;have x3:=fun q : Wd q1.w => q.slot (o:=3) Gx.out rfl;have y3:=fun q : Wd q1.w => q.slot (o:=3) Gy.out rfl;have hne0:=Wd.ne q1.w;go_wp2_with fail;refine wp_region_wide (by kernel_rfl) (by kernel_rfl) ?_
    repeat (go_big_quiet_step (first | fail))
    refine wpQuiet_nil ?_;rintro _ ⟨q2,rfl⟩;have HB2:=upB HW q2.b;have Ck:=upK Gk q2.b;have Cx:=upK Gx q2.b;have Cy:=upK Gy q2.b;clear hne0 HW HB k2 x3 y3 Gk Gx Gy Bk Bx By;have HB:=HB2;clear HB2;have Bk:=Ck;clear Ck;have Bx:=Cx;clear Cx;have By:=Cy;clear Cy;go_wp2_with fail;refine ⟨⟨k + 1,by omega,by go_num,fun j s hj hs => ?_,HB.out,Bk.out,Bx.out,By.out⟩,by simp [intOf];omega⟩
    by_cases e : j = k
    ·subst e;rw [HXt.out] at hs;obtain rfl:=Option.some.inj hs;intro v2 h1;exact absurd h1 (HD.out v2)
    ·exact HQ.out j s (by omega) hs
  ·obtain rfl : pl = k:=by omega
   go_wp2
   go_ret;exact BoolB.t (.inr (.inr (.inr (fun j t ht => HQ.out j t (by have:=(List.getElem?_eq_some_iff.1 ht).1;omega) ht)))) HB.out

theorem seach_any (d : Ad) (c : Cl) (w : World) (hr : ClRow w d c.raw) :
  Calls Tryz.prog 79 #[.agg #[.slice d.a1 d.l1 d.c1,.slice d.a2 d.l2 d.c2,.slice d.a3 d.l3 d.c3,.slice d.a4 d.l4 d.c4,.slice d.a5 d.l5 d.c5,.int .i64 c.now]] w (BoolB (RowsOk c) w):=by
 obtain ⟨a1,l1,y1,a2,l2,y2,a3,l3,y3,a4,l4,y4,a5,l5,y5⟩:=d;dsimp only;have HR:=hidK hr
 have hl1 : c.ns.length = l1:=by simpa using (show (c.ns.map ndF).length = l1 from hr.n.1)
 have hm1 : l1 ≤ 9223372036854775807:=Nat.le_trans hr.n.2.1 hr.n.2.2.1
 have hl2 : c.ks.length = l2:=by simpa using (show (c.ks.map kdF).length = l2 from hr.k.1)
 have hm2 : l2 ≤ 9223372036854775807:=Nat.le_trans hr.k.2.1 hr.k.2.2.1
 have hl3 : c.vs.length = l3:=by simpa using (show (c.vs.map vdF).length = l3 from hr.v.1)
 have hm3 : l3 ≤ 9223372036854775807:=Nat.le_trans hr.v.2.1 hr.v.2.2.1
 have hl4 : c.xs.length = l4:=by simpa using (show (c.xs.map xdF).length = l4 from hr.x.1)
 have hm4 : l4 ≤ 9223372036854775807:=Nat.le_trans hr.x.2.1 hr.x.2.2.1
 have hl5 : c.ps.length = l5:=by simpa using (show (c.ps.map pdF).length = l5 from hr.p.1)
 have hm5 : l5 ≤ 9223372036854775807:=Nat.le_trans hr.p.2.1 hr.p.2.2.1;clear hr
 by_cases hL1 : (6 : Int) < l1
 ·go_enter Tryz.func79,Tryz.ntmps79
  go_wp2
  go_ret;exact BoolB.f (fun h => by have:=h.1.1;omega) (below1 _ _)
 by_cases hL2 : (8 : Int) < l2
 ·go_enter Tryz.func79,Tryz.ntmps79
  go_wp2
  go_ret;exact BoolB.f (fun h => by have:=h.2.1.1;omega) (below1 _ _)
 by_cases hL3 : (8 : Int) < l3
 ·go_enter Tryz.func79,Tryz.ntmps79
  go_wp2
  go_ret;exact BoolB.f (fun h => by have:=h.2.2.1.1;omega) (below1 _ _)
 by_cases hL4 : (8 : Int) < l4
 ·go_enter Tryz.func79,Tryz.ntmps79
  go_wp2
  go_ret;exact BoolB.f (fun h => by have:=h.2.2.2.1.1;omega) (below1 _ _)
 by_cases hL5 : (8 : Int) < l5
 ·go_enter Tryz.func79,Tryz.ntmps79
  go_wp2
  go_ret;exact BoolB.f (fun h => by have:=h.2.2.2.2.1;omega) (below1 _ _)
 go_enter Tryz.func79,Tryz.ntmps79
 go_wp2
 go_loopw [3] (fun i wr => ∃ k : Nat,k ≤ l1 ∧ i = .int .i64 k ∧ Hid (∀ (j : Nat) z,j < k → c.ns[j]? = some z → ndOk z) ∧ Hid (∀ (j : Nat) z u,j + 1 < k → c.ns[j + 1]? = some z → c.ns[j]? = some u → Op.bytesLess u.n.toList z.n.toList = true) ∧ Hid (Below w.heap.size w wr) ∧ Hid (wr.heap[w.heap.size]? = some (.cells #[.slice a1 l1 y1,.slice a2 l2 y2,.slice a3 l3 y3,.slice a4 l4 y4,.slice a5 l5 y5,.int .i64 c.now] 40 (0,0)))) (fun i _ => l1 - (intOf i).toNat)
 case atStart => exact ⟨0,by omega,rfl,fun _ _ h => absurd h (by omega),fun _ _ _ h => absurd h (by omega),below1 _ _,Array.getElem?_push_size⟩
 case round =>
  obtain ⟨k,hk,rfl,HQ,HO,HB,Bk⟩:=hrel;have pk : wr.cell? ⟨w.heap.size,0,none⟩ = some (.slice a1 l1 y1):=cellK Bk.out 0
  by_cases hlt : k < l1
  ·obtain ⟨b,o,x,rfl,hb,hx,hat⟩:=nd_at (HR.out.n.below HB.out) hlt;obtain ⟨va,vl,vc,hvr,z0,z1,c0,c1,c2,c3,c4,c5,c6⟩:=nd_cells hat;have HXx:=hidK hx;have HTx:=hidK hvr;have HZx0:=hidK z0;have HZx1:=hidK z1;clear hat hx z0 z1 hvr
   by_cases hok : ndOk x
   rotate_left
   ·have HOK:=hidK hok;clear hok;have Gk:=Bk;have HW:=HB;have k0:=fun q : Wd wr => q.slot (o:=0) Gk.out rfl;have x0:=fun q : Wd wr => (q.cell hb).trans c0;have x1:=fun q : Wd wr => (q.cell hb).trans c1;have x2:=fun q : Wd wr => (q.cell hb).trans c2;have x3:=fun q : Wd wr => (q.cell hb).trans c3;have x4:=fun q : Wd wr => (q.cell hb).trans c4;have x5:=fun q : Wd wr => (q.cell hb).trans c5;have x6:=fun q : Wd wr => (q.cell hb).trans c6;have hne0:=Wd.ne wr;have HC0:=hidK (fun q : Wd wr => (snode_any x.n x.z x.c x.s x.u x.d va vl vc x.zs q.w HZx0.out HZx1.out (HTx.out.below q.b)).mono (fun _ _ h => BoolB.no h HOK.out));go_wp2_with fail;refine wp_region_wide (by kernel_rfl) (by kernel_rfl) ?_
    repeat (go_big_quiet_step (first | (go_at_call 127;exact Calls.wide (HC0.out _)) | fail))
    refine wpQuiet_nil ?_;rintro _ ⟨q,rfl⟩;have HB1:=upB HW q.b;have Ck:=upK Gk q.b;clear hne0 HW HB HC0 k0 x0 x1 x2 x3 x4 x5 x6 Gk Bk c0 c1 c2 c3 c4 c5 c6 pk;have HB:=HB1;clear HB1;have Bk:=Ck;clear Ck
    go_wp2
    go_ret;exact BoolB.f (fun h => HOK.out (h.1.2.1 k x HXx.out)) HB.out
   have HOK:=hidK hok;clear hok
   by_cases hk0 : 0 < k
   rotate_left
   ·have hd : decide ((0 : Int) < k) = false:=by simp;omega
    have Gk:=Bk;have HW:=HB;have k0:=fun q : Wd wr => q.slot (o:=0) Gk.out rfl;have x0:=fun q : Wd wr => (q.cell hb).trans c0;have x1:=fun q : Wd wr => (q.cell hb).trans c1;have x2:=fun q : Wd wr => (q.cell hb).trans c2;have x3:=fun q : Wd wr => (q.cell hb).trans c3;have x4:=fun q : Wd wr => (q.cell hb).trans c4;have x5:=fun q : Wd wr => (q.cell hb).trans c5;have x6:=fun q : Wd wr => (q.cell hb).trans c6;have hne0:=Wd.ne wr;have HC0:=hidK (fun q : Wd wr => (snode_any x.n x.z x.c x.s x.u x.d va vl vc x.zs q.w HZx0.out HZx1.out (HTx.out.below q.b)).mono (fun _ _ h => BoolB.yes h HOK.out));go_wp2_with fail;refine wp_region_wide (by kernel_rfl) (by kernel_rfl) ?_
    repeat (go_big_quiet_step (first | (go_at_call 127;exact Calls.wide (HC0.out _)) | fail))
    refine wpQuiet_nil ?_;rintro _ ⟨q,rfl⟩;have HB1:=upB HW q.b;have Ck:=upK Gk q.b;clear hne0 HW HB HC0 k0 x0 x1 x2 x3 x4 x5 x6 Gk Bk c0 c1 c2 c3 c4 c5 c6 pk;have HB:=HB1;clear HB1;have Bk:=Ck;clear Ck;clear hd;go_wp2_with fail;refine ⟨⟨k + 1,by omega,by go_num,fun j z hj hz => ?_,fun j z y hj hz hy => ?_,HB.out,Bk.out⟩,by simp [intOf];omega⟩
    ·by_cases e : j = k
     ·subst e;rw [HXx.out] at hz;obtain rfl:=Option.some.inj hz;exact HOK.out
     ·exact HQ.out j z (by omega) hz
    ·by_cases e : j + 1 = k
     ·exact absurd hk0 (by omega)
     ·exact HO.out j z y (by omega) hz hy
   have hk0' : (0 : Int) < k:=by omega
   have ek : ((k : Int) - 1).toNat = k - 1:=by omega
   obtain ⟨b',o',y,e',hb',hy,haty⟩:=nd_at (HR.out.n.below HB.out) (show k - 1 < l1 by omega)
   cases e'
   have y0 : wr.cell? ⟨b,o + (k - 1) * 7,none⟩ = some (.string y.n):=by
    obtain ⟨q,h1,h2⟩:=haty 0 _ rfl;obtain ⟨rfl,-⟩:=h2;exact h1
   have HXy:=hidK hy;clear hy haty
   cases hless : Op.bytesLess y.n.toList x.n.toList
   ·have Gk : Hid (wr.heap[w.heap.size]? = some (.cells #[.slice (some ⟨b,o,none⟩) l1 y1,.slice a2 l2 y2,.slice a3 l3 y3,.slice a4 l4 y4,.slice a5 l5 y5,.int .i64 c.now] 40 (0,0))):=Bk.out;have HW:=HB;have k0:=fun q : Wd wr => q.slot (o:=0) Gk.out rfl;have x0:=fun q : Wd wr => (q.cell hb).trans c0;have x1:=fun q : Wd wr => (q.cell hb).trans c1;have x2:=fun q : Wd wr => (q.cell hb).trans c2;have x3:=fun q : Wd wr => (q.cell hb).trans c3;have x4:=fun q : Wd wr => (q.cell hb).trans c4;have x5:=fun q : Wd wr => (q.cell hb).trans c5;have x6:=fun q : Wd wr => (q.cell hb).trans c6;have yw:=fun q : Wd wr => (q.cell hb).trans y0;have hne0:=Wd.ne wr;have HC0:=hidK (fun q : Wd wr => (snode_any x.n x.z x.c x.s x.u x.d va vl vc x.zs q.w HZx0.out HZx1.out (HTx.out.below q.b)).mono (fun _ _ h => BoolB.yes h HOK.out));go_wp2_with fail;refine wp_region_wide (by kernel_rfl) (by kernel_rfl) ?_
    repeat (go_big_quiet_step (first | (go_at_call 127;exact Calls.wide (HC0.out _)) | fail))
    refine wpQuiet_nil ?_;rintro _ ⟨q,rfl⟩;have HB1:=upB HW q.b;have Ck:=upK Gk q.b;clear hne0 HW HB HC0 k0 x0 x1 x2 x3 x4 x5 x6 yw Gk Bk c0 c1 c2 c3 c4 c5 c6 pk y0;have HB:=HB1;clear HB1;have Bk:=Ck;clear Ck
    go_wp2
    go_ret;refine BoolB.f (fun h => ?_) HB.out;have h3:=h.1.2.2 (k - 1) x y (by rw [Nat.sub_add_cancel hk0];exact HXx.out) HXy.out;rw [hless] at h3
    cases h3
   ·have Gk : Hid (wr.heap[w.heap.size]? = some (.cells #[.slice (some ⟨b,o,none⟩) l1 y1,.slice a2 l2 y2,.slice a3 l3 y3,.slice a4 l4 y4,.slice a5 l5 y5,.int .i64 c.now] 40 (0,0))):=Bk.out;have HW:=HB;have k0:=fun q : Wd wr => q.slot (o:=0) Gk.out rfl;have x0:=fun q : Wd wr => (q.cell hb).trans c0;have x1:=fun q : Wd wr => (q.cell hb).trans c1;have x2:=fun q : Wd wr => (q.cell hb).trans c2;have x3:=fun q : Wd wr => (q.cell hb).trans c3;have x4:=fun q : Wd wr => (q.cell hb).trans c4;have x5:=fun q : Wd wr => (q.cell hb).trans c5;have x6:=fun q : Wd wr => (q.cell hb).trans c6;have yw:=fun q : Wd wr => (q.cell hb).trans y0;have hne0:=Wd.ne wr;have HC0:=hidK (fun q : Wd wr => (snode_any x.n x.z x.c x.s x.u x.d va vl vc x.zs q.w HZx0.out HZx1.out (HTx.out.below q.b)).mono (fun _ _ h => BoolB.yes h HOK.out));go_wp2_with fail;refine wp_region_wide (by kernel_rfl) (by kernel_rfl) ?_
    repeat (go_big_quiet_step (first | (go_at_call 127;exact Calls.wide (HC0.out _)) | fail))
    refine wpQuiet_nil ?_;rintro _ ⟨q,rfl⟩;have HB1:=upB HW q.b;have Ck:=upK Gk q.b;clear hne0 HW HB HC0 k0 x0 x1 x2 x3 x4 x5 x6 yw Gk Bk c0 c1 c2 c3 c4 c5 c6 pk y0;have HB:=HB1;clear HB1;have Bk:=Ck;clear Ck;clear hk0' ek;go_wp2_with fail;refine ⟨⟨k + 1,by omega,by go_num,fun j z hj hz => ?_,fun j z y hj hz hy => ?_,HB.out,Bk.out⟩,by simp [intOf];omega⟩
    ·by_cases e : j = k
     ·subst e;rw [HXx.out] at hz;obtain rfl:=Option.some.inj hz;exact HOK.out
     ·exact HQ.out j z (by omega) hz
    ·by_cases e : j + 1 = k
     ·have hj : j = k - 1:=by omega
      subst hj;rw [Nat.sub_add_cancel hk0,HXx.out] at hz;obtain rfl:=Option.some.inj hz;rw [HXy.out] at hy;obtain rfl:=Option.some.inj hy;exact hless
     ·exact HO.out j z y (by omega) hz hy
  ·obtain rfl : l1 = k:=by omega
   have HR1 : Hid (RowOk ndOk Nd.n c.ns 6):=⟨by omega,fun j z hz => HQ.out j z (by have:=(List.getElem?_eq_some_iff.1 hz).1;omega) hz,fun j z u hz hu => HO.out j z u (by have:=(List.getElem?_eq_some_iff.1 hz).1;omega) hz hu⟩;clear HQ HO
   skip
   have kc : wr.cell? ⟨w.heap.size,1,none⟩ = some (.slice a2 l2 y2):=cellK Bk.out 1
   go_wp2
   go_loopw [4] (fun i wr => ∃ k : Nat,k ≤ l2 ∧ i = .int .i64 k ∧ Hid (∀ (j : Nat) z,j < k → c.ks[j]? = some z → kdOk z) ∧ Hid (∀ (j : Nat) z u,j + 1 < k → c.ks[j + 1]? = some z → c.ks[j]? = some u → Op.bytesLess u.n.toList z.n.toList = true) ∧ Hid (Below w.heap.size w wr) ∧ Hid (wr.heap[w.heap.size]? = some (.cells #[.slice a1 l1 y1,.slice a2 l2 y2,.slice a3 l3 y3,.slice a4 l4 y4,.slice a5 l5 y5,.int .i64 c.now] 40 (0,0)))) (fun i _ => l2 - (intOf i).toNat)
   case atStart => exact ⟨0,by omega,rfl,fun _ _ h => absurd h (by omega),fun _ _ _ h => absurd h (by omega),HB.out,Bk.out⟩
   case round =>
    obtain ⟨k,hk,rfl,HQ,HO,HB,Bk⟩:=hrel;have pk : wr.cell? ⟨w.heap.size,1,none⟩ = some (.slice a2 l2 y2):=cellK Bk.out 1
    by_cases hlt : k < l2
    ·obtain ⟨b,o,x,rfl,hb,hx,hat⟩:=kd_at (HR.out.k.below HB.out) hlt;obtain ⟨z0,z3,c0,c1,c2,c3⟩:=kd_cells hat;have HXx:=hidK hx;have HZx0:=hidK z0;have HZx3:=hidK z3;clear hat hx z0 z3
     by_cases hok : kdOk x
     rotate_left
     ·have HOK:=hidK hok;clear hok;have Gk:=Bk;have HW:=HB;have k1:=fun q : Wd wr => q.slot (o:=1) Gk.out rfl;have x0:=fun q : Wd wr => (q.cell hb).trans c0;have x1:=fun q : Wd wr => (q.cell hb).trans c1;have x2:=fun q : Wd wr => (q.cell hb).trans c2;have x3:=fun q : Wd wr => (q.cell hb).trans c3;have hne0:=Wd.ne wr;have HC0:=hidK (fun q : Wd wr => (sclass_any x.n x.z x.x x.y q.w HZx0.out HZx3.out).mono (fun _ _ h => BoolB.no h HOK.out));go_wp2_with fail;refine wp_region_wide (by kernel_rfl) (by kernel_rfl) ?_
      repeat (go_big_quiet_step (first | (go_at_call 128;exact Calls.wide (HC0.out _)) | fail))
      refine wpQuiet_nil ?_;rintro _ ⟨q,rfl⟩;have HB1:=upB HW q.b;have Ck:=upK Gk q.b;clear hne0 HW HB HC0 k1 x0 x1 x2 x3 Gk Bk c0 c1 c2 c3 pk;have HB:=HB1;clear HB1;have Bk:=Ck;clear Ck
      go_wp2
      go_ret;exact BoolB.f (fun h => HOK.out (h.2.1.2.1 k x HXx.out)) HB.out
     have HOK:=hidK hok;clear hok
     by_cases hk0 : 0 < k
     rotate_left
     ·have hd : decide ((0 : Int) < k) = false:=by simp;omega
      have Gk:=Bk;have HW:=HB;have k1:=fun q : Wd wr => q.slot (o:=1) Gk.out rfl;have x0:=fun q : Wd wr => (q.cell hb).trans c0;have x1:=fun q : Wd wr => (q.cell hb).trans c1;have x2:=fun q : Wd wr => (q.cell hb).trans c2;have x3:=fun q : Wd wr => (q.cell hb).trans c3;have hne0:=Wd.ne wr;have HC0:=hidK (fun q : Wd wr => (sclass_any x.n x.z x.x x.y q.w HZx0.out HZx3.out).mono (fun _ _ h => BoolB.yes h HOK.out));go_wp2_with fail;refine wp_region_wide (by kernel_rfl) (by kernel_rfl) ?_
      repeat (go_big_quiet_step (first | (go_at_call 128;exact Calls.wide (HC0.out _)) | fail))
      refine wpQuiet_nil ?_;rintro _ ⟨q,rfl⟩;have HB1:=upB HW q.b;have Ck:=upK Gk q.b;clear hne0 HW HB HC0 k1 x0 x1 x2 x3 Gk Bk c0 c1 c2 c3 pk;have HB:=HB1;clear HB1;have Bk:=Ck;clear Ck;clear hd;go_wp2_with fail;refine ⟨⟨k + 1,by omega,by go_num,fun j z hj hz => ?_,fun j z y hj hz hy => ?_,HB.out,Bk.out⟩,by simp [intOf];omega⟩
      ·by_cases e : j = k
       ·subst e;rw [HXx.out] at hz;obtain rfl:=Option.some.inj hz;exact HOK.out
       ·exact HQ.out j z (by omega) hz
      ·by_cases e : j + 1 = k
       ·exact absurd hk0 (by omega)
       ·exact HO.out j z y (by omega) hz hy
     have hk0' : (0 : Int) < k:=by omega
     have ek : ((k : Int) - 1).toNat = k - 1:=by omega
     obtain ⟨b',o',y,e',hb',hy,haty⟩:=kd_at (HR.out.k.below HB.out) (show k - 1 < l2 by omega)
     cases e'
     have y0 : wr.cell? ⟨b,o + (k - 1) * 4,none⟩ = some (.string y.n):=by
      obtain ⟨q,h1,h2⟩:=haty 0 _ rfl;obtain ⟨rfl,-⟩:=h2;exact h1
     have HXy:=hidK hy;clear hy haty
     cases hless : Op.bytesLess y.n.toList x.n.toList
     ·have Gk : Hid (wr.heap[w.heap.size]? = some (.cells #[.slice a1 l1 y1,.slice (some ⟨b,o,none⟩) l2 y2,.slice a3 l3 y3,.slice a4 l4 y4,.slice a5 l5 y5,.int .i64 c.now] 40 (0,0))):=Bk.out;have HW:=HB;have k1:=fun q : Wd wr => q.slot (o:=1) Gk.out rfl;have x0:=fun q : Wd wr => (q.cell hb).trans c0;have x1:=fun q : Wd wr => (q.cell hb).trans c1;have x2:=fun q : Wd wr => (q.cell hb).trans c2;have x3:=fun q : Wd wr => (q.cell hb).trans c3;have yw:=fun q : Wd wr => (q.cell hb).trans y0;have hne0:=Wd.ne wr;have HC0:=hidK (fun q : Wd wr => (sclass_any x.n x.z x.x x.y q.w HZx0.out HZx3.out).mono (fun _ _ h => BoolB.yes h HOK.out));go_wp2_with fail;refine wp_region_wide (by kernel_rfl) (by kernel_rfl) ?_
      repeat (go_big_quiet_step (first | (go_at_call 128;exact Calls.wide (HC0.out _)) | fail))
      refine wpQuiet_nil ?_;rintro _ ⟨q,rfl⟩;have HB1:=upB HW q.b;have Ck:=upK Gk q.b;clear hne0 HW HB HC0 k1 x0 x1 x2 x3 yw Gk Bk c0 c1 c2 c3 pk y0;have HB:=HB1;clear HB1;have Bk:=Ck;clear Ck
      go_wp2
      go_ret;refine BoolB.f (fun h => ?_) HB.out;have h3:=h.2.1.2.2 (k - 1) x y (by rw [Nat.sub_add_cancel hk0];exact HXx.out) HXy.out;rw [hless] at h3
      cases h3
     ·have Gk : Hid (wr.heap[w.heap.size]? = some (.cells #[.slice a1 l1 y1,.slice (some ⟨b,o,none⟩) l2 y2,.slice a3 l3 y3,.slice a4 l4 y4,.slice a5 l5 y5,.int .i64 c.now] 40 (0,0))):=Bk.out;have HW:=HB;have k1:=fun q : Wd wr => q.slot (o:=1) Gk.out rfl;have x0:=fun q : Wd wr => (q.cell hb).trans c0;have x1:=fun q : Wd wr => (q.cell hb).trans c1;have x2:=fun q : Wd wr => (q.cell hb).trans c2;have x3:=fun q : Wd wr => (q.cell hb).trans c3;have yw:=fun q : Wd wr => (q.cell hb).trans y0;have hne0:=Wd.ne wr;have HC0:=hidK (fun q : Wd wr => (sclass_any x.n x.z x.x x.y q.w HZx0.out HZx3.out).mono (fun _ _ h => BoolB.yes h HOK.out));go_wp2_with fail;refine wp_region_wide (by kernel_rfl) (by kernel_rfl) ?_
      repeat (go_big_quiet_step (first | (go_at_call 128;exact Calls.wide (HC0.out _)) | fail))
      refine wpQuiet_nil ?_;rintro _ ⟨q,rfl⟩;have HB1:=upB HW q.b;have Ck:=upK Gk q.b;clear hne0 HW HB HC0 k1 x0 x1 x2 x3 yw Gk Bk c0 c1 c2 c3 pk y0;have HB:=HB1;clear HB1;have Bk:=Ck;clear Ck;clear hk0' ek;go_wp2_with fail;refine ⟨⟨k + 1,by omega,by go_num,fun j z hj hz => ?_,fun j z y hj hz hy => ?_,HB.out,Bk.out⟩,by simp [intOf];omega⟩
      ·by_cases e : j = k
       ·subst e;rw [HXx.out] at hz;obtain rfl:=Option.some.inj hz;exact HOK.out
       ·exact HQ.out j z (by omega) hz
      ·by_cases e : j + 1 = k
       ·have hj : j = k - 1:=by omega
        subst hj;rw [Nat.sub_add_cancel hk0,HXx.out] at hz;obtain rfl:=Option.some.inj hz;rw [HXy.out] at hy;obtain rfl:=Option.some.inj hy;exact hless
       ·exact HO.out j z y (by omega) hz hy
    ·obtain rfl : l2 = k:=by omega
     have HR2 : Hid (RowOk kdOk Kd.n c.ks 8):=⟨by omega,fun j z hz => HQ.out j z (by have:=(List.getElem?_eq_some_iff.1 hz).1;omega) hz,fun j z u hz hu => HO.out j z u (by have:=(List.getElem?_eq_some_iff.1 hz).1;omega) hz hu⟩;clear HQ HO
     skip
     have kc : wr.cell? ⟨w.heap.size,2,none⟩ = some (.slice a3 l3 y3):=cellK Bk.out 2
     go_wp2
     go_loopw [5] (fun i wr => ∃ k : Nat,k ≤ l3 ∧ i = .int .i64 k ∧ Hid (∀ (j : Nat) z,j < k → c.vs[j]? = some z → vdOk z) ∧ Hid (∀ (j : Nat) z u,j + 1 < k → c.vs[j + 1]? = some z → c.vs[j]? = some u → Op.bytesLess u.n.toList z.n.toList = true) ∧ Hid (Below w.heap.size w wr) ∧ Hid (wr.heap[w.heap.size]? = some (.cells #[.slice a1 l1 y1,.slice a2 l2 y2,.slice a3 l3 y3,.slice a4 l4 y4,.slice a5 l5 y5,.int .i64 c.now] 40 (0,0)))) (fun i _ => l3 - (intOf i).toNat)
     case atStart => exact ⟨0,by omega,rfl,fun _ _ h => absurd h (by omega),fun _ _ _ h => absurd h (by omega),HB.out,Bk.out⟩
     case round =>
      obtain ⟨k,hk,rfl,HQ,HO,HB,Bk⟩:=hrel;have pk : wr.cell? ⟨w.heap.size,2,none⟩ = some (.slice a3 l3 y3):=cellK Bk.out 2
      by_cases hlt : k < l3
      ·obtain ⟨b,o,x,rfl,hb,hx,hat⟩:=vd_at (HR.out.v.below HB.out) hlt;obtain ⟨va,vl,vc,hvr,z0,z2,z3,z5,c0,c1,c2,c3,c4,c5,c6,c7⟩:=vd_cells hat;have HXx:=hidK hx;have HTx:=hidK hvr;have HZx0:=hidK z0;have HZx2:=hidK z2;have HZx3:=hidK z3;have HZx5:=hidK z5;clear hat hx z0 z2 z3 z5 hvr
       by_cases hok : vdOk x
       rotate_left
       ·have HOK:=hidK hok;clear hok;have Gk:=Bk;have HW:=HB;have k2:=fun q : Wd wr => q.slot (o:=2) Gk.out rfl;have x0:=fun q : Wd wr => (q.cell hb).trans c0;have x1:=fun q : Wd wr => (q.cell hb).trans c1;have x2:=fun q : Wd wr => (q.cell hb).trans c2;have x3:=fun q : Wd wr => (q.cell hb).trans c3;have x4:=fun q : Wd wr => (q.cell hb).trans c4;have x5:=fun q : Wd wr => (q.cell hb).trans c5;have x6:=fun q : Wd wr => (q.cell hb).trans c6;have x7:=fun q : Wd wr => (q.cell hb).trans c7;have hne0:=Wd.ne wr;have HC0:=hidK (fun q : Wd wr => (svol_any x.n x.c x.z x.k x.x x.m x.y va vl vc x.zs q.w HZx0.out HZx2.out HZx3.out HZx5.out (HTx.out.below q.b)).mono (fun _ _ h => BoolB.no h HOK.out));go_wp2_with fail;refine wp_region_wide (by kernel_rfl) (by kernel_rfl) ?_
        repeat (go_big_quiet_step (first | (go_at_call 31;exact Calls.wide (HC0.out _)) | fail))
        refine wpQuiet_nil ?_;rintro _ ⟨q,rfl⟩;have HB1:=upB HW q.b;have Ck:=upK Gk q.b;clear hne0 HW HB HC0 k2 x0 x1 x2 x3 x4 x5 x6 x7 Gk Bk c0 c1 c2 c3 c4 c5 c6 c7 pk;have HB:=HB1;clear HB1;have Bk:=Ck;clear Ck
        go_wp2
        go_ret;exact BoolB.f (fun h => HOK.out (h.2.2.1.2.1 k x HXx.out)) HB.out
       have HOK:=hidK hok;clear hok
       by_cases hk0 : 0 < k
       rotate_left
       ·have hd : decide ((0 : Int) < k) = false:=by simp;omega
        have Gk:=Bk;have HW:=HB;have k2:=fun q : Wd wr => q.slot (o:=2) Gk.out rfl;have x0:=fun q : Wd wr => (q.cell hb).trans c0;have x1:=fun q : Wd wr => (q.cell hb).trans c1;have x2:=fun q : Wd wr => (q.cell hb).trans c2;have x3:=fun q : Wd wr => (q.cell hb).trans c3;have x4:=fun q : Wd wr => (q.cell hb).trans c4;have x5:=fun q : Wd wr => (q.cell hb).trans c5;have x6:=fun q : Wd wr => (q.cell hb).trans c6;have x7:=fun q : Wd wr => (q.cell hb).trans c7;have hne0:=Wd.ne wr;have HC0:=hidK (fun q : Wd wr => (svol_any x.n x.c x.z x.k x.x x.m x.y va vl vc x.zs q.w HZx0.out HZx2.out HZx3.out HZx5.out (HTx.out.below q.b)).mono (fun _ _ h => BoolB.yes h HOK.out));go_wp2_with fail;refine wp_region_wide (by kernel_rfl) (by kernel_rfl) ?_
        repeat (go_big_quiet_step (first | (go_at_call 31;exact Calls.wide (HC0.out _)) | fail))
        refine wpQuiet_nil ?_;rintro _ ⟨q,rfl⟩;have HB1:=upB HW q.b;have Ck:=upK Gk q.b;clear hne0 HW HB HC0 k2 x0 x1 x2 x3 x4 x5 x6 x7 Gk Bk c0 c1 c2 c3 c4 c5 c6 c7 pk;have HB:=HB1;clear HB1;have Bk:=Ck;clear Ck;clear hd;go_wp2_with fail;refine ⟨⟨k + 1,by omega,by go_num,fun j z hj hz => ?_,fun j z y hj hz hy => ?_,HB.out,Bk.out⟩,by simp [intOf];omega⟩
        ·by_cases e : j = k
         ·subst e;rw [HXx.out] at hz;obtain rfl:=Option.some.inj hz;exact HOK.out
         ·exact HQ.out j z (by omega) hz
        ·by_cases e : j + 1 = k
         ·exact absurd hk0 (by omega)
         ·exact HO.out j z y (by omega) hz hy
       have hk0' : (0 : Int) < k:=by omega
       have ek : ((k : Int) - 1).toNat = k - 1:=by omega
       obtain ⟨b',o',y,e',hb',hy,haty⟩:=vd_at (HR.out.v.below HB.out) (show k - 1 < l3 by omega)
       cases e'
       have y0 : wr.cell? ⟨b,o + (k - 1) * 8,none⟩ = some (.string y.n):=by
        obtain ⟨q,h1,h2⟩:=haty 0 _ rfl;obtain ⟨rfl,-⟩:=h2;exact h1
       have HXy:=hidK hy;clear hy haty
       cases hless : Op.bytesLess y.n.toList x.n.toList
       ·have Gk : Hid (wr.heap[w.heap.size]? = some (.cells #[.slice a1 l1 y1,.slice a2 l2 y2,.slice (some ⟨b,o,none⟩) l3 y3,.slice a4 l4 y4,.slice a5 l5 y5,.int .i64 c.now] 40 (0,0))):=Bk.out;have HW:=HB;have k2:=fun q : Wd wr => q.slot (o:=2) Gk.out rfl;have x0:=fun q : Wd wr => (q.cell hb).trans c0;have x1:=fun q : Wd wr => (q.cell hb).trans c1;have x2:=fun q : Wd wr => (q.cell hb).trans c2;have x3:=fun q : Wd wr => (q.cell hb).trans c3;have x4:=fun q : Wd wr => (q.cell hb).trans c4;have x5:=fun q : Wd wr => (q.cell hb).trans c5;have x6:=fun q : Wd wr => (q.cell hb).trans c6;have x7:=fun q : Wd wr => (q.cell hb).trans c7;have yw:=fun q : Wd wr => (q.cell hb).trans y0;have hne0:=Wd.ne wr;have HC0:=hidK (fun q : Wd wr => (svol_any x.n x.c x.z x.k x.x x.m x.y va vl vc x.zs q.w HZx0.out HZx2.out HZx3.out HZx5.out (HTx.out.below q.b)).mono (fun _ _ h => BoolB.yes h HOK.out));go_wp2_with fail;refine wp_region_wide (by kernel_rfl) (by kernel_rfl) ?_
        repeat (go_big_quiet_step (first | (go_at_call 31;exact Calls.wide (HC0.out _)) | fail))
        refine wpQuiet_nil ?_;rintro _ ⟨q,rfl⟩;have HB1:=upB HW q.b;have Ck:=upK Gk q.b;clear hne0 HW HB HC0 k2 x0 x1 x2 x3 x4 x5 x6 x7 yw Gk Bk c0 c1 c2 c3 c4 c5 c6 c7 pk y0;have HB:=HB1;clear HB1;have Bk:=Ck;clear Ck
        go_wp2
        go_ret;refine BoolB.f (fun h => ?_) HB.out;have h3:=h.2.2.1.2.2 (k - 1) x y (by rw [Nat.sub_add_cancel hk0];exact HXx.out) HXy.out;rw [hless] at h3
        cases h3
       ·have Gk : Hid (wr.heap[w.heap.size]? = some (.cells #[.slice a1 l1 y1,.slice a2 l2 y2,.slice (some ⟨b,o,none⟩) l3 y3,.slice a4 l4 y4,.slice a5 l5 y5,.int .i64 c.now] 40 (0,0))):=Bk.out;have HW:=HB;have k2:=fun q : Wd wr => q.slot (o:=2) Gk.out rfl;have x0:=fun q : Wd wr => (q.cell hb).trans c0;have x1:=fun q : Wd wr => (q.cell hb).trans c1;have x2:=fun q : Wd wr => (q.cell hb).trans c2;have x3:=fun q : Wd wr => (q.cell hb).trans c3;have x4:=fun q : Wd wr => (q.cell hb).trans c4;have x5:=fun q : Wd wr => (q.cell hb).trans c5;have x6:=fun q : Wd wr => (q.cell hb).trans c6;have x7:=fun q : Wd wr => (q.cell hb).trans c7;have yw:=fun q : Wd wr => (q.cell hb).trans y0;have hne0:=Wd.ne wr;have HC0:=hidK (fun q : Wd wr => (svol_any x.n x.c x.z x.k x.x x.m x.y va vl vc x.zs q.w HZx0.out HZx2.out HZx3.out HZx5.out (HTx.out.below q.b)).mono (fun _ _ h => BoolB.yes h HOK.out));go_wp2_with fail;refine wp_region_wide (by kernel_rfl) (by kernel_rfl) ?_
        repeat (go_big_quiet_step (first | (go_at_call 31;exact Calls.wide (HC0.out _)) | fail))
        refine wpQuiet_nil ?_;rintro _ ⟨q,rfl⟩;have HB1:=upB HW q.b;have Ck:=upK Gk q.b;clear hne0 HW HB HC0 k2 x0 x1 x2 x3 x4 x5 x6 x7 yw Gk Bk c0 c1 c2 c3 c4 c5 c6 c7 pk y0;have HB:=HB1;clear HB1;have Bk:=Ck;clear Ck;clear hk0' ek;go_wp2_with fail;refine ⟨⟨k + 1,by omega,by go_num,fun j z hj hz => ?_,fun j z y hj hz hy => ?_,HB.out,Bk.out⟩,by simp [intOf];omega⟩
        ·by_cases e : j = k
         ·subst e;rw [HXx.out] at hz;obtain rfl:=Option.some.inj hz;exact HOK.out
         ·exact HQ.out j z (by omega) hz
        ·by_cases e : j + 1 = k
         ·have hj : j = k - 1:=by omega
          subst hj;rw [Nat.sub_add_cancel hk0,HXx.out] at hz;obtain rfl:=Option.some.inj hz;rw [HXy.out] at hy;obtain rfl:=Option.some.inj hy;exact hless
         ·exact HO.out j z y (by omega) hz hy
      ·obtain rfl : l3 = k:=by omega
       have HR3 : Hid (RowOk vdOk Vd.n c.vs 8):=⟨by omega,fun j z hz => HQ.out j z (by have:=(List.getElem?_eq_some_iff.1 hz).1;omega) hz,fun j z u hz hu => HO.out j z u (by have:=(List.getElem?_eq_some_iff.1 hz).1;omega) hz hu⟩;clear HQ HO
       skip
       have kc : wr.cell? ⟨w.heap.size,3,none⟩ = some (.slice a4 l4 y4):=cellK Bk.out 3
       go_wp2
       go_loopw [6] (fun i wr => ∃ k : Nat,k ≤ l4 ∧ i = .int .i64 k ∧ Hid (∀ (j : Nat) z,j < k → c.xs[j]? = some z → xdOk z) ∧ Hid (∀ (j : Nat) z u,j + 1 < k → c.xs[j + 1]? = some z → c.xs[j]? = some u → Op.bytesLess u.n.toList z.n.toList = true) ∧ Hid (Below w.heap.size w wr) ∧ Hid (wr.heap[w.heap.size]? = some (.cells #[.slice a1 l1 y1,.slice a2 l2 y2,.slice a3 l3 y3,.slice a4 l4 y4,.slice a5 l5 y5,.int .i64 c.now] 40 (0,0)))) (fun i _ => l4 - (intOf i).toNat)
       case atStart => exact ⟨0,by omega,rfl,fun _ _ h => absurd h (by omega),fun _ _ _ h => absurd h (by omega),HB.out,Bk.out⟩
       case round =>
        obtain ⟨k,hk,rfl,HQ,HO,HB,Bk⟩:=hrel;have pk : wr.cell? ⟨w.heap.size,3,none⟩ = some (.slice a4 l4 y4):=cellK Bk.out 3
        by_cases hlt : k < l4
        ·obtain ⟨b,o,x,rfl,hb,hx,hat⟩:=xd_at (HR.out.x.below HB.out) hlt;obtain ⟨z0,z2,z4,c0,c1,c2,c3,c4⟩:=xd_cells hat;have HXx:=hidK hx;have HZx0:=hidK z0;have HZx2:=hidK z2;have HZx4:=hidK z4;clear hat hx z0 z2 z4
         by_cases hok : xdOk x
         rotate_left
         ·have HOK:=hidK hok;clear hok;have Gk:=Bk;have HW:=HB;have k3:=fun q : Wd wr => q.slot (o:=3) Gk.out rfl;have x0:=fun q : Wd wr => (q.cell hb).trans c0;have x1:=fun q : Wd wr => (q.cell hb).trans c1;have x2:=fun q : Wd wr => (q.cell hb).trans c2;have x3:=fun q : Wd wr => (q.cell hb).trans c3;have x4:=fun q : Wd wr => (q.cell hb).trans c4;have hne0:=Wd.ne wr;have HC0:=hidK (fun q : Wd wr => (sclaim_any x.n x.z x.k x.x x.v q.w HZx0.out HZx2.out HZx4.out).mono (fun _ _ h => BoolB.no h HOK.out));go_wp2_with fail;refine wp_region_wide (by kernel_rfl) (by kernel_rfl) ?_
          repeat (go_big_quiet_step (first | (go_at_call 129;exact Calls.wide (HC0.out _)) | fail))
          refine wpQuiet_nil ?_;rintro _ ⟨q,rfl⟩;have HB1:=upB HW q.b;have Ck:=upK Gk q.b;clear hne0 HW HB HC0 k3 x0 x1 x2 x3 x4 Gk Bk c0 c1 c2 c3 c4 pk;have HB:=HB1;clear HB1;have Bk:=Ck;clear Ck
          go_wp2
          go_ret;exact BoolB.f (fun h => HOK.out (h.2.2.2.1.2.1 k x HXx.out)) HB.out
         have HOK:=hidK hok;clear hok
         by_cases hk0 : 0 < k
         rotate_left
         ·have hd : decide ((0 : Int) < k) = false:=by simp;omega
          have Gk:=Bk;have HW:=HB;have k3:=fun q : Wd wr => q.slot (o:=3) Gk.out rfl;have x0:=fun q : Wd wr => (q.cell hb).trans c0;have x1:=fun q : Wd wr => (q.cell hb).trans c1;have x2:=fun q : Wd wr => (q.cell hb).trans c2;have x3:=fun q : Wd wr => (q.cell hb).trans c3;have x4:=fun q : Wd wr => (q.cell hb).trans c4;have hne0:=Wd.ne wr;have HC0:=hidK (fun q : Wd wr => (sclaim_any x.n x.z x.k x.x x.v q.w HZx0.out HZx2.out HZx4.out).mono (fun _ _ h => BoolB.yes h HOK.out));go_wp2_with fail;refine wp_region_wide (by kernel_rfl) (by kernel_rfl) ?_
          repeat (go_big_quiet_step (first | (go_at_call 129;exact Calls.wide (HC0.out _)) | fail))
          refine wpQuiet_nil ?_;rintro _ ⟨q,rfl⟩;have HB1:=upB HW q.b;have Ck:=upK Gk q.b;clear hne0 HW HB HC0 k3 x0 x1 x2 x3 x4 Gk Bk c0 c1 c2 c3 c4 pk;have HB:=HB1;clear HB1;have Bk:=Ck;clear Ck;clear hd;go_wp2_with fail;refine ⟨⟨k + 1,by omega,by go_num,fun j z hj hz => ?_,fun j z y hj hz hy => ?_,HB.out,Bk.out⟩,by simp [intOf];omega⟩
          ·by_cases e : j = k
           ·subst e;rw [HXx.out] at hz;obtain rfl:=Option.some.inj hz;exact HOK.out
           ·exact HQ.out j z (by omega) hz
          ·by_cases e : j + 1 = k
           ·exact absurd hk0 (by omega)
           ·exact HO.out j z y (by omega) hz hy
         have hk0' : (0 : Int) < k:=by omega
         have ek : ((k : Int) - 1).toNat = k - 1:=by omega
         obtain ⟨b',o',y,e',hb',hy,haty⟩:=xd_at (HR.out.x.below HB.out) (show k - 1 < l4 by omega)
         cases e'
         have y0 : wr.cell? ⟨b,o + (k - 1) * 5,none⟩ = some (.string y.n):=by
          obtain ⟨q,h1,h2⟩:=haty 0 _ rfl;obtain ⟨rfl,-⟩:=h2;exact h1
         have HXy:=hidK hy;clear hy haty
         cases hless : Op.bytesLess y.n.toList x.n.toList
         ·have Gk : Hid (wr.heap[w.heap.size]? = some (.cells #[.slice a1 l1 y1,.slice a2 l2 y2,.slice a3 l3 y3,.slice (some ⟨b,o,none⟩) l4 y4,.slice a5 l5 y5,.int .i64 c.now] 40 (0,0))):=Bk.out;have HW:=HB;have k3:=fun q : Wd wr => q.slot (o:=3) Gk.out rfl;have x0:=fun q : Wd wr => (q.cell hb).trans c0;have x1:=fun q : Wd wr => (q.cell hb).trans c1;have x2:=fun q : Wd wr => (q.cell hb).trans c2;have x3:=fun q : Wd wr => (q.cell hb).trans c3;have x4:=fun q : Wd wr => (q.cell hb).trans c4;have yw:=fun q : Wd wr => (q.cell hb).trans y0;have hne0:=Wd.ne wr;have HC0:=hidK (fun q : Wd wr => (sclaim_any x.n x.z x.k x.x x.v q.w HZx0.out HZx2.out HZx4.out).mono (fun _ _ h => BoolB.yes h HOK.out));go_wp2_with fail;refine wp_region_wide (by kernel_rfl) (by kernel_rfl) ?_
          repeat (go_big_quiet_step (first | (go_at_call 129;exact Calls.wide (HC0.out _)) | fail))
          refine wpQuiet_nil ?_;rintro _ ⟨q,rfl⟩;have HB1:=upB HW q.b;have Ck:=upK Gk q.b;clear hne0 HW HB HC0 k3 x0 x1 x2 x3 x4 yw Gk Bk c0 c1 c2 c3 c4 pk y0;have HB:=HB1;clear HB1;have Bk:=Ck;clear Ck
          go_wp2
          go_ret;refine BoolB.f (fun h => ?_) HB.out;have h3:=h.2.2.2.1.2.2 (k - 1) x y (by rw [Nat.sub_add_cancel hk0];exact HXx.out) HXy.out;rw [hless] at h3
          cases h3
         ·have Gk : Hid (wr.heap[w.heap.size]? = some (.cells #[.slice a1 l1 y1,.slice a2 l2 y2,.slice a3 l3 y3,.slice (some ⟨b,o,none⟩) l4 y4,.slice a5 l5 y5,.int .i64 c.now] 40 (0,0))):=Bk.out;have HW:=HB;have k3:=fun q : Wd wr => q.slot (o:=3) Gk.out rfl;have x0:=fun q : Wd wr => (q.cell hb).trans c0;have x1:=fun q : Wd wr => (q.cell hb).trans c1;have x2:=fun q : Wd wr => (q.cell hb).trans c2;have x3:=fun q : Wd wr => (q.cell hb).trans c3;have x4:=fun q : Wd wr => (q.cell hb).trans c4;have yw:=fun q : Wd wr => (q.cell hb).trans y0;have hne0:=Wd.ne wr;have HC0:=hidK (fun q : Wd wr => (sclaim_any x.n x.z x.k x.x x.v q.w HZx0.out HZx2.out HZx4.out).mono (fun _ _ h => BoolB.yes h HOK.out));go_wp2_with fail;refine wp_region_wide (by kernel_rfl) (by kernel_rfl) ?_
          repeat (go_big_quiet_step (first | (go_at_call 129;exact Calls.wide (HC0.out _)) | fail))
          refine wpQuiet_nil ?_;rintro _ ⟨q,rfl⟩;have HB1:=upB HW q.b;have Ck:=upK Gk q.b;clear hne0 HW HB HC0 k3 x0 x1 x2 x3 x4 yw Gk Bk c0 c1 c2 c3 c4 pk y0;have HB:=HB1;clear HB1;have Bk:=Ck;clear Ck;clear hk0' ek;go_wp2_with fail;refine ⟨⟨k + 1,by omega,by go_num,fun j z hj hz => ?_,fun j z y hj hz hy => ?_,HB.out,Bk.out⟩,by simp [intOf];omega⟩
          ·by_cases e : j = k
           ·subst e;rw [HXx.out] at hz;obtain rfl:=Option.some.inj hz;exact HOK.out
           ·exact HQ.out j z (by omega) hz
          ·by_cases e : j + 1 = k
           ·have hj : j = k - 1:=by omega
            subst hj;rw [Nat.sub_add_cancel hk0,HXx.out] at hz;obtain rfl:=Option.some.inj hz;rw [HXy.out] at hy;obtain rfl:=Option.some.inj hy;exact hless
           ·exact HO.out j z y (by omega) hz hy
        ·obtain rfl : l4 = k:=by omega
         have HR4 : Hid (RowOk xdOk Xd.n c.xs 8):=⟨by omega,fun j z hz => HQ.out j z (by have:=(List.getElem?_eq_some_iff.1 hz).1;omega) hz,fun j z u hz hu => HO.out j z u (by have:=(List.getElem?_eq_some_iff.1 hz).1;omega) hz hu⟩;clear HQ HO
         skip
         have kc : wr.cell? ⟨w.heap.size,4,none⟩ = some (.slice a5 l5 y5):=cellK Bk.out 4
         go_wp2
         go_loopw [7] (fun i wr => ∃ k : Nat,k ≤ l5 ∧ i = .int .i64 k ∧ Hid (∀ (j : Nat) z,j < k → c.ps[j]? = some z → pdOk z) ∧ Hid (∀ (j : Nat) z u,j + 1 < k → c.ps[j + 1]? = some z → c.ps[j]? = some u → Op.bytesLess u.n.toList z.n.toList = true) ∧ Hid (Below w.heap.size w wr) ∧ Hid (wr.heap[w.heap.size]? = some (.cells #[.slice a1 l1 y1,.slice a2 l2 y2,.slice a3 l3 y3,.slice a4 l4 y4,.slice a5 l5 y5,.int .i64 c.now] 40 (0,0)))) (fun i _ => l5 - (intOf i).toNat)
         case atStart => exact ⟨0,by omega,rfl,fun _ _ h => absurd h (by omega),fun _ _ _ h => absurd h (by omega),HB.out,Bk.out⟩
         case round =>
          obtain ⟨k,hk,rfl,HQ,HO,HB,Bk⟩:=hrel;have pk : wr.cell? ⟨w.heap.size,4,none⟩ = some (.slice a5 l5 y5):=cellK Bk.out 4
          by_cases hlt : k < l5
          ·obtain ⟨b,o,x,rfl,hb,hx,hat⟩:=pd_at (HR.out.p.below HB.out) hlt;obtain ⟨va,vl,vc,hvr,z0,z2,z4,c0,c1,c2,c3,c4,c5⟩:=pd_cells hat;have HXx:=hidK hx;have HTx:=hidK hvr;have HZx0:=hidK z0;have HZx2:=hidK z2;have HZx4:=hidK z4;clear hat hx z0 z2 z4 hvr
           by_cases hok : pdOk x
           rotate_left
           ·have HOK:=hidK hok;clear hok;have Gk:=Bk;have HW:=HB;have k4:=fun q : Wd wr => q.slot (o:=4) Gk.out rfl;have x0:=fun q : Wd wr => (q.cell hb).trans c0;have x1:=fun q : Wd wr => (q.cell hb).trans c1;have x2:=fun q : Wd wr => (q.cell hb).trans c2;have x3:=fun q : Wd wr => (q.cell hb).trans c3;have x4:=fun q : Wd wr => (q.cell hb).trans c4;have x5:=fun q : Wd wr => (q.cell hb).trans c5;have hne0:=Wd.ne wr;have HC0:=hidK (fun q : Wd wr => (spod_any x.n x.c x.z va vl vc x.zs x.d x.p q.w HZx0.out HZx2.out HZx4.out (HTx.out.below q.b)).mono (fun _ _ h => BoolB.no h HOK.out));go_wp2_with fail;refine wp_region_wide (by kernel_rfl) (by kernel_rfl) ?_
            repeat (go_big_quiet_step (first | (go_at_call 67;exact Calls.wide (HC0.out _)) | fail))
            refine wpQuiet_nil ?_;rintro _ ⟨q,rfl⟩;have HB1:=upB HW q.b;have Ck:=upK Gk q.b;clear hne0 HW HB HC0 k4 x0 x1 x2 x3 x4 x5 Gk Bk c0 c1 c2 c3 c4 c5 pk;have HB:=HB1;clear HB1;have Bk:=Ck;clear Ck
            go_wp2
            go_ret;exact BoolB.f (fun h => HOK.out (h.2.2.2.2.2.1 k x HXx.out)) HB.out
           have HOK:=hidK hok;clear hok
           by_cases hk0 : 0 < k
           rotate_left
           ·have hd : decide ((0 : Int) < k) = false:=by simp;omega
            have Gk:=Bk;have HW:=HB;have k4:=fun q : Wd wr => q.slot (o:=4) Gk.out rfl;have x0:=fun q : Wd wr => (q.cell hb).trans c0;have x1:=fun q : Wd wr => (q.cell hb).trans c1;have x2:=fun q : Wd wr => (q.cell hb).trans c2;have x3:=fun q : Wd wr => (q.cell hb).trans c3;have x4:=fun q : Wd wr => (q.cell hb).trans c4;have x5:=fun q : Wd wr => (q.cell hb).trans c5;have hne0:=Wd.ne wr;have HC0:=hidK (fun q : Wd wr => (spod_any x.n x.c x.z va vl vc x.zs x.d x.p q.w HZx0.out HZx2.out HZx4.out (HTx.out.below q.b)).mono (fun _ _ h => BoolB.yes h HOK.out));go_wp2_with fail;refine wp_region_wide (by kernel_rfl) (by kernel_rfl) ?_
            repeat (go_big_quiet_step (first | (go_at_call 67;exact Calls.wide (HC0.out _)) | fail))
            refine wpQuiet_nil ?_;rintro _ ⟨q,rfl⟩;have HB1:=upB HW q.b;have Ck:=upK Gk q.b;clear hne0 HW HB HC0 k4 x0 x1 x2 x3 x4 x5 Gk Bk c0 c1 c2 c3 c4 c5 pk;have HB:=HB1;clear HB1;have Bk:=Ck;clear Ck;clear hd;go_wp2_with fail;refine ⟨⟨k + 1,by omega,by go_num,fun j z hj hz => ?_,fun j z y hj hz hy => ?_,HB.out,Bk.out⟩,by simp [intOf];omega⟩
            ·by_cases e : j = k
             ·subst e;rw [HXx.out] at hz;obtain rfl:=Option.some.inj hz;exact HOK.out
             ·exact HQ.out j z (by omega) hz
            ·by_cases e : j + 1 = k
             ·exact absurd hk0 (by omega)
             ·exact HO.out j z y (by omega) hz hy
           have hk0' : (0 : Int) < k:=by omega
           have ek : ((k : Int) - 1).toNat = k - 1:=by omega
           obtain ⟨b',o',y,e',hb',hy,haty⟩:=pd_at (HR.out.p.below HB.out) (show k - 1 < l5 by omega)
           cases e'
           have y0 : wr.cell? ⟨b,o + (k - 1) * 6,none⟩ = some (.string y.n):=by
            obtain ⟨q,h1,h2⟩:=haty 0 _ rfl;obtain ⟨rfl,-⟩:=h2;exact h1
           have HXy:=hidK hy;clear hy haty
           cases hless : Op.bytesLess y.n.toList x.n.toList
           ·have Gk : Hid (wr.heap[w.heap.size]? = some (.cells #[.slice a1 l1 y1,.slice a2 l2 y2,.slice a3 l3 y3,.slice a4 l4 y4,.slice (some ⟨b,o,none⟩) l5 y5,.int .i64 c.now] 40 (0,0))):=Bk.out;have HW:=HB;have k4:=fun q : Wd wr => q.slot (o:=4) Gk.out rfl;have x0:=fun q : Wd wr => (q.cell hb).trans c0;have x1:=fun q : Wd wr => (q.cell hb).trans c1;have x2:=fun q : Wd wr => (q.cell hb).trans c2;have x3:=fun q : Wd wr => (q.cell hb).trans c3;have x4:=fun q : Wd wr => (q.cell hb).trans c4;have x5:=fun q : Wd wr => (q.cell hb).trans c5;have yw:=fun q : Wd wr => (q.cell hb).trans y0;have hne0:=Wd.ne wr;have HC0:=hidK (fun q : Wd wr => (spod_any x.n x.c x.z va vl vc x.zs x.d x.p q.w HZx0.out HZx2.out HZx4.out (HTx.out.below q.b)).mono (fun _ _ h => BoolB.yes h HOK.out));go_wp2_with fail;refine wp_region_wide (by kernel_rfl) (by kernel_rfl) ?_
            repeat (go_big_quiet_step (first | (go_at_call 67;exact Calls.wide (HC0.out _)) | fail))
            refine wpQuiet_nil ?_;rintro _ ⟨q,rfl⟩;have HB1:=upB HW q.b;have Ck:=upK Gk q.b;clear hne0 HW HB HC0 k4 x0 x1 x2 x3 x4 x5 yw Gk Bk c0 c1 c2 c3 c4 c5 pk y0;have HB:=HB1;clear HB1;have Bk:=Ck;clear Ck
            go_wp2
            go_ret;refine BoolB.f (fun h => ?_) HB.out;have h3:=h.2.2.2.2.2.2 (k - 1) x y (by rw [Nat.sub_add_cancel hk0];exact HXx.out) HXy.out;rw [hless] at h3
            cases h3
           ·have Gk : Hid (wr.heap[w.heap.size]? = some (.cells #[.slice a1 l1 y1,.slice a2 l2 y2,.slice a3 l3 y3,.slice a4 l4 y4,.slice (some ⟨b,o,none⟩) l5 y5,.int .i64 c.now] 40 (0,0))):=Bk.out;have HW:=HB;have k4:=fun q : Wd wr => q.slot (o:=4) Gk.out rfl;have x0:=fun q : Wd wr => (q.cell hb).trans c0;have x1:=fun q : Wd wr => (q.cell hb).trans c1;have x2:=fun q : Wd wr => (q.cell hb).trans c2;have x3:=fun q : Wd wr => (q.cell hb).trans c3;have x4:=fun q : Wd wr => (q.cell hb).trans c4;have x5:=fun q : Wd wr => (q.cell hb).trans c5;have yw:=fun q : Wd wr => (q.cell hb).trans y0;have hne0:=Wd.ne wr;have HC0:=hidK (fun q : Wd wr => (spod_any x.n x.c x.z va vl vc x.zs x.d x.p q.w HZx0.out HZx2.out HZx4.out (HTx.out.below q.b)).mono (fun _ _ h => BoolB.yes h HOK.out));go_wp2_with fail;refine wp_region_wide (by kernel_rfl) (by kernel_rfl) ?_
            repeat (go_big_quiet_step (first | (go_at_call 67;exact Calls.wide (HC0.out _)) | fail))
            refine wpQuiet_nil ?_;rintro _ ⟨q,rfl⟩;have HB1:=upB HW q.b;have Ck:=upK Gk q.b;clear hne0 HW HB HC0 k4 x0 x1 x2 x3 x4 x5 yw Gk Bk c0 c1 c2 c3 c4 c5 pk y0;have HB:=HB1;clear HB1;have Bk:=Ck;clear Ck;clear hk0' ek;go_wp2_with fail;refine ⟨⟨k + 1,by omega,by go_num,fun j z hj hz => ?_,fun j z y hj hz hy => ?_,HB.out,Bk.out⟩,by simp [intOf];omega⟩
            ·by_cases e : j = k
             ·subst e;rw [HXx.out] at hz;obtain rfl:=Option.some.inj hz;exact HOK.out
             ·exact HQ.out j z (by omega) hz
            ·by_cases e : j + 1 = k
             ·have hj : j = k - 1:=by omega
              subst hj;rw [Nat.sub_add_cancel hk0,HXx.out] at hz;obtain rfl:=Option.some.inj hz;rw [HXy.out] at hy;obtain rfl:=Option.some.inj hy;exact hless
             ·exact HO.out j z y (by omega) hz hy
          ·obtain rfl : l5 = k:=by omega
           have HR5 : Hid (RowOk pdOk Pd.n c.ps 8):=⟨by omega,fun j z hz => HQ.out j z (by have:=(List.getElem?_eq_some_iff.1 hz).1;omega) hz,fun j z u hz hu => HO.out j z u (by have:=(List.getElem?_eq_some_iff.1 hz).1;omega) hz hu⟩;clear HQ HO
           go_wp2
           go_ret;exact BoolB.t ⟨HR1.out,HR2.out,HR3.out,HR4.out,HR5.out⟩ HB.out

def KHas (c : Cl) (t : ByteArray) : Prop:=∃ (i : Nat) (k : Kd),c.ks[i]? = some k ∧ k.n = t
def SV (c : Cl) (v : Vd) : Prop:=KHas c v.k ∧ (v.m = ⟨#[]⟩ ∨ ∃ (i : Nat) (x : Xd),c.xs[i]? = some x ∧ x.n = v.m ∧ x.v = v.n)
def SX (c : Cl) (x : Xd) : Prop:=KHas c x.k ∧ (x.v = ⟨#[]⟩ ∨ ∃ (j : Nat) (v : Vd),c.vs[j]? = some v ∧ v.n = x.v ∧ v.m = x.n ∧ x.z ≤ v.c ∧ v.k = x.k ∧ v.x = x.x)
def BoundS (c : Cl) : Prop:=(∀ (j : Nat) z,c.vs[j]? = some z → SV c z) ∧ (∀ (j : Nat) z,c.xs[j]? = some z → SX c z)

theorem sbound_any (d : Ad) (c : Cl) (w : World) (hr : ClRow w d c.raw) (hks : RisBy Kd.n c.ks) (hxs : RisBy Xd.n c.xs) (hvs : RisBy Vd.n c.vs) :
  Calls Tryz.prog 80 #[.agg #[.slice d.a1 d.l1 d.c1,.slice d.a2 d.l2 d.c2,.slice d.a3 d.l3 d.c3,.slice d.a4 d.l4 d.c4,.slice d.a5 d.l5 d.c5,.int .i64 c.now]] w (BoolB (BoundS c) w):=by
 obtain ⟨a1,l1,y1,a2,l2,y2,a3,l3,y3,a4,l4,y4,a5,l5,y5⟩:=d;dsimp only;have HR:=hidK hr
 have hl1 : c.ns.length = l1:=by simpa using (show (c.ns.map ndF).length = l1 from hr.n.1)
 have hm1 : l1 ≤ 9223372036854775807:=Nat.le_trans hr.n.2.1 hr.n.2.2.1
 have hl2 : c.ks.length = l2:=by simpa using (show (c.ks.map kdF).length = l2 from hr.k.1)
 have hm2 : l2 ≤ 9223372036854775807:=Nat.le_trans hr.k.2.1 hr.k.2.2.1
 have hl3 : c.vs.length = l3:=by simpa using (show (c.vs.map vdF).length = l3 from hr.v.1)
 have hm3 : l3 ≤ 9223372036854775807:=Nat.le_trans hr.v.2.1 hr.v.2.2.1
 have hl4 : c.xs.length = l4:=by simpa using (show (c.xs.map xdF).length = l4 from hr.x.1)
 have hm4 : l4 ≤ 9223372036854775807:=Nat.le_trans hr.x.2.1 hr.x.2.2.1
 have hl5 : c.ps.length = l5:=by simpa using (show (c.ps.map pdF).length = l5 from hr.p.1)
 have hm5 : l5 ≤ 9223372036854775807:=Nat.le_trans hr.p.2.1 hr.p.2.2.1;clear hr;have HKS:=hidK hks;have HXS:=hidK hxs;have HVS:=hidK hvs;clear hks hxs hvs
 go_enter Tryz.func80,Tryz.ntmps80
 go_wp2
 go_loopw [3] (fun i wr => ∃ k : Nat,k ≤ l3 ∧ i = .int .i64 k ∧ Hid (∀ (j : Nat) z,j < k → c.vs[j]? = some z → SV c z) ∧ Hid (Below w.heap.size w wr) ∧ Hid (wr.heap[w.heap.size]? = some (.cells #[.slice a1 l1 y1,.slice a2 l2 y2,.slice a3 l3 y3,.slice a4 l4 y4,.slice a5 l5 y5,.int .i64 c.now] 40 (0,0)))) (fun i _ => l3 - (intOf i).toNat)
 case atStart => exact ⟨0,by omega,rfl,fun _ _ h => absurd h (by omega),below1 _ _,Array.getElem?_push_size⟩
 case round =>
  obtain ⟨k,hk,rfl,HQ,HB,Bk⟩:=hrel;have pk : wr.cell? ⟨w.heap.size,2,none⟩ = some (.slice a3 l3 y3):=cellK Bk.out 2
  by_cases hlt : k < l3
  ·obtain ⟨b,o,v,rfl,hb,hx,hat⟩:=vd_at (HR.out.v.below HB.out) hlt;obtain ⟨va,vl,vc,hvr,z0,z2,z3,z5,c0,c1,c2,c3,c4,c5,c6,c7⟩:=vd_cells hat;have HXv:=hidK hx;have HTv:=hidK hvr;have HZv0:=hidK z0;have HZv2:=hidK z2;have HZv3:=hidK z3;have HZv5:=hidK z5;clear hat hx z0 z2 z3 z5 hvr;obtain ⟨k0,k1,k2,k3,k4,k5⟩:=cs6 Bk.out;have ltk_0:=lt_of_some Bk.out;go_wp2_with fail;refine (sxxd_any ⟨a1,l1,y1,a2,l2,y2,(some ⟨b,o,none⟩),l3,y3,a4,l4,y4,a5,l5,y5⟩ c.now c.xs v.m _ (HR.out.x.below (HB.out.trans ((below1 _ _).mono HB.out.size)))).mono ?_;rintro e w1 ⟨hb2,hf⟩;clear k0 k1 k2 k3 k4 k5 ltk_0;obtain ⟨HA0,hbx⟩:=slots1 hb2;replace Bk:=upK Bk hbx;have Br:=hidK HA0;replace HB:=upB HB hbx;clear hb2 hbx HA0;clear pk hb c0 c1 c2 c3 c4 c5 c6 c7
   by_cases hkh : KHas c v.k
   rotate_left
   ·have HKH:=hidK hkh;clear hkh
    obtain ⟨r,hre⟩ : ∃ r : Int,e = .returned (.int .i64 r):=by rcases hf with ⟨j,y,_,_,h⟩ | ⟨_,h⟩ <;> exact ⟨_,h⟩
    subst hre;clear hf;have Gk:=Bk;have Gr:=Br;have HW:=HB;obtain ⟨k0,k1,k2,k3,k4,k5⟩:=sl6 Gk;obtain ⟨r0,r1,r2,r3,r4,r5,r6,r7⟩:=sl8 Gr;have hne0:=Wd.ne w1;have HC0:=hidK (fun q : Wd w1 => sxkd_miss ⟨a1,l1,y1,a2,l2,y2,(some ⟨b,o,none⟩),l3,y3,a4,l4,y4,a5,l5,y5⟩ c.now c.ks v.k q.w (HR.out.k.below (HW.out.trans (q.b.mono HW.out.size))) (fun j y h1 h2 => HKH.out ⟨j,y,h1,h2⟩));go_wp2_with fail;refine wp_region_wide (by kernel_rfl) (by kernel_rfl) ?_
    repeat (go_big_quiet_step (first | (go_at_call 35;exact Calls.wide (HC0.out _)) | fail))
    refine wpQuiet_nil ?_;rintro _ ⟨q1,rfl⟩;have HB2:=upB HW q1.b;have Ck:=upK Gk q1.b;have Cr:=upK Gr q1.b;clear hne0 HW HB HC0 k0 k1 k2 k3 k4 k5 r0 r1 r2 r3 r4 r5 r6 r7 Gk Gr Bk Br;have HB:=HB2;clear HB2;have Bk:=Ck;clear Ck;have Br:=Cr;clear Cr
    go_wp2
    go_ret;exact BoolB.f (fun h => HKH.out (h.1 k v HXv.out).1) HB.out
   obtain ⟨i2,kd2,g1,g2⟩:=hkh;have HG1:=hidK g1;have HG2:=hidK g2
   have hi20 : ¬ ((i2 : Int) < 0):=by omega
   have hi21 : decide ((i2 : Int) < 0) = false:=by simp
   clear g1 g2
   by_cases he : v.m = ⟨#[]⟩
   ·have hq:=isE_y he;have HEm:=hidK he;clear he
    obtain ⟨r,hre⟩ : ∃ r : Int,e = .returned (.int .i64 r):=by rcases hf with ⟨j,y,_,_,h⟩ | ⟨_,h⟩ <;> exact ⟨_,h⟩
    subst hre;clear hf;have Gk:=Bk;have Gr:=Br;have HW:=HB;obtain ⟨k0,k1,k2,k3,k4,k5⟩:=sl6 Gk;obtain ⟨r0,r1,r2,r3,r4,r5,r6,r7⟩:=sl8 Gr;have hne0:=Wd.ne w1;have HC0:=hidK (fun q : Wd w1 => sxkd_hit ⟨a1,l1,y1,a2,l2,y2,(some ⟨b,o,none⟩),l3,y3,a4,l4,y4,a5,l5,y5⟩ c.now c.ks v.k q.w (HR.out.k.below (HW.out.trans (q.b.mono HW.out.size))) HKS.out HG1.out HG2.out);go_wp2_with fail;refine wp_region_wide (by kernel_rfl) (by kernel_rfl) ?_
    repeat (go_big_quiet_step (first | (go_at_call 35;exact Calls.wide (HC0.out _)) | fail))
    refine wpQuiet_nil ?_;rintro _ ⟨q1,rfl⟩;have HB2:=upB HW q1.b;have Ck:=upK Gk q1.b;have Cr:=upK Gr q1.b;clear hne0 HW HB HC0 k0 k1 k2 k3 k4 k5 r0 r1 r2 r3 r4 r5 r6 r7 Gk Gr Bk Br;have HB:=HB2;clear HB2;have Bk:=Ck;clear Ck;have Br:=Cr;clear Cr;go_wp2_with fail;refine ⟨⟨k + 1,by omega,by go_num,fun j z hj hz => ?_,HB.out,Bk.out⟩,by simp [intOf];omega⟩
    by_cases e : j = k
    ·subst e;rw [HXv.out] at hz;obtain rfl:=Option.some.inj hz;exact ⟨⟨i2,kd2,HG1.out,HG2.out⟩,.inl HEm.out⟩
    ·exact HQ.out j z (by omega) hz
   have hq:=isE_no he;have HEm:=hidK he;clear he
   rcases hf with ⟨j4,y,h1,h2,rfl⟩ | ⟨hh,rfl⟩
   rotate_left
   ·have HH:=hidK hh;clear hh;have Gk:=Bk;have Gr:=Br;have HW:=HB;obtain ⟨k0,k1,k2,k3,k4,k5⟩:=sl6 Gk;obtain ⟨r0,r1,r2,r3,r4,r5,r6,r7⟩:=sl8 Gr;have hne0:=Wd.ne w1;have HC0:=hidK (fun q : Wd w1 => sxkd_hit ⟨a1,l1,y1,a2,l2,y2,(some ⟨b,o,none⟩),l3,y3,a4,l4,y4,a5,l5,y5⟩ c.now c.ks v.k q.w (HR.out.k.below (HW.out.trans (q.b.mono HW.out.size))) HKS.out HG1.out HG2.out);go_wp2_with fail;refine wp_region_wide (by kernel_rfl) (by kernel_rfl) ?_
    repeat (go_big_quiet_step (first | (go_at_call 35;exact Calls.wide (HC0.out _)) | fail))
    refine wpQuiet_nil ?_;rintro _ ⟨q1,rfl⟩;have HB2:=upB HW q1.b;have Ck:=upK Gk q1.b;have Cr:=upK Gr q1.b;clear hne0 HW HB HC0 k0 k1 k2 k3 k4 k5 r0 r1 r2 r3 r4 r5 r6 r7 Gk Gr Bk Br;have HB:=HB2;clear HB2;have Bk:=Ck;clear Ck;have Br:=Cr;clear Cr
    go_wp2
    go_ret;refine BoolB.f (fun h => ?_) HB.out
    rcases (h.1 k v HXv.out).2 with h2 | ⟨i,y,h2,h3,_⟩
    ·exact HEm.out h2
    ·exact HH.out i y h2 h3
   have hl4' : j4 < l4:=by have h3:=(List.getElem?_eq_some_iff.1 h1).1;omega
   obtain ⟨b4,o4,y',rfl,hb4,hy',hat⟩:=xd_at HR.out.x hl4';rw [h1] at hy';obtain rfl:=Option.some.inj hy';obtain ⟨z0,z2,z4,c0,c1,c2,c3,c4⟩:=xd_cells hat;have HJ:=hidK h1;have HN:=hidK h2;have hcv:=(cell_below HB.out hb4).trans c4;have hbv : b4 < w1.heap.size:=Nat.lt_of_lt_of_le hb4 HB.out.size
   have hj0 : ¬ ((j4 : Int) < 0):=by omega
   have hj1 : decide ((j4 : Int) < 0) = false:=by simp
   clear hy' hat z0 z2 z4 c0 c1 c2 c3 c4 h1 h2
   by_cases hvn : y.v = v.n
   ·have hq2:=tl_yes hvn;have HVN:=hidK hvn;clear hvn;have Gk:=Bk;have Gr:=Br;have HW:=HB;obtain ⟨k0,k1,k2,k3,k4,k5⟩:=sl6 Gk;obtain ⟨r0,r1,r2,r3,r4,r5,r6,r7⟩:=sl8 Gr;have yw:=fun q : Wd w1 => (q.cell hbv).trans hcv;have hne0:=Wd.ne w1;have HC0:=hidK (fun q : Wd w1 => sxkd_hit ⟨a1,l1,y1,a2,l2,y2,(some ⟨b,o,none⟩),l3,y3,(some ⟨b4,o4,none⟩),l4,y4,a5,l5,y5⟩ c.now c.ks v.k q.w (HR.out.k.below (HW.out.trans (q.b.mono HW.out.size))) HKS.out HG1.out HG2.out);go_wp2_with fail;refine wp_region_wide (by kernel_rfl) (by kernel_rfl) ?_
    repeat (go_big_quiet_step (first | (go_at_call 35;exact Calls.wide (HC0.out _)) | fail))
    refine wpQuiet_nil ?_;rintro _ ⟨q1,rfl⟩;have HB2:=upB HW q1.b;have Ck:=upK Gk q1.b;have Cr:=upK Gr q1.b;clear hne0 HW HB HC0 k0 k1 k2 k3 k4 k5 r0 r1 r2 r3 r4 r5 r6 r7 yw Gk Gr Bk Br hcv hbv;have HB:=HB2;clear HB2;have Bk:=Ck;clear Ck;have Br:=Cr;clear Cr;go_wp2_with fail;refine ⟨⟨k + 1,by omega,by go_num,fun j z hj hz => ?_,HB.out,Bk.out⟩,by simp [intOf];omega⟩
    by_cases e : j = k
    ·subst e;rw [HXv.out] at hz;obtain rfl:=Option.some.inj hz;exact ⟨⟨i2,kd2,HG1.out,HG2.out⟩,.inr ⟨j4,y,HJ.out,HN.out,HVN.out⟩⟩
    ·exact HQ.out j z (by omega) hz
   ·have hq2:=tl_no hvn;have HVN:=hidK hvn;clear hvn;have Gk:=Bk;have Gr:=Br;have HW:=HB;obtain ⟨k0,k1,k2,k3,k4,k5⟩:=sl6 Gk;obtain ⟨r0,r1,r2,r3,r4,r5,r6,r7⟩:=sl8 Gr;have yw:=fun q : Wd w1 => (q.cell hbv).trans hcv;have hne0:=Wd.ne w1;have HC0:=hidK (fun q : Wd w1 => sxkd_hit ⟨a1,l1,y1,a2,l2,y2,(some ⟨b,o,none⟩),l3,y3,(some ⟨b4,o4,none⟩),l4,y4,a5,l5,y5⟩ c.now c.ks v.k q.w (HR.out.k.below (HW.out.trans (q.b.mono HW.out.size))) HKS.out HG1.out HG2.out);go_wp2_with fail;refine wp_region_wide (by kernel_rfl) (by kernel_rfl) ?_
    repeat (go_big_quiet_step (first | (go_at_call 35;exact Calls.wide (HC0.out _)) | fail))
    refine wpQuiet_nil ?_;rintro _ ⟨q1,rfl⟩;have HB2:=upB HW q1.b;have Ck:=upK Gk q1.b;have Cr:=upK Gr q1.b;clear hne0 HW HB HC0 k0 k1 k2 k3 k4 k5 r0 r1 r2 r3 r4 r5 r6 r7 yw Gk Gr Bk Br hcv hbv;have HB:=HB2;clear HB2;have Bk:=Ck;clear Ck;have Br:=Cr;clear Cr
    go_wp2
    go_ret;refine BoolB.f (fun h => ?_) HB.out
    rcases (h.1 k v HXv.out).2 with h2 | ⟨i,y2,h2,h3,h4⟩
    ·exact HEm.out h2
    ·obtain ⟨_,rfl⟩:=HXS.out.inj h2 HJ.out (h3.trans HN.out.symm);exact HVN.out h4
  ·obtain rfl : l3 = k:=by omega
   have HQ1 : Hid (∀ (j : Nat) z,c.vs[j]? = some z → SV c z):=fun j z hz => HQ.out j z (by have:=(List.getElem?_eq_some_iff.1 hz).1;omega) hz;clear HQ;have kc : wr.cell? ⟨w.heap.size,3,none⟩ = some (.slice a4 l4 y4):=cellK Bk.out 3
   go_wp2
   go_loopw [6] (fun i wr => ∃ k : Nat,k ≤ l4 ∧ i = .int .i64 k ∧ Hid (∀ (j : Nat) z,j < k → c.xs[j]? = some z → SX c z) ∧ Hid (Below w.heap.size w wr) ∧ Hid (wr.heap[w.heap.size]? = some (.cells #[.slice a1 l1 y1,.slice a2 l2 y2,.slice a3 l3 y3,.slice a4 l4 y4,.slice a5 l5 y5,.int .i64 c.now] 40 (0,0)))) (fun i _ => l4 - (intOf i).toNat)
   case atStart => exact ⟨0,by omega,rfl,fun _ _ h => absurd h (by omega),HB.out,Bk.out⟩
   case round =>
    obtain ⟨k,hk,rfl,HQ,HB,Bk⟩:=hrel;have pk : wr.cell? ⟨w.heap.size,3,none⟩ = some (.slice a4 l4 y4):=cellK Bk.out 3
    by_cases hlt : k < l4
    ·obtain ⟨b,o,x,rfl,hb,hx,hat⟩:=xd_at (HR.out.x.below HB.out) hlt;obtain ⟨z0,z2,z4,c0,c1,c2,c3,c4⟩:=xd_cells hat;have HXx:=hidK hx;have HZx0:=hidK z0;have HZx2:=hidK z2;have HZx4:=hidK z4;clear hat hx z0 z2 z4;obtain ⟨k0,k1,k2,k3,k4,k5⟩:=cs6 Bk.out;have ltk_0:=lt_of_some Bk.out;go_wp2_with fail;refine (sxvd_any ⟨a1,l1,y1,a2,l2,y2,a3,l3,y3,(some ⟨b,o,none⟩),l4,y4,a5,l5,y5⟩ c.now c.vs x.v _ (HR.out.v.below (HB.out.trans ((below1 _ _).mono HB.out.size)))).mono ?_;rintro e w1 ⟨hb2,hf⟩;clear k0 k1 k2 k3 k4 k5 ltk_0;obtain ⟨HA0,hbx⟩:=slots1 hb2;replace Bk:=upK Bk hbx;have Br:=hidK HA0;replace HB:=upB HB hbx;clear hb2 hbx HA0;clear pk hb c0 c1 c2 c3 c4
     by_cases hkh : KHas c x.k
     rotate_left
     ·have HKH:=hidK hkh;clear hkh
      obtain ⟨r,hre⟩ : ∃ r : Int,e = .returned (.int .i64 r):=by rcases hf with ⟨j,y,_,_,h⟩ | ⟨_,h⟩ <;> exact ⟨_,h⟩
      subst hre;clear hf;obtain ⟨k0,k1,k2,k3,k4,k5⟩:=cs6 Bk.out;have ltk_1:=lt_of_some Bk.out;obtain ⟨r0,r1,r2,r3,r4⟩:=cs5 Br.out;have ltr_1:=lt_of_some Br.out;go_wp2_with fail;refine (sxkd_miss ⟨a1,l1,y1,a2,l2,y2,a3,l3,y3,(some ⟨b,o,none⟩),l4,y4,a5,l5,y5⟩ c.now c.ks x.k _ (HR.out.k.below HB.out) (fun j y h1 h2 => HKH.out ⟨j,y,h1,h2⟩)).mono ?_;rintro e w2 ⟨rfl,hb3⟩;clear k0 k1 k2 k3 k4 k5 ltk_1 r0 r1 r2 r3 r4 ltr_1;replace Bk:=upK Bk hb3;replace Br:=upK Br hb3;replace HB:=upB HB hb3;clear hb3
      go_wp2
      go_ret;exact BoolB.f (fun h => HKH.out (h.2 k x HXx.out).1) HB.out
     obtain ⟨i2,kd2,g1,g2⟩:=hkh;have HG1:=hidK g1;have HG2:=hidK g2
     have hi20 : ¬ ((i2 : Int) < 0):=by omega
     have hi21 : decide ((i2 : Int) < 0) = false:=by simp
     clear g1 g2
     by_cases he : x.v = ⟨#[]⟩
     ·have hq:=isE_y he;have HEm:=hidK he;clear he
      obtain ⟨r,hre⟩ : ∃ r : Int,e = .returned (.int .i64 r):=by rcases hf with ⟨j,y,_,_,h⟩ | ⟨_,h⟩ <;> exact ⟨_,h⟩
      subst hre;clear hf;obtain ⟨k0,k1,k2,k3,k4,k5⟩:=cs6 Bk.out;have ltk_1:=lt_of_some Bk.out;obtain ⟨r0,r1,r2,r3,r4⟩:=cs5 Br.out;have ltr_1:=lt_of_some Br.out;go_wp2_with fail;refine (sxkd_hit ⟨a1,l1,y1,a2,l2,y2,a3,l3,y3,(some ⟨b,o,none⟩),l4,y4,a5,l5,y5⟩ c.now c.ks x.k _ (HR.out.k.below HB.out) HKS.out HG1.out HG2.out).mono ?_;rintro e w2 ⟨rfl,hb3⟩;clear k0 k1 k2 k3 k4 k5 ltk_1 r0 r1 r2 r3 r4 ltr_1;replace Bk:=upK Bk hb3;replace Br:=upK Br hb3;replace HB:=upB HB hb3;clear hb3;obtain ⟨k0,k1,k2,k3,k4,k5⟩:=cs6 Bk.out;have ltk_2:=lt_of_some Bk.out;obtain ⟨r0,r1,r2,r3,r4⟩:=cs5 Br.out;have ltr_2:=lt_of_some Br.out;go_wp2_with fail;refine ⟨⟨k + 1,by omega,by go_num,fun j z hj hz => ?_,HB.out,Bk.out⟩,by simp [intOf];omega⟩
      by_cases e : j = k
      ·subst e;rw [HXx.out] at hz;obtain rfl:=Option.some.inj hz;exact ⟨⟨i2,kd2,HG1.out,HG2.out⟩,.inl HEm.out⟩
      ·exact HQ.out j z (by omega) hz
     have hq:=isE_no he;have HEm:=hidK he;clear he
     rcases hf with ⟨j3,y,h1,h2,rfl⟩ | ⟨hh,rfl⟩
     rotate_left
     ·have HH:=hidK hh;clear hh;obtain ⟨k0,k1,k2,k3,k4,k5⟩:=cs6 Bk.out;have ltk_1:=lt_of_some Bk.out;obtain ⟨r0,r1,r2,r3,r4⟩:=cs5 Br.out;have ltr_1:=lt_of_some Br.out;go_wp2_with fail;refine (sxkd_hit ⟨a1,l1,y1,a2,l2,y2,a3,l3,y3,(some ⟨b,o,none⟩),l4,y4,a5,l5,y5⟩ c.now c.ks x.k _ (HR.out.k.below HB.out) HKS.out HG1.out HG2.out).mono ?_;rintro e w2 ⟨rfl,hb3⟩;clear k0 k1 k2 k3 k4 k5 ltk_1 r0 r1 r2 r3 r4 ltr_1;replace Bk:=upK Bk hb3;replace Br:=upK Br hb3;replace HB:=upB HB hb3;clear hb3;have pr : w2.cell? ⟨wr.heap.size,4,none⟩ = some (.string x.v):=cellK Br.out 4;have Gk:=Bk;have Gr:=Br;have HW:=HB;have k2:=fun q : Wd w2 => q.slot (o:=2) Gk.out rfl;obtain ⟨r0,r1,r2,r3,r4⟩:=sl5 Gr;have hne0:=Wd.ne w2;go_wp2_with fail;refine wp_region_wide (by kernel_rfl) (by kernel_rfl) ?_
      repeat (go_big_quiet_step (first | fail))
      refine wpQuiet_nil ?_;rintro _ ⟨q1,rfl⟩;have HB3:=upB HW q1.b;have Ck:=upK Gk q1.b;have Cr:=upK Gr q1.b;clear hne0 HW HB k2 r0 r1 r2 r3 r4 Gk Gr Bk Br pr;have HB:=HB3;clear HB3;have Bk:=Ck;clear Ck;have Br:=Cr;clear Cr
      go_wp2
      go_ret;refine BoolB.f (fun h => ?_) HB.out
      rcases (h.2 k x HXx.out).2 with h2 | ⟨i,y,h2,h3,_⟩
      ·exact HEm.out h2
      ·exact HH.out i y h2 h3
     have hl3' : j3 < l3:=by have h3:=(List.getElem?_eq_some_iff.1 h1).1;omega
     obtain ⟨b3,o3,y',rfl,hb3,hy',hat⟩:=vd_at HR.out.v hl3';rw [h1] at hy';obtain rfl:=Option.some.inj hy';obtain ⟨va,vl,vc,hvr,z0,z2,z3,z5,c0,c1,c2,c3,c4,c5,c6,c7⟩:=vd_cells hat;have HJ:=hidK h1;have HN:=hidK h2
     have hj0 : ¬ ((j3 : Int) < 0):=by omega
     have hj1 : decide ((j3 : Int) < 0) = false:=by simp
     have HC1:=hidK c1;have HC3:=hidK c3;have HC4:=hidK c4;have HC5:=hidK c5;have HB3:=hidK hb3;clear hy' hat hvr z0 z2 z3 z5 c0 c1 c2 c3 c4 c5 c6 c7 h1 h2 hb3;obtain ⟨k0,k1,k2,k3,k4,k5⟩:=cs6 Bk.out;have ltk_1:=lt_of_some Bk.out;obtain ⟨r0,r1,r2,r3,r4⟩:=cs5 Br.out;have ltr_1:=lt_of_some Br.out;go_wp2_with fail;refine (sxkd_hit ⟨a1,l1,y1,a2,l2,y2,(some ⟨b3,o3,none⟩),l3,y3,(some ⟨b,o,none⟩),l4,y4,a5,l5,y5⟩ c.now c.ks x.k _ (HR.out.k.below HB.out) HKS.out HG1.out HG2.out).mono ?_;rintro e w2 ⟨rfl,hb3⟩;clear k0 k1 k2 k3 k4 k5 ltk_1 r0 r1 r2 r3 r4 ltr_1;replace Bk:=upK Bk hb3;replace Br:=upK Br hb3;replace HB:=upB HB hb3;clear hb3;have pr : w2.cell? ⟨wr.heap.size,4,none⟩ = some (.string x.v):=cellK Br.out 4;have hbv : b3 < w2.heap.size:=Nat.lt_of_lt_of_le HB3.out HB.out.size;have v1:=(cell_below HB.out HB3.out).trans HC1.out;have v3:=(cell_below HB.out HB3.out).trans HC3.out;have v4:=(cell_below HB.out HB3.out).trans HC4.out;have v5:=(cell_below HB.out HB3.out).trans HC5.out;clear HC1 HC3 HC4 HC5 HB3
     by_cases hno : y.m = x.n
     rotate_left
     ·have HNo:=hidK hno;clear hno;have n1:=tl_no HNo.out;have Gk:=Bk;have Gr:=Br;have HW:=HB;have k2:=fun q : Wd w2 => q.slot (o:=2) Gk.out rfl;obtain ⟨r0,r1,r2,r3,r4⟩:=sl5 Gr;have v1w:=fun q : Wd w2 => (q.cell hbv).trans v1;have v3w:=fun q : Wd w2 => (q.cell hbv).trans v3;have v4w:=fun q : Wd w2 => (q.cell hbv).trans v4;have v5w:=fun q : Wd w2 => (q.cell hbv).trans v5;have hne0:=Wd.ne w2;go_wp2_with fail;refine wp_region_wide (by kernel_rfl) (by kernel_rfl) ?_
      repeat (go_big_quiet_step (first | fail))
      refine wpQuiet_nil ?_;rintro _ ⟨q1,rfl⟩;have HB3:=upB HW q1.b;have Ck:=upK Gk q1.b;have Cr:=upK Gr q1.b;clear hne0 HW HB k2 r0 r1 r2 r3 r4 v1w v3w v4w v5w Gk Gr Bk Br pr v1 v3 v4 v5 hbv;have HB:=HB3;clear HB3;have Bk:=Ck;clear Ck;have Br:=Cr;clear Cr
      go_wp2
      go_ret;refine BoolB.f (fun h => ?_) HB.out
      rcases (h.2 k x HXx.out).2 with h2 | ⟨i,y2,h2,h3,h4⟩
      ·exact HEm.out h2
      ·obtain ⟨_,rfl⟩:=HVS.out.inj h2 HJ.out (h3.trans HN.out.symm);exact HNo.out h4.1
     have HY1:=hidK hno;have q1:=tl_yes hno;clear hno
     by_cases hno : x.z ≤ y.c
     rotate_left
     ·have HNo:=hidK hno;clear hno
      have n1 : y.c < x.z:=by have:=HNo.out;omega
      have Gk:=Bk;have Gr:=Br;have HW:=HB;have k2:=fun q : Wd w2 => q.slot (o:=2) Gk.out rfl;obtain ⟨r0,r1,r2,r3,r4⟩:=sl5 Gr;have v1w:=fun q : Wd w2 => (q.cell hbv).trans v1;have v3w:=fun q : Wd w2 => (q.cell hbv).trans v3;have v4w:=fun q : Wd w2 => (q.cell hbv).trans v4;have v5w:=fun q : Wd w2 => (q.cell hbv).trans v5;have hne0:=Wd.ne w2;go_wp2_with fail;refine wp_region_wide (by kernel_rfl) (by kernel_rfl) ?_
      repeat (go_big_quiet_step (first | fail))
      refine wpQuiet_nil ?_;rintro _ ⟨q1,rfl⟩;have HB3:=upB HW q1.b;have Ck:=upK Gk q1.b;have Cr:=upK Gr q1.b;clear hne0 HW HB k2 r0 r1 r2 r3 r4 v1w v3w v4w v5w Gk Gr Bk Br pr v1 v3 v4 v5 hbv;have HB:=HB3;clear HB3;have Bk:=Ck;clear Ck;have Br:=Cr;clear Cr
      go_wp2
      go_ret;refine BoolB.f (fun h => ?_) HB.out
      rcases (h.2 k x HXx.out).2 with h2 | ⟨i,y2,h2,h3,h4⟩
      ·exact HEm.out h2
      ·obtain ⟨_,rfl⟩:=HVS.out.inj h2 HJ.out (h3.trans HN.out.symm);have h5:=h4.2.1;have h6:=HNo.out;omega
     have HY2:=hidK hno
     have q2 : decide (y.c < x.z) = false:=by simp;omega
     clear hno
     by_cases hno : y.k = x.k
     rotate_left
     ·have HNo:=hidK hno;clear hno;have n1:=tl_no HNo.out;have Gk:=Bk;have Gr:=Br;have HW:=HB;have k2:=fun q : Wd w2 => q.slot (o:=2) Gk.out rfl;obtain ⟨r0,r1,r2,r3,r4⟩:=sl5 Gr;have v1w:=fun q : Wd w2 => (q.cell hbv).trans v1;have v3w:=fun q : Wd w2 => (q.cell hbv).trans v3;have v4w:=fun q : Wd w2 => (q.cell hbv).trans v4;have v5w:=fun q : Wd w2 => (q.cell hbv).trans v5;have hne0:=Wd.ne w2;go_wp2_with fail;refine wp_region_wide (by kernel_rfl) (by kernel_rfl) ?_
      repeat (go_big_quiet_step (first | fail))
      refine wpQuiet_nil ?_;rintro _ ⟨q1,rfl⟩;have HB3:=upB HW q1.b;have Ck:=upK Gk q1.b;have Cr:=upK Gr q1.b;clear hne0 HW HB k2 r0 r1 r2 r3 r4 v1w v3w v4w v5w Gk Gr Bk Br pr v1 v3 v4 v5 hbv;have HB:=HB3;clear HB3;have Bk:=Ck;clear Ck;have Br:=Cr;clear Cr
      go_wp2
      go_ret;refine BoolB.f (fun h => ?_) HB.out
      rcases (h.2 k x HXx.out).2 with h2 | ⟨i,y2,h2,h3,h4⟩
      ·exact HEm.out h2
      ·obtain ⟨_,rfl⟩:=HVS.out.inj h2 HJ.out (h3.trans HN.out.symm);exact HNo.out h4.2.2.1
     have HY3:=hidK hno;have q3:=tl_yes hno;clear hno
     by_cases hno : y.x = x.x
     rotate_left
     ·have HNo:=hidK hno;clear hno
      have n1 : (y.x == x.x) = false:=by simpa using HNo.out
      have Gk:=Bk;have Gr:=Br;have HW:=HB;have k2:=fun q : Wd w2 => q.slot (o:=2) Gk.out rfl;obtain ⟨r0,r1,r2,r3,r4⟩:=sl5 Gr;have v1w:=fun q : Wd w2 => (q.cell hbv).trans v1;have v3w:=fun q : Wd w2 => (q.cell hbv).trans v3;have v4w:=fun q : Wd w2 => (q.cell hbv).trans v4;have v5w:=fun q : Wd w2 => (q.cell hbv).trans v5;have hne0:=Wd.ne w2;go_wp2_with fail;refine wp_region_wide (by kernel_rfl) (by kernel_rfl) ?_
      repeat (go_big_quiet_step (first | fail))
      refine wpQuiet_nil ?_;rintro _ ⟨q1,rfl⟩;have HB3:=upB HW q1.b;have Ck:=upK Gk q1.b;have Cr:=upK Gr q1.b;clear hne0 HW HB k2 r0 r1 r2 r3 r4 v1w v3w v4w v5w Gk Gr Bk Br pr v1 v3 v4 v5 hbv;have HB:=HB3;clear HB3;have Bk:=Ck;clear Ck;have Br:=Cr;clear Cr
      go_wp2
      go_ret;refine BoolB.f (fun h => ?_) HB.out
      rcases (h.2 k x HXx.out).2 with h2 | ⟨i,y2,h2,h3,h4⟩
      ·exact HEm.out h2
      ·obtain ⟨_,rfl⟩:=HVS.out.inj h2 HJ.out (h3.trans HN.out.symm);exact HNo.out h4.2.2.2
     have HY4:=hidK hno
     have q4 : (y.x == x.x) = true:=by simpa using hno
     clear hno;have Gk:=Bk;have Gr:=Br;have HW:=HB;have k2:=fun q : Wd w2 => q.slot (o:=2) Gk.out rfl;obtain ⟨r0,r1,r2,r3,r4⟩:=sl5 Gr;have v1w:=fun q : Wd w2 => (q.cell hbv).trans v1;have v3w:=fun q : Wd w2 => (q.cell hbv).trans v3;have v4w:=fun q : Wd w2 => (q.cell hbv).trans v4;have v5w:=fun q : Wd w2 => (q.cell hbv).trans v5;have hne0:=Wd.ne w2;go_wp2_with fail;refine wp_region_wide (by kernel_rfl) (by kernel_rfl) ?_
     repeat (go_big_quiet_step (first | fail))
     refine wpQuiet_nil ?_;rintro _ ⟨qz,rfl⟩;have HB3:=upB HW qz.b;have Ck:=upK Gk qz.b;have Cr:=upK Gr qz.b;clear hne0 HW HB k2 r0 r1 r2 r3 r4 v1w v3w v4w v5w Gk Gr Bk Br pr v1 v3 v4 v5 hbv;have HB:=HB3;clear HB3;have Bk:=Ck;clear Ck;have Br:=Cr;clear Cr;clear q1 q2 q3 q4;go_wp2_with fail;refine ⟨⟨k + 1,by omega,by go_num,fun j z hj hz => ?_,HB.out,Bk.out⟩,by simp [intOf];omega⟩
     by_cases e : j = k
     ·subst e;rw [HXx.out] at hz;obtain rfl:=Option.some.inj hz;exact ⟨⟨i2,kd2,HG1.out,HG2.out⟩,.inr ⟨j3,y,HJ.out,HN.out,HY1.out,HY2.out,HY3.out,HY4.out⟩⟩
     ·exact HQ.out j z (by omega) hz
    ·obtain rfl : l4 = k:=by omega
     have HQ2 : Hid (∀ (j : Nat) z,c.xs[j]? = some z → SX c z):=fun j z hz => HQ.out j z (by have:=(List.getElem?_eq_some_iff.1 hz).1;omega) hz;clear HQ
     go_wp2
     go_ret;exact BoolB.t ⟨HQ1.out,HQ2.out⟩ HB.out

def PSa (c : Cl) (p : Pd) : Prop:=p.d = ⟨#[]⟩ ∨ ∃ (i : Nat) (n : Nd),c.ns[i]? = some n ∧ n.n = p.d ∧ (p.z = ⟨#[]⟩ ∨ n.z = p.z)
def PSb1 (c : Cl) (p : Pd) (t : ByteArray) : Prop:=(∃ (i : Nat) (x : Xd),c.xs[i]? = some x ∧ x.n = t) ∧ (p.d = ⟨#[]⟩ ∨ ∃ (v : Vd) (i : Nat) (n : Nd),IsBd c t v ∧ c.ns[i]? = some n ∧ n.n = p.d ∧ v.z = n.z)
def PSb (c : Cl) (p : Pd) : Prop:=∀ (j : Nat) t,p.zs[j]? = some t → PSb1 c p t
def PSc (c : Cl) (k : Nat) (p : Pd) : Prop:=∀ (j : Nat) q,j < k → c.ps[j]? = some q → PairS c q p
def PS (c : Cl) (k : Nat) (p : Pd) : Prop:=PSa c p ∧ PSb c p ∧ PSc c k p
def PlacedS (c : Cl) : Prop:=(∀ (k : Nat) p,c.ps[k]? = some p → PS c k p) ∧ ∀ (j : Nat) n,c.ns[j]? = some n → cpuOf n.n c.ps ≤ n.c

theorem splaced_any (d : Ad) (c : Cl) (w : World) (hr : ClRow w d c.raw) (hn : RisBy Nd.n c.ns) (hx : RisBy Xd.n c.xs) (hv : RisBy Vd.n c.vs) (hne : ∀ (j : Nat) v,c.vs[j]? = some v → ¬ v.n = ⟨#[]⟩) (hps8 : c.ps.length ≤ 8) (hpc : ∀ (j : Nat) p,c.ps[j]? = some p → 0 ≤ p.c ∧ p.c ≤ 1000000) :
  Calls Tryz.prog 81 #[.agg #[.slice d.a1 d.l1 d.c1,.slice d.a2 d.l2 d.c2,.slice d.a3 d.l3 d.c3,.slice d.a4 d.l4 d.c4,.slice d.a5 d.l5 d.c5,.int .i64 c.now]] w (BoolB (PlacedS c) w):=by
 obtain ⟨a1,l1,y1,a2,l2,y2,a3,l3,y3,a4,l4,y4,a5,l5,y5⟩:=d;dsimp only;have HR:=hidK hr
 have hl1 : c.ns.length = l1:=by simpa using (show (c.ns.map ndF).length = l1 from hr.n.1)
 have hm1 : l1 ≤ 9223372036854775807:=Nat.le_trans hr.n.2.1 hr.n.2.2.1
 have hl2 : c.ks.length = l2:=by simpa using (show (c.ks.map kdF).length = l2 from hr.k.1)
 have hm2 : l2 ≤ 9223372036854775807:=Nat.le_trans hr.k.2.1 hr.k.2.2.1
 have hl3 : c.vs.length = l3:=by simpa using (show (c.vs.map vdF).length = l3 from hr.v.1)
 have hm3 : l3 ≤ 9223372036854775807:=Nat.le_trans hr.v.2.1 hr.v.2.2.1
 have hl4 : c.xs.length = l4:=by simpa using (show (c.xs.map xdF).length = l4 from hr.x.1)
 have hm4 : l4 ≤ 9223372036854775807:=Nat.le_trans hr.x.2.1 hr.x.2.2.1
 have hl5 : c.ps.length = l5:=by simpa using (show (c.ps.map pdF).length = l5 from hr.p.1)
 have hm5 : l5 ≤ 9223372036854775807:=Nat.le_trans hr.p.2.1 hr.p.2.2.1;clear hr;have HNR:=hidK hn;have HX:=hidK hx;have HV:=hidK hv;have HNE:=hidK hne;have HL5:=hidK hps8;have HPC:=hidK hpc;clear hn hx hv hne hps8 hpc
 go_enter Tryz.func81,Tryz.ntmps81
 go_wp2
 go_loopw [3] (fun i wr => ∃ k : Nat,k ≤ l5 ∧ i = .int .i64 k ∧ Hid (∀ (j : Nat) z,j < k → c.ps[j]? = some z → PS c j z) ∧ Hid (Below w.heap.size w wr) ∧ Hid (wr.heap[w.heap.size]? = some (.cells #[.slice a1 l1 y1,.slice a2 l2 y2,.slice a3 l3 y3,.slice a4 l4 y4,.slice a5 l5 y5,.int .i64 c.now] 40 (0,0)))) (fun i _ => l5 - (intOf i).toNat)
 case atStart => exact ⟨0,by omega,rfl,fun _ _ h => absurd h (by omega),below1 _ _,Array.getElem?_push_size⟩
 case round =>
  obtain ⟨k,hk,rfl,HQ,HB,Bk⟩:=hrel;have pk : wr.cell? ⟨w.heap.size,4,none⟩ = some (.slice a5 l5 y5):=cellK Bk.out 4
  by_cases hlt : k < l5
  ·obtain ⟨b,o,p,rfl,hb,hx,hat⟩:=pd_at (HR.out.p.below HB.out) hlt;obtain ⟨va,vl,vc,hvr,z0,z2,z4,c0,c1,c2,c3,c4,c5⟩:=pd_cells hat;have HXp:=hidK hx;have HTp:=hidK hvr;have HZp0:=hidK z0;have HZp2:=hidK z2;have HZp4:=hidK z4;clear hat hx z0 z2 z4 hvr;have hvl : p.zs.length = vl:=HTp.out.1;have hvc : vl ≤ 9223372036854775807:=Nat.le_trans HTp.out.2.1 HTp.out.2.2.1;have HVL:=hidK hvl;clear hvl;obtain ⟨k0,k1,k2,k3,k4,k5⟩:=cs6 Bk.out;have ltk_0:=lt_of_some Bk.out;go_wp2_with fail;refine (sxnd_any ⟨a1,l1,y1,a2,l2,y2,a3,l3,y3,a4,l4,y4,(some ⟨b,o,none⟩),l5,y5⟩ c.now c.ns p.d _ (HR.out.n.below (HB.out.trans ((below1 _ _).mono HB.out.size)))).mono ?_;rintro e w1 ⟨hb2,hf⟩;clear k0 k1 k2 k3 k4 k5 ltk_0;obtain ⟨HA0,hbx⟩:=slots1 hb2;replace Bk:=upK Bk hbx;have Br:=hidK HA0;replace HTp:=hidK (HTp.out.below hbx);replace HB:=upB HB hbx;clear hb2 hbx HA0;clear pk hb c0 c1 c2 c3 c4 c5
   by_cases he : p.d = ⟨#[]⟩
   ·have hq:=isE_y he;have HEm:=hidK he;clear he
    obtain ⟨r5,hre⟩ : ∃ r : Int,e = .returned (.int .i64 r):=by rcases hf with ⟨j,y,_,_,h⟩ | ⟨_,h⟩ <;> exact ⟨_,h⟩
    subst hre;clear hf;have Gk:=Bk;have Gr:=Br;have HW:=HB;have k0:=fun q : Wd w1 => q.slot (o:=0) Gk.out rfl;obtain ⟨r0,r1,r2,r3,r4,r5⟩:=sl6 Gr;have hne0:=Wd.ne w1;go_wp2_with fail;refine wp_region_wide (by kernel_rfl) (by kernel_rfl) ?_
    repeat (go_big_quiet_step (first | fail))
    refine wpQuiet_nil ?_;rintro _ ⟨q0,rfl⟩;have HB2:=upB HW q0.b;have Ck:=upK Gk q0.b;have Cr:=upK Gr q0.b;have CHTp:=hidK ((HTp.out).below q0.b);clear hne0 HW HB k0 r0 r1 r2 r3 r4 r5 Gk Gr Bk Br HTp;have HB:=HB2;clear HB2;have HTp:=CHTp;clear CHTp;have Bk:=Ck;clear Ck;have Br:=Cr;clear Cr;have HPa : Hid (PSa c p):=.inl HEm.out;obtain ⟨gb,hgb⟩ : ∃ gb,gb = wr.heap.size:=⟨_,rfl⟩;rw [← hgb] at Br;have pr3 : q0.w.cell? ⟨gb,3,none⟩ = some (.slice va vl vc):=cellK Br.out 3;rw [hgb] at pr3
    go_wp2
    rw [← hgb];clear pr3 hgb;have KV:=Bk;have GV:=Br;have BV:=HB;have TV:=HTp;clear Bk Br HB HTp;obtain ⟨W,hW⟩ : ∃ W,W = q0.w:=⟨_,rfl⟩;rw [← hW] at KV GV BV TV ⊢;clear hW
    go_loopw [6] (fun i wr => ∃ kq : Nat,kq ≤ vl ∧ i = .int .i64 kq ∧ Hid (∀ (j : Nat) t,j < kq → p.zs[j]? = some t → PSb1 c p t) ∧ Hid (Below W.heap.size W wr)) (fun i _ => vl - (intOf i).toNat)
    case atStart => exact ⟨0,by omega,rfl,fun _ _ h => absurd h (by omega),Below.refl _ _⟩
    case round =>
     obtain ⟨kq,hkq,rfl,HQ2,HBW⟩:=hrel;have HB:=hidK (BV.out.trans (HBW.out.mono BV.out.size));have Bk:=upK KV HBW.out;have Br:=upK GV HBW.out;have pr3 : wr.cell? ⟨gb,3,none⟩ = some (.slice va vl vc):=cellK Br.out 3
     by_cases hlt2 : kq < vl
     ·obtain ⟨b2,o2,t,rfl,hb,hxt,hc,hsz⟩:=(TV.out.below HBW.out).at hlt2;have HXt:=hidK hxt;clear hxt hsz
      have hcase : (∃ v,IsBd c t v) ∨ (∀ v,¬ IsBd c t v):=by
       by_cases h : ∃ v,IsBd c t v
       ·exact .inl h
       ·exact .inr (fun v hv => h ⟨v,hv⟩)
      rcases hcase with ⟨v,hbd⟩ | hbd
      ·obtain ⟨j3,hj3⟩:=hbd.at
       have hl3' : j3 < l3:=by have h1:=(List.getElem?_eq_some_iff.1 hj3).1;omega
       obtain ⟨b3,o3,v',rfl,hb3,hv',hat⟩:=vd_at HR.out.v hl3';rw [hj3] at hv';obtain rfl:=Option.some.inj hv';obtain ⟨xa,xl,xc,hvr,z0,z2,z3,z5,d0,d1,d2,d3,d4,d5,d6,d7⟩:=vd_cells hat;have HJ:=hidK hj3;have HD:=hidK hbd;have HC2:=hidK d2;have HB3:=hidK hb3
       have hj31 : decide ((j3 : Int) < 0) = false:=by simp
       clear hv' hat hvr z0 z2 z3 z5 d0 d1 d2 d3 d4 d5 d6 d7 hj3 hbd hb3;have Gk:=Bk;have Gr:=Br;have HW:=HB;obtain ⟨k0,k1,k2,k3,k4,k5⟩:=sl6 Gk;have r3:=fun q : Wd wr => q.slot (o:=3) Gr.out rfl;have tw:=fun q : Wd wr => (q.cell hb).trans hc;have hne0:=Wd.ne wr;have HC0:=hidK (fun q : Wd wr => sbind_hit ⟨a1,l1,y1,a2,l2,y2,(some ⟨b3,o3,none⟩),l3,y3,a4,l4,y4,(some ⟨b,o,none⟩),l5,y5⟩ c t q.w (HR.out.below (HW.out.trans (q.b.mono HW.out.size))) HX.out HV.out HNE.out HJ.out HD.out);go_wp2_with fail;refine wp_region_wide (by kernel_rfl) (by kernel_rfl) ?_
       repeat (go_big_quiet_step (first | (go_at_call 131;exact Calls.wide (HC0.out _)) | fail))
       refine wpQuiet_nil ?_;rintro _ ⟨q1,rfl⟩;have HB1:=upB HW q1.b;have Ck:=upK Gk q1.b;have Cr:=upK Gr q1.b;clear hne0 HW HB HC0 k0 k1 k2 k3 k4 k5 r3 tw Gk Gr Bk Br pr3;have HB:=HB1;clear HB1;have Bk:=Ck;clear Ck;have Br:=Cr;clear Cr;have hc1:=(q1.cell hb).trans hc;have hb1 : b2 < q1.w.heap.size:=Nat.lt_of_lt_of_le hb q1.b.size;have HBW1:=upB HBW q1.b;clear hc hb HBW
       by_cases hg : ∃ (i : Nat) (x : Xd),c.xs[i]? = some x ∧ x.n = t
       rotate_left
       ·have HG:=hidK hg;clear hg;have Gk:=Bk;have Gr:=Br;have HW:=HB;obtain ⟨k0,k1,k2,k3,k4,k5⟩:=sl6 Gk;obtain ⟨r0,r1,r2,r3,r4,r5⟩:=sl6 Gr;have tw:=fun q : Wd q1.w => (q.cell hb1).trans hc1;have hne0:=Wd.ne q1.w;have HC0:=hidK (fun q : Wd q1.w => sxxd_miss ⟨a1,l1,y1,a2,l2,y2,(some ⟨b3,o3,none⟩),l3,y3,a4,l4,y4,(some ⟨b,o,none⟩),l5,y5⟩ c.now c.xs t q.w (HR.out.x.below (HW.out.trans (q.b.mono HW.out.size))) (fun i x h1 h2 => HG.out ⟨i,x,h1,h2⟩));go_wp2_with fail;refine wp_region_wide (by kernel_rfl) (by kernel_rfl) ?_
        repeat (go_big_quiet_step (first | (go_at_call 69;exact Calls.wide (HC0.out _)) | fail))
        refine wpQuiet_nil ?_;rintro _ ⟨q2,rfl⟩;have HB2:=upB HW q2.b;have Ck:=upK Gk q2.b;have Cr:=upK Gr q2.b;clear hne0 HW HB HC0 k0 k1 k2 k3 k4 k5 r0 r1 r2 r3 r4 r5 tw Gk Gr Bk Br hc1 hb1;have HB:=HB2;clear HB2;have Bk:=Ck;clear Ck;have Br:=Cr;clear Cr
        go_wp2
        go_ret;refine BoolB.f (fun h => ?_) HB.out;have h9:=(h.1 k p HXp.out).2.1 kq t HXt.out;exact HG.out h9.1
       obtain ⟨i4,x4,g1,g2⟩:=hg;have HG1:=hidK g1;have HG2:=hidK g2
       have hi41 : decide ((i4 : Int) < 0) = false:=by simp
       clear g1 g2;have Gk:=Bk;have Gr:=Br;have HW:=HB;obtain ⟨k0,k1,k2,k3,k4,k5⟩:=sl6 Gk;obtain ⟨r0,r1,r2,r3,r4,r5⟩:=sl6 Gr;have tw:=fun q : Wd q1.w => (q.cell hb1).trans hc1;have hne0:=Wd.ne q1.w;have HC0:=hidK (fun q : Wd q1.w => sxxd_hit ⟨a1,l1,y1,a2,l2,y2,(some ⟨b3,o3,none⟩),l3,y3,a4,l4,y4,(some ⟨b,o,none⟩),l5,y5⟩ c.now c.xs t q.w (HR.out.x.below (HW.out.trans (q.b.mono HW.out.size))) HX.out HG1.out HG2.out);go_wp2_with fail;refine wp_region_wide (by kernel_rfl) (by kernel_rfl) ?_
       repeat (go_big_quiet_step (first | (go_at_call 69;exact Calls.wide (HC0.out _)) | fail))
       refine wpQuiet_nil ?_;rintro _ ⟨q2,rfl⟩;have HB2:=upB HW q2.b;have Ck:=upK Gk q2.b;have Cr:=upK Gr q2.b;clear hne0 HW HB HC0 k0 k1 k2 k3 k4 k5 r0 r1 r2 r3 r4 r5 tw Gk Gr Bk Br hc1 hb1;have HB:=HB2;clear HB2;have Bk:=Ck;clear Ck;have Br:=Cr;clear Cr;go_wp2_with fail;refine ⟨⟨kq + 1,by omega,by go_num,fun j s hj hs => ?_,HBW1.out.trans (q2.b.mono HBW1.out.size)⟩,by simp [intOf];omega⟩
       by_cases e : j = kq
       ·subst e;rw [HXt.out] at hs;obtain rfl:=Option.some.inj hs;exact ⟨⟨i4,x4,HG1.out,HG2.out⟩,.inl HEm.out⟩
       ·exact HQ2.out j s (by omega) hs
      ·have HD:=hidK hbd;clear hbd;have Gk:=Bk;have Gr:=Br;have HW:=HB;obtain ⟨k0,k1,k2,k3,k4,k5⟩:=sl6 Gk;have r3:=fun q : Wd wr => q.slot (o:=3) Gr.out rfl;have tw:=fun q : Wd wr => (q.cell hb).trans hc;have hne0:=Wd.ne wr;have HC0:=hidK (fun q : Wd wr => sbind_miss ⟨a1,l1,y1,a2,l2,y2,a3,l3,y3,a4,l4,y4,(some ⟨b,o,none⟩),l5,y5⟩ c t q.w (HR.out.below (HW.out.trans (q.b.mono HW.out.size))) HX.out HV.out HNE.out HD.out);go_wp2_with fail;refine wp_region_wide (by kernel_rfl) (by kernel_rfl) ?_
       repeat (go_big_quiet_step (first | (go_at_call 131;exact Calls.wide (HC0.out _)) | fail))
       refine wpQuiet_nil ?_;rintro _ ⟨q1,rfl⟩;have HB1:=upB HW q1.b;have Ck:=upK Gk q1.b;have Cr:=upK Gr q1.b;clear hne0 HW HB HC0 k0 k1 k2 k3 k4 k5 r3 tw Gk Gr Bk Br pr3;have HB:=HB1;clear HB1;have Bk:=Ck;clear Ck;have Br:=Cr;clear Cr;have hc1:=(q1.cell hb).trans hc;have hb1 : b2 < q1.w.heap.size:=Nat.lt_of_lt_of_le hb q1.b.size;have HBW1:=upB HBW q1.b;clear hc hb HBW
       by_cases hg : ∃ (i : Nat) (x : Xd),c.xs[i]? = some x ∧ x.n = t
       rotate_left
       ·have HG:=hidK hg;clear hg;have Gk:=Bk;have Gr:=Br;have HW:=HB;obtain ⟨k0,k1,k2,k3,k4,k5⟩:=sl6 Gk;obtain ⟨r0,r1,r2,r3,r4,r5⟩:=sl6 Gr;have tw:=fun q : Wd q1.w => (q.cell hb1).trans hc1;have hne0:=Wd.ne q1.w;have HC0:=hidK (fun q : Wd q1.w => sxxd_miss ⟨a1,l1,y1,a2,l2,y2,a3,l3,y3,a4,l4,y4,(some ⟨b,o,none⟩),l5,y5⟩ c.now c.xs t q.w (HR.out.x.below (HW.out.trans (q.b.mono HW.out.size))) (fun i x h1 h2 => HG.out ⟨i,x,h1,h2⟩));go_wp2_with fail;refine wp_region_wide (by kernel_rfl) (by kernel_rfl) ?_
        repeat (go_big_quiet_step (first | (go_at_call 69;exact Calls.wide (HC0.out _)) | fail))
        refine wpQuiet_nil ?_;rintro _ ⟨q2,rfl⟩;have HB2:=upB HW q2.b;have Ck:=upK Gk q2.b;have Cr:=upK Gr q2.b;clear hne0 HW HB HC0 k0 k1 k2 k3 k4 k5 r0 r1 r2 r3 r4 r5 tw Gk Gr Bk Br hc1 hb1;have HB:=HB2;clear HB2;have Bk:=Ck;clear Ck;have Br:=Cr;clear Cr
        go_wp2
        go_ret;refine BoolB.f (fun h => ?_) HB.out;have h9:=(h.1 k p HXp.out).2.1 kq t HXt.out;exact HG.out h9.1
       obtain ⟨i4,x4,g1,g2⟩:=hg;have HG1:=hidK g1;have HG2:=hidK g2
       have hi41 : decide ((i4 : Int) < 0) = false:=by simp
       clear g1 g2;have Gk:=Bk;have Gr:=Br;have HW:=HB;obtain ⟨k0,k1,k2,k3,k4,k5⟩:=sl6 Gk;obtain ⟨r0,r1,r2,r3,r4,r5⟩:=sl6 Gr;have tw:=fun q : Wd q1.w => (q.cell hb1).trans hc1;have hne0:=Wd.ne q1.w;have HC0:=hidK (fun q : Wd q1.w => sxxd_hit ⟨a1,l1,y1,a2,l2,y2,a3,l3,y3,a4,l4,y4,(some ⟨b,o,none⟩),l5,y5⟩ c.now c.xs t q.w (HR.out.x.below (HW.out.trans (q.b.mono HW.out.size))) HX.out HG1.out HG2.out);go_wp2_with fail;refine wp_region_wide (by kernel_rfl) (by kernel_rfl) ?_
       repeat (go_big_quiet_step (first | (go_at_call 69;exact Calls.wide (HC0.out _)) | fail))
       refine wpQuiet_nil ?_;rintro _ ⟨q2,rfl⟩;have HB2:=upB HW q2.b;have Ck:=upK Gk q2.b;have Cr:=upK Gr q2.b;clear hne0 HW HB HC0 k0 k1 k2 k3 k4 k5 r0 r1 r2 r3 r4 r5 tw Gk Gr Bk Br hc1 hb1;have HB:=HB2;clear HB2;have Bk:=Ck;clear Ck;have Br:=Cr;clear Cr;go_wp2_with fail;refine ⟨⟨kq + 1,by omega,by go_num,fun j s hj hs => ?_,HBW1.out.trans (q2.b.mono HBW1.out.size)⟩,by simp [intOf];omega⟩
       by_cases e : j = kq
       ·subst e;rw [HXt.out] at hs;obtain rfl:=Option.some.inj hs;exact ⟨⟨i4,x4,HG1.out,HG2.out⟩,.inl HEm.out⟩
       ·exact HQ2.out j s (by omega) hs
     ·obtain rfl : vl = kq:=by omega
      have HQb : Hid (PSb c p):=fun j t ht => HQ2.out j t (by have h1:=(List.getElem?_eq_some_iff.1 ht).1;have h2:=HVL.out;omega) ht;clear HQ2;have TV2:=hidK (TV.out.below HBW.out);have KV2:=Bk;have GV2:=Br;have BV2:=HB;clear KV GV BV TV Bk Br HB HBW;obtain ⟨W2,hW⟩ : ∃ W2,W2 = wr:=⟨_,rfl⟩;rw [← hW] at KV2 GV2 BV2 TV2
      go_wp2
      clear pr3;rw [← hW];clear hW
      go_loopw [8] (fun i wr => ∃ kz : Nat,kz ≤ k ∧ i = .int .i64 kz ∧ Hid (∀ (j : Nat) q,j < kz → c.ps[j]? = some q → PairS c q p) ∧ Hid (Below W2.heap.size W2 wr)) (fun i _ => k - (intOf i).toNat)
      case atStart => exact ⟨0,by omega,rfl,fun _ _ h => absurd h (by omega),Below.refl _ _⟩
      case round =>
       obtain ⟨kz,hkz,rfl,HQ3,HBW⟩:=hrel;have HB:=hidK (BV2.out.trans (HBW.out.mono BV2.out.size));have Bk:=upK KV2 HBW.out;have Br:=upK GV2 HBW.out;have HTp:=hidK (TV2.out.below HBW.out)
       by_cases hlt3 : kz < k
       ·obtain ⟨b',o',pq,e',hb',hqq,hatq⟩:=pd_at (HR.out.p.below HB.out) (show kz < l5 by omega)
        cases e'
        obtain ⟨qa,ql,qc,hqr,z0,z2,z4,d0,d1,d2,d3,d4,d5⟩:=pd_cells hatq;have HXq:=hidK hqq;have HTq:=hidK hqr;clear hatq hqq hqr z0 z2 z4
        by_cases hpr : PairS c pq p
        ·have HPr:=hidK hpr;clear hpr;have Gk:=Bk;have Gr:=Br;have HW:=HB;obtain ⟨k0,k1,k2,k3,k4,k5⟩:=sl6 Gk;obtain ⟨r0,r1,r2,r3,r4,r5⟩:=sl6 Gr;have q0 : ∀ q : Wd wr,q.w.cell? ⟨b,o + kz * 6,none⟩ = some (.string pq.n):=fun q => (q.cell (hb')).trans (d0);have q1 : ∀ q : Wd wr,q.w.cell? ⟨b,o + kz * 6 + 1,none⟩ = some (.int .i64 pq.c):=fun q => (q.cell (hb')).trans (d1);have q2 : ∀ q : Wd wr,q.w.cell? ⟨b,o + kz * 6 + 2,none⟩ = some (.string pq.z):=fun q => (q.cell (hb')).trans (d2);have q3 : ∀ q : Wd wr,q.w.cell? ⟨b,o + kz * 6 + 3,none⟩ = some (.slice qa ql qc):=fun q => (q.cell (hb')).trans (d3);have q4 : ∀ q : Wd wr,q.w.cell? ⟨b,o + kz * 6 + 4,none⟩ = some (.string pq.d):=fun q => (q.cell (hb')).trans (d4);have q5 : ∀ q : Wd wr,q.w.cell? ⟨b,o + kz * 6 + 5,none⟩ = some (.int .i64 pq.p):=fun q => (q.cell (hb')).trans (d5);have hne0:=Wd.ne wr;have HC0:=hidK (fun qw : Wd wr => (spair_any ⟨a1,l1,y1,a2,l2,y2,a3,l3,y3,a4,l4,y4,(some ⟨b,o,none⟩),l5,y5⟩ c pq p qa ql qc va vl vc qw.w (HR.out.below (HW.out.trans (qw.b.mono HW.out.size))) HX.out HV.out HNE.out (HTq.out.below qw.b) (HTp.out.below qw.b)).mono (fun _ _ h => BoolB.yes h HPr.out));go_wp2_with fail;refine wp_region_wide (by kernel_rfl) (by kernel_rfl) ?_
         repeat (go_big_quiet_step (first | (go_at_call 132;exact Calls.wide (HC0.out _)) | fail))
         refine wpQuiet_nil ?_;rintro _ ⟨q9,rfl⟩;have HB1:=upB HW q9.b;have Ck:=upK Gk q9.b;have Cr:=upK Gr q9.b;clear hne0 HW HB HC0 k0 k1 k2 k3 k4 k5 r0 r1 r2 r3 r4 r5 q0 q1 q2 q3 q4 q5 Gk Gr Bk Br d0 d1 d2 d3 d4 d5;have HB:=HB1;clear HB1;have Bk:=Ck;clear Ck;have Br:=Cr;clear Cr;go_wp2_with fail;refine ⟨⟨kz + 1,by omega,by go_num,fun j s hj hs => ?_,HBW.out.trans (q9.b.mono HBW.out.size)⟩,by simp [intOf];omega⟩
         by_cases e : j = kz
         ·subst e;rw [HXq.out] at hs;obtain rfl:=Option.some.inj hs;exact HPr.out
         ·exact HQ3.out j s (by omega) hs
        ·have HPr:=hidK hpr;clear hpr;have Gk:=Bk;have Gr:=Br;have HW:=HB;obtain ⟨k0,k1,k2,k3,k4,k5⟩:=sl6 Gk;obtain ⟨r0,r1,r2,r3,r4,r5⟩:=sl6 Gr;have q0 : ∀ q : Wd wr,q.w.cell? ⟨b,o + kz * 6,none⟩ = some (.string pq.n):=fun q => (q.cell (hb')).trans (d0);have q1 : ∀ q : Wd wr,q.w.cell? ⟨b,o + kz * 6 + 1,none⟩ = some (.int .i64 pq.c):=fun q => (q.cell (hb')).trans (d1);have q2 : ∀ q : Wd wr,q.w.cell? ⟨b,o + kz * 6 + 2,none⟩ = some (.string pq.z):=fun q => (q.cell (hb')).trans (d2);have q3 : ∀ q : Wd wr,q.w.cell? ⟨b,o + kz * 6 + 3,none⟩ = some (.slice qa ql qc):=fun q => (q.cell (hb')).trans (d3);have q4 : ∀ q : Wd wr,q.w.cell? ⟨b,o + kz * 6 + 4,none⟩ = some (.string pq.d):=fun q => (q.cell (hb')).trans (d4);have q5 : ∀ q : Wd wr,q.w.cell? ⟨b,o + kz * 6 + 5,none⟩ = some (.int .i64 pq.p):=fun q => (q.cell (hb')).trans (d5);have hne0:=Wd.ne wr;have HC0:=hidK (fun qw : Wd wr => (spair_any ⟨a1,l1,y1,a2,l2,y2,a3,l3,y3,a4,l4,y4,(some ⟨b,o,none⟩),l5,y5⟩ c pq p qa ql qc va vl vc qw.w (HR.out.below (HW.out.trans (qw.b.mono HW.out.size))) HX.out HV.out HNE.out (HTq.out.below qw.b) (HTp.out.below qw.b)).mono (fun _ _ h => BoolB.no h HPr.out));go_wp2_with fail;refine wp_region_wide (by kernel_rfl) (by kernel_rfl) ?_
         repeat (go_big_quiet_step (first | (go_at_call 132;exact Calls.wide (HC0.out _)) | fail))
         refine wpQuiet_nil ?_;rintro _ ⟨q9,rfl⟩;have HB1:=upB HW q9.b;have Ck:=upK Gk q9.b;have Cr:=upK Gr q9.b;clear hne0 HW HB HC0 k0 k1 k2 k3 k4 k5 r0 r1 r2 r3 r4 r5 q0 q1 q2 q3 q4 q5 Gk Gr Bk Br d0 d1 d2 d3 d4 d5;have HB:=HB1;clear HB1;have Bk:=Ck;clear Ck;have Br:=Cr;clear Cr
         go_wp2
         go_ret;exact BoolB.f (fun h => HPr.out ((h.1 k p HXp.out).2.2 kz pq hlt3 HXq.out)) HB.out
       ·obtain rfl : k = kz:=by omega
        go_wp2_with fail;refine ⟨⟨k + 1,by omega,by go_num,fun j z hj hz => ?_,HB.out,Bk.out⟩,by simp [intOf];omega⟩
        by_cases e : j = k
        ·subst e;rw [HXp.out] at hz;obtain rfl:=Option.some.inj hz;exact ⟨HPa.out,HQb.out,fun j2 q2 hj2 hq2 => HQ3.out j2 q2 hj2 hq2⟩
        ·exact HQ.out j z (by omega) hz
   have hq:=isE_no he;have HEm:=hidK he;clear he
   rcases hf with ⟨j1,n,h1,h2,rfl⟩ | ⟨hh,rfl⟩
   rotate_left
   ·have HH:=hidK hh;clear hh;have Gk:=Bk;have Gr:=Br;have HW:=HB;have k0:=fun q : Wd w1 => q.slot (o:=0) Gk.out rfl;obtain ⟨r0,r1,r2,r3,r4,r5⟩:=sl6 Gr;have hne0:=Wd.ne w1;go_wp2_with fail;refine wp_region_wide (by kernel_rfl) (by kernel_rfl) ?_
    repeat (go_big_quiet_step (first | fail))
    refine wpQuiet_nil ?_;rintro _ ⟨q0,rfl⟩;have HB2:=upB HW q0.b;have Ck:=upK Gk q0.b;have Cr:=upK Gr q0.b;have CHTp:=hidK ((HTp.out).below q0.b);clear hne0 HW HB k0 r0 r1 r2 r3 r4 r5 Gk Gr Bk Br HTp;have HB:=HB2;clear HB2;have HTp:=CHTp;clear CHTp;have Bk:=Ck;clear Ck;have Br:=Cr;clear Cr
    go_wp2
    go_ret;refine BoolB.f (fun h => ?_) HB.out
    rcases (h.1 k p HXp.out).1 with h2 | ⟨i,n,h2,h3,_⟩
    ·exact HEm.out h2
    ·exact HH.out i n h2 h3
   have hl1' : j1 < l1:=by have h3:=(List.getElem?_eq_some_iff.1 h1).1;omega
   obtain ⟨b1,o1,n',rfl,hb1n,hn',hat⟩:=nd_at HR.out.n hl1';rw [h1] at hn';obtain rfl:=Option.some.inj hn';obtain ⟨na,nl,nc,hnr,z0,z1,d0,d1,d2,d3,d4,d5,d6⟩:=nd_cells hat;have HJn:=hidK h1;have HNn:=hidK h2;have HCn:=hidK d1;have HBn:=hidK hb1n
   have hj11 : decide ((j1 : Int) < 0) = false:=by simp
   have hbn : b1 < w1.heap.size:=Nat.lt_of_lt_of_le hb1n HB.out.size;have n1:=(cell_below HB.out hb1n).trans d1;clear hn' hat hnr z0 z1 d0 d1 d2 d3 d4 d5 d6 h1 h2 hb1n
   by_cases hz0 : p.z = ⟨#[]⟩
   ·have hq2:=isE_y hz0;have HPa : Hid (PSa c p):=.inr ⟨j1,n,HJn.out,HNn.out,.inl hz0⟩;clear hz0;have Gk:=Bk;have Gr:=Br;have HW:=HB;have k0:=fun q : Wd w1 => q.slot (o:=0) Gk.out rfl;obtain ⟨r0,r1,r2,r3,r4,r5⟩:=sl6 Gr;have nw:=fun q : Wd w1 => (q.cell hbn).trans n1;have hne0:=Wd.ne w1;go_wp2_with fail;refine wp_region_wide (by kernel_rfl) (by kernel_rfl) ?_
    repeat (go_big_quiet_step (first | fail))
    refine wpQuiet_nil ?_;rintro _ ⟨q0,rfl⟩;have HB2:=upB HW q0.b;have Ck:=upK Gk q0.b;have Cr:=upK Gr q0.b;have CHTp:=hidK ((HTp.out).below q0.b);clear hne0 HW HB k0 r0 r1 r2 r3 r4 r5 nw Gk Gr Bk Br HTp hbn n1;have HB:=HB2;clear HB2;have HTp:=CHTp;clear CHTp;have Bk:=Ck;clear Ck;have Br:=Cr;clear Cr;clear hq2;obtain ⟨gb,hgb⟩ : ∃ gb,gb = wr.heap.size:=⟨_,rfl⟩;rw [← hgb] at Br;have pr3 : q0.w.cell? ⟨gb,3,none⟩ = some (.slice va vl vc):=cellK Br.out 3;rw [hgb] at pr3
    go_wp2
    rw [← hgb];clear pr3 hgb;have KV:=Bk;have GV:=Br;have BV:=HB;have TV:=HTp;clear Bk Br HB HTp;obtain ⟨W,hW⟩ : ∃ W,W = q0.w:=⟨_,rfl⟩;rw [← hW] at KV GV BV TV ⊢;clear hW
    go_loopw [6] (fun i wr => ∃ kq : Nat,kq ≤ vl ∧ i = .int .i64 kq ∧ Hid (∀ (j : Nat) t,j < kq → p.zs[j]? = some t → PSb1 c p t) ∧ Hid (Below W.heap.size W wr)) (fun i _ => vl - (intOf i).toNat)
    case atStart => exact ⟨0,by omega,rfl,fun _ _ h => absurd h (by omega),Below.refl _ _⟩
    case round =>
     obtain ⟨kq,hkq,rfl,HQ2,HBW⟩:=hrel;have HB:=hidK (BV.out.trans (HBW.out.mono BV.out.size));have Bk:=upK KV HBW.out;have Br:=upK GV HBW.out;have pr3 : wr.cell? ⟨gb,3,none⟩ = some (.slice va vl vc):=cellK Br.out 3
     by_cases hlt2 : kq < vl
     ·obtain ⟨b2,o2,t,rfl,hb,hxt,hc,hsz⟩:=(TV.out.below HBW.out).at hlt2;have HXt:=hidK hxt;clear hxt hsz
      have hcase : (∃ v,IsBd c t v) ∨ (∀ v,¬ IsBd c t v):=by
       by_cases h : ∃ v,IsBd c t v
       ·exact .inl h
       ·exact .inr (fun v hv => h ⟨v,hv⟩)
      rcases hcase with ⟨v,hbd⟩ | hbd
      ·obtain ⟨j3,hj3⟩:=hbd.at
       have hl3' : j3 < l3:=by have h1:=(List.getElem?_eq_some_iff.1 hj3).1;omega
       obtain ⟨b3,o3,v',rfl,hb3,hv',hat⟩:=vd_at HR.out.v hl3';rw [hj3] at hv';obtain rfl:=Option.some.inj hv';obtain ⟨xa,xl,xc,hvr,z0,z2,z3,z5,d0,d1,d2,d3,d4,d5,d6,d7⟩:=vd_cells hat;have HJ:=hidK hj3;have HD:=hidK hbd;have HC2:=hidK d2;have HB3:=hidK hb3
       have hj31 : decide ((j3 : Int) < 0) = false:=by simp
       clear hv' hat hvr z0 z2 z3 z5 d0 d1 d2 d3 d4 d5 d6 d7 hj3 hbd hb3;have Gk:=Bk;have Gr:=Br;have HW:=HB;obtain ⟨k0,k1,k2,k3,k4,k5⟩:=sl6 Gk;have r3:=fun q : Wd wr => q.slot (o:=3) Gr.out rfl;have tw:=fun q : Wd wr => (q.cell hb).trans hc;have hne0:=Wd.ne wr;have HC0:=hidK (fun q : Wd wr => sbind_hit ⟨(some ⟨b1,o1,none⟩),l1,y1,a2,l2,y2,(some ⟨b3,o3,none⟩),l3,y3,a4,l4,y4,(some ⟨b,o,none⟩),l5,y5⟩ c t q.w (HR.out.below (HW.out.trans (q.b.mono HW.out.size))) HX.out HV.out HNE.out HJ.out HD.out);go_wp2_with fail;refine wp_region_wide (by kernel_rfl) (by kernel_rfl) ?_
       repeat (go_big_quiet_step (first | (go_at_call 131;exact Calls.wide (HC0.out _)) | fail))
       refine wpQuiet_nil ?_;rintro _ ⟨q1,rfl⟩;have HB1:=upB HW q1.b;have Ck:=upK Gk q1.b;have Cr:=upK Gr q1.b;clear hne0 HW HB HC0 k0 k1 k2 k3 k4 k5 r3 tw Gk Gr Bk Br pr3;have HB:=HB1;clear HB1;have Bk:=Ck;clear Ck;have Br:=Cr;clear Cr;have hc1:=(q1.cell hb).trans hc;have hb1 : b2 < q1.w.heap.size:=Nat.lt_of_lt_of_le hb q1.b.size;have HBW1:=upB HBW q1.b;clear hc hb HBW
       by_cases hg : ∃ (i : Nat) (x : Xd),c.xs[i]? = some x ∧ x.n = t
       rotate_left
       ·have HG:=hidK hg;clear hg;have Gk:=Bk;have Gr:=Br;have HW:=HB;obtain ⟨k0,k1,k2,k3,k4,k5⟩:=sl6 Gk;obtain ⟨r0,r1,r2,r3,r4,r5⟩:=sl6 Gr;have tw:=fun q : Wd q1.w => (q.cell hb1).trans hc1;have hne0:=Wd.ne q1.w;have HC0:=hidK (fun q : Wd q1.w => sxxd_miss ⟨(some ⟨b1,o1,none⟩),l1,y1,a2,l2,y2,(some ⟨b3,o3,none⟩),l3,y3,a4,l4,y4,(some ⟨b,o,none⟩),l5,y5⟩ c.now c.xs t q.w (HR.out.x.below (HW.out.trans (q.b.mono HW.out.size))) (fun i x h1 h2 => HG.out ⟨i,x,h1,h2⟩));go_wp2_with fail;refine wp_region_wide (by kernel_rfl) (by kernel_rfl) ?_
        repeat (go_big_quiet_step (first | (go_at_call 69;exact Calls.wide (HC0.out _)) | fail))
        refine wpQuiet_nil ?_;rintro _ ⟨q2,rfl⟩;have HB2:=upB HW q2.b;have Ck:=upK Gk q2.b;have Cr:=upK Gr q2.b;clear hne0 HW HB HC0 k0 k1 k2 k3 k4 k5 r0 r1 r2 r3 r4 r5 tw Gk Gr Bk Br hc1 hb1;have HB:=HB2;clear HB2;have Bk:=Ck;clear Ck;have Br:=Cr;clear Cr
        go_wp2
        go_ret;refine BoolB.f (fun h => ?_) HB.out;have h9:=(h.1 k p HXp.out).2.1 kq t HXt.out;exact HG.out h9.1
       obtain ⟨i4,x4,g1,g2⟩:=hg;have HG1:=hidK g1;have HG2:=hidK g2
       have hi41 : decide ((i4 : Int) < 0) = false:=by simp
       clear g1 g2;have hbv : b3 < q1.w.heap.size:=Nat.lt_of_lt_of_le HB3.out HB.out.size;have v2:=(cell_below HB.out HB3.out).trans HC2.out;have hbn : b1 < q1.w.heap.size:=Nat.lt_of_lt_of_le HBn.out HB.out.size;have n1:=(cell_below HB.out HBn.out).trans HCn.out
       by_cases hz : v.z = n.z
       ·have hzq:=tl_yes hz;have HZ:=hidK hz;clear hz;have Gk:=Bk;have Gr:=Br;have HW:=HB;obtain ⟨k0,k1,k2,k3,k4,k5⟩:=sl6 Gk;obtain ⟨r0,r1,r2,r3,r4,r5⟩:=sl6 Gr;have tw:=fun q : Wd q1.w => (q.cell hb1).trans hc1;have vw:=fun q : Wd q1.w => (q.cell hbv).trans v2;have nw:=fun q : Wd q1.w => (q.cell hbn).trans n1;have hne0:=Wd.ne q1.w;have HC0:=hidK (fun q : Wd q1.w => sxxd_hit ⟨(some ⟨b1,o1,none⟩),l1,y1,a2,l2,y2,(some ⟨b3,o3,none⟩),l3,y3,a4,l4,y4,(some ⟨b,o,none⟩),l5,y5⟩ c.now c.xs t q.w (HR.out.x.below (HW.out.trans (q.b.mono HW.out.size))) HX.out HG1.out HG2.out);go_wp2_with fail;refine wp_region_wide (by kernel_rfl) (by kernel_rfl) ?_
        repeat (go_big_quiet_step (first | (go_at_call 69;exact Calls.wide (HC0.out _)) | fail))
        refine wpQuiet_nil ?_;rintro _ ⟨q2,rfl⟩;have HB2:=upB HW q2.b;have Ck:=upK Gk q2.b;have Cr:=upK Gr q2.b;clear hne0 HW HB HC0 k0 k1 k2 k3 k4 k5 r0 r1 r2 r3 r4 r5 tw vw nw Gk Gr Bk Br hc1 hb1 hbv v2 hbn n1;have HB:=HB2;clear HB2;have Bk:=Ck;clear Ck;have Br:=Cr;clear Cr;clear hzq;go_wp2_with fail;refine ⟨⟨kq + 1,by omega,by go_num,fun j s hj hs => ?_,HBW1.out.trans (q2.b.mono HBW1.out.size)⟩,by simp [intOf];omega⟩
        by_cases e : j = kq
        ·subst e;rw [HXt.out] at hs;obtain rfl:=Option.some.inj hs;exact ⟨⟨i4,x4,HG1.out,HG2.out⟩,.inr ⟨v,j1,n,HD.out,HJn.out,HNn.out,HZ.out⟩⟩
        ·exact HQ2.out j s (by omega) hs
       ·have hzq:=tl_no hz;have HZ:=hidK hz;clear hz;have Gk:=Bk;have Gr:=Br;have HW:=HB;obtain ⟨k0,k1,k2,k3,k4,k5⟩:=sl6 Gk;obtain ⟨r0,r1,r2,r3,r4,r5⟩:=sl6 Gr;have tw:=fun q : Wd q1.w => (q.cell hb1).trans hc1;have vw:=fun q : Wd q1.w => (q.cell hbv).trans v2;have nw:=fun q : Wd q1.w => (q.cell hbn).trans n1;have hne0:=Wd.ne q1.w;have HC0:=hidK (fun q : Wd q1.w => sxxd_hit ⟨(some ⟨b1,o1,none⟩),l1,y1,a2,l2,y2,(some ⟨b3,o3,none⟩),l3,y3,a4,l4,y4,(some ⟨b,o,none⟩),l5,y5⟩ c.now c.xs t q.w (HR.out.x.below (HW.out.trans (q.b.mono HW.out.size))) HX.out HG1.out HG2.out);go_wp2_with fail;refine wp_region_wide (by kernel_rfl) (by kernel_rfl) ?_
        repeat (go_big_quiet_step (first | (go_at_call 69;exact Calls.wide (HC0.out _)) | fail))
        refine wpQuiet_nil ?_;rintro _ ⟨q2,rfl⟩;have HB2:=upB HW q2.b;have Ck:=upK Gk q2.b;have Cr:=upK Gr q2.b;clear hne0 HW HB HC0 k0 k1 k2 k3 k4 k5 r0 r1 r2 r3 r4 r5 tw vw nw Gk Gr Bk Br hc1 hb1 hbv v2 hbn n1;have HB:=HB2;clear HB2;have Bk:=Ck;clear Ck;have Br:=Cr;clear Cr
        go_wp2
        go_ret;refine BoolB.f (fun h => ?_) HB.out;have h9:=(h.1 k p HXp.out).2.1 kq t HXt.out
        rcases h9.2 with h2 | ⟨v',i,n',h2,h3,h4,h5⟩
        ·exact HEm.out h2
        ·obtain rfl:=IsBd.inj HX.out HV.out HD.out h2;obtain ⟨_,rfl⟩:=HNR.out.inj h3 HJn.out (h4.trans HNn.out.symm);exact HZ.out h5
      ·have HD:=hidK hbd;clear hbd;have Gk:=Bk;have Gr:=Br;have HW:=HB;obtain ⟨k0,k1,k2,k3,k4,k5⟩:=sl6 Gk;have r3:=fun q : Wd wr => q.slot (o:=3) Gr.out rfl;have tw:=fun q : Wd wr => (q.cell hb).trans hc;have hne0:=Wd.ne wr;have HC0:=hidK (fun q : Wd wr => sbind_miss ⟨(some ⟨b1,o1,none⟩),l1,y1,a2,l2,y2,a3,l3,y3,a4,l4,y4,(some ⟨b,o,none⟩),l5,y5⟩ c t q.w (HR.out.below (HW.out.trans (q.b.mono HW.out.size))) HX.out HV.out HNE.out HD.out);go_wp2_with fail;refine wp_region_wide (by kernel_rfl) (by kernel_rfl) ?_
       repeat (go_big_quiet_step (first | (go_at_call 131;exact Calls.wide (HC0.out _)) | fail))
       refine wpQuiet_nil ?_;rintro _ ⟨q1,rfl⟩;have HB1:=upB HW q1.b;have Ck:=upK Gk q1.b;have Cr:=upK Gr q1.b;clear hne0 HW HB HC0 k0 k1 k2 k3 k4 k5 r3 tw Gk Gr Bk Br pr3;have HB:=HB1;clear HB1;have Bk:=Ck;clear Ck;have Br:=Cr;clear Cr;have hc1:=(q1.cell hb).trans hc;have hb1 : b2 < q1.w.heap.size:=Nat.lt_of_lt_of_le hb q1.b.size;have HBW1:=upB HBW q1.b;clear hc hb HBW
       by_cases hg : ∃ (i : Nat) (x : Xd),c.xs[i]? = some x ∧ x.n = t
       rotate_left
       ·have HG:=hidK hg;clear hg;have Gk:=Bk;have Gr:=Br;have HW:=HB;obtain ⟨k0,k1,k2,k3,k4,k5⟩:=sl6 Gk;obtain ⟨r0,r1,r2,r3,r4,r5⟩:=sl6 Gr;have tw:=fun q : Wd q1.w => (q.cell hb1).trans hc1;have hne0:=Wd.ne q1.w;have HC0:=hidK (fun q : Wd q1.w => sxxd_miss ⟨(some ⟨b1,o1,none⟩),l1,y1,a2,l2,y2,a3,l3,y3,a4,l4,y4,(some ⟨b,o,none⟩),l5,y5⟩ c.now c.xs t q.w (HR.out.x.below (HW.out.trans (q.b.mono HW.out.size))) (fun i x h1 h2 => HG.out ⟨i,x,h1,h2⟩));go_wp2_with fail;refine wp_region_wide (by kernel_rfl) (by kernel_rfl) ?_
        repeat (go_big_quiet_step (first | (go_at_call 69;exact Calls.wide (HC0.out _)) | fail))
        refine wpQuiet_nil ?_;rintro _ ⟨q2,rfl⟩;have HB2:=upB HW q2.b;have Ck:=upK Gk q2.b;have Cr:=upK Gr q2.b;clear hne0 HW HB HC0 k0 k1 k2 k3 k4 k5 r0 r1 r2 r3 r4 r5 tw Gk Gr Bk Br hc1 hb1;have HB:=HB2;clear HB2;have Bk:=Ck;clear Ck;have Br:=Cr;clear Cr
        go_wp2
        go_ret;refine BoolB.f (fun h => ?_) HB.out;have h9:=(h.1 k p HXp.out).2.1 kq t HXt.out;exact HG.out h9.1
       obtain ⟨i4,x4,g1,g2⟩:=hg;have HG1:=hidK g1;have HG2:=hidK g2
       have hi41 : decide ((i4 : Int) < 0) = false:=by simp
       clear g1 g2;have Gk:=Bk;have Gr:=Br;have HW:=HB;obtain ⟨k0,k1,k2,k3,k4,k5⟩:=sl6 Gk;obtain ⟨r0,r1,r2,r3,r4,r5⟩:=sl6 Gr;have tw:=fun q : Wd q1.w => (q.cell hb1).trans hc1;have hne0:=Wd.ne q1.w;have HC0:=hidK (fun q : Wd q1.w => sxxd_hit ⟨(some ⟨b1,o1,none⟩),l1,y1,a2,l2,y2,a3,l3,y3,a4,l4,y4,(some ⟨b,o,none⟩),l5,y5⟩ c.now c.xs t q.w (HR.out.x.below (HW.out.trans (q.b.mono HW.out.size))) HX.out HG1.out HG2.out);go_wp2_with fail;refine wp_region_wide (by kernel_rfl) (by kernel_rfl) ?_
       repeat (go_big_quiet_step (first | (go_at_call 69;exact Calls.wide (HC0.out _)) | fail))
       refine wpQuiet_nil ?_;rintro _ ⟨q2,rfl⟩;have HB2:=upB HW q2.b;have Ck:=upK Gk q2.b;have Cr:=upK Gr q2.b;clear hne0 HW HB HC0 k0 k1 k2 k3 k4 k5 r0 r1 r2 r3 r4 r5 tw Gk Gr Bk Br hc1 hb1;have HB:=HB2;clear HB2;have Bk:=Ck;clear Ck;have Br:=Cr;clear Cr
       go_wp2
       go_ret;refine BoolB.f (fun h => ?_) HB.out;have h9:=(h.1 k p HXp.out).2.1 kq t HXt.out
       rcases h9.2 with h2 | ⟨v',i,n',h2,_⟩
       ·exact HEm.out h2
       ·exact HD.out v' h2
     ·obtain rfl : vl = kq:=by omega
      have HQb : Hid (PSb c p):=fun j t ht => HQ2.out j t (by have h1:=(List.getElem?_eq_some_iff.1 ht).1;have h2:=HVL.out;omega) ht;clear HQ2;have TV2:=hidK (TV.out.below HBW.out);have KV2:=Bk;have GV2:=Br;have BV2:=HB;clear KV GV BV TV Bk Br HB HBW;obtain ⟨W2,hW⟩ : ∃ W2,W2 = wr:=⟨_,rfl⟩;rw [← hW] at KV2 GV2 BV2 TV2
      go_wp2
      clear pr3;rw [← hW];clear hW
      go_loopw [8] (fun i wr => ∃ kz : Nat,kz ≤ k ∧ i = .int .i64 kz ∧ Hid (∀ (j : Nat) q,j < kz → c.ps[j]? = some q → PairS c q p) ∧ Hid (Below W2.heap.size W2 wr)) (fun i _ => k - (intOf i).toNat)
      case atStart => exact ⟨0,by omega,rfl,fun _ _ h => absurd h (by omega),Below.refl _ _⟩
      case round =>
       obtain ⟨kz,hkz,rfl,HQ3,HBW⟩:=hrel;have HB:=hidK (BV2.out.trans (HBW.out.mono BV2.out.size));have Bk:=upK KV2 HBW.out;have Br:=upK GV2 HBW.out;have HTp:=hidK (TV2.out.below HBW.out)
       by_cases hlt3 : kz < k
       ·obtain ⟨b',o',pq,e',hb',hqq,hatq⟩:=pd_at (HR.out.p.below HB.out) (show kz < l5 by omega)
        cases e'
        obtain ⟨qa,ql,qc,hqr,z0,z2,z4,d0,d1,d2,d3,d4,d5⟩:=pd_cells hatq;have HXq:=hidK hqq;have HTq:=hidK hqr;clear hatq hqq hqr z0 z2 z4
        by_cases hpr : PairS c pq p
        ·have HPr:=hidK hpr;clear hpr;have Gk:=Bk;have Gr:=Br;have HW:=HB;obtain ⟨k0,k1,k2,k3,k4,k5⟩:=sl6 Gk;obtain ⟨r0,r1,r2,r3,r4,r5⟩:=sl6 Gr;have q0 : ∀ q : Wd wr,q.w.cell? ⟨b,o + kz * 6,none⟩ = some (.string pq.n):=fun q => (q.cell (hb')).trans (d0);have q1 : ∀ q : Wd wr,q.w.cell? ⟨b,o + kz * 6 + 1,none⟩ = some (.int .i64 pq.c):=fun q => (q.cell (hb')).trans (d1);have q2 : ∀ q : Wd wr,q.w.cell? ⟨b,o + kz * 6 + 2,none⟩ = some (.string pq.z):=fun q => (q.cell (hb')).trans (d2);have q3 : ∀ q : Wd wr,q.w.cell? ⟨b,o + kz * 6 + 3,none⟩ = some (.slice qa ql qc):=fun q => (q.cell (hb')).trans (d3);have q4 : ∀ q : Wd wr,q.w.cell? ⟨b,o + kz * 6 + 4,none⟩ = some (.string pq.d):=fun q => (q.cell (hb')).trans (d4);have q5 : ∀ q : Wd wr,q.w.cell? ⟨b,o + kz * 6 + 5,none⟩ = some (.int .i64 pq.p):=fun q => (q.cell (hb')).trans (d5);have hne0:=Wd.ne wr;have HC0:=hidK (fun qw : Wd wr => (spair_any ⟨(some ⟨b1,o1,none⟩),l1,y1,a2,l2,y2,a3,l3,y3,a4,l4,y4,(some ⟨b,o,none⟩),l5,y5⟩ c pq p qa ql qc va vl vc qw.w (HR.out.below (HW.out.trans (qw.b.mono HW.out.size))) HX.out HV.out HNE.out (HTq.out.below qw.b) (HTp.out.below qw.b)).mono (fun _ _ h => BoolB.yes h HPr.out));go_wp2_with fail;refine wp_region_wide (by kernel_rfl) (by kernel_rfl) ?_
         repeat (go_big_quiet_step (first | (go_at_call 132;exact Calls.wide (HC0.out _)) | fail))
         refine wpQuiet_nil ?_;rintro _ ⟨q9,rfl⟩;have HB1:=upB HW q9.b;have Ck:=upK Gk q9.b;have Cr:=upK Gr q9.b;clear hne0 HW HB HC0 k0 k1 k2 k3 k4 k5 r0 r1 r2 r3 r4 r5 q0 q1 q2 q3 q4 q5 Gk Gr Bk Br d0 d1 d2 d3 d4 d5;have HB:=HB1;clear HB1;have Bk:=Ck;clear Ck;have Br:=Cr;clear Cr;go_wp2_with fail;refine ⟨⟨kz + 1,by omega,by go_num,fun j s hj hs => ?_,HBW.out.trans (q9.b.mono HBW.out.size)⟩,by simp [intOf];omega⟩
         by_cases e : j = kz
         ·subst e;rw [HXq.out] at hs;obtain rfl:=Option.some.inj hs;exact HPr.out
         ·exact HQ3.out j s (by omega) hs
        ·have HPr:=hidK hpr;clear hpr;have Gk:=Bk;have Gr:=Br;have HW:=HB;obtain ⟨k0,k1,k2,k3,k4,k5⟩:=sl6 Gk;obtain ⟨r0,r1,r2,r3,r4,r5⟩:=sl6 Gr;have q0 : ∀ q : Wd wr,q.w.cell? ⟨b,o + kz * 6,none⟩ = some (.string pq.n):=fun q => (q.cell (hb')).trans (d0);have q1 : ∀ q : Wd wr,q.w.cell? ⟨b,o + kz * 6 + 1,none⟩ = some (.int .i64 pq.c):=fun q => (q.cell (hb')).trans (d1);have q2 : ∀ q : Wd wr,q.w.cell? ⟨b,o + kz * 6 + 2,none⟩ = some (.string pq.z):=fun q => (q.cell (hb')).trans (d2);have q3 : ∀ q : Wd wr,q.w.cell? ⟨b,o + kz * 6 + 3,none⟩ = some (.slice qa ql qc):=fun q => (q.cell (hb')).trans (d3);have q4 : ∀ q : Wd wr,q.w.cell? ⟨b,o + kz * 6 + 4,none⟩ = some (.string pq.d):=fun q => (q.cell (hb')).trans (d4);have q5 : ∀ q : Wd wr,q.w.cell? ⟨b,o + kz * 6 + 5,none⟩ = some (.int .i64 pq.p):=fun q => (q.cell (hb')).trans (d5);have hne0:=Wd.ne wr;have HC0:=hidK (fun qw : Wd wr => (spair_any ⟨(some ⟨b1,o1,none⟩),l1,y1,a2,l2,y2,a3,l3,y3,a4,l4,y4,(some ⟨b,o,none⟩),l5,y5⟩ c pq p qa ql qc va vl vc qw.w (HR.out.below (HW.out.trans (qw.b.mono HW.out.size))) HX.out HV.out HNE.out (HTq.out.below qw.b) (HTp.out.below qw.b)).mono (fun _ _ h => BoolB.no h HPr.out));go_wp2_with fail;refine wp_region_wide (by kernel_rfl) (by kernel_rfl) ?_
         repeat (go_big_quiet_step (first | (go_at_call 132;exact Calls.wide (HC0.out _)) | fail))
         refine wpQuiet_nil ?_;rintro _ ⟨q9,rfl⟩;have HB1:=upB HW q9.b;have Ck:=upK Gk q9.b;have Cr:=upK Gr q9.b;clear hne0 HW HB HC0 k0 k1 k2 k3 k4 k5 r0 r1 r2 r3 r4 r5 q0 q1 q2 q3 q4 q5 Gk Gr Bk Br d0 d1 d2 d3 d4 d5;have HB:=HB1;clear HB1;have Bk:=Ck;clear Ck;have Br:=Cr;clear Cr
         go_wp2
         go_ret;exact BoolB.f (fun h => HPr.out ((h.1 k p HXp.out).2.2 kz pq hlt3 HXq.out)) HB.out
       ·obtain rfl : k = kz:=by omega
        go_wp2_with fail;refine ⟨⟨k + 1,by omega,by go_num,fun j z hj hz => ?_,HB.out,Bk.out⟩,by simp [intOf];omega⟩
        by_cases e : j = k
        ·subst e;rw [HXp.out] at hz;obtain rfl:=Option.some.inj hz;exact ⟨HPa.out,HQb.out,fun j2 q2 hj2 hq2 => HQ3.out j2 q2 hj2 hq2⟩
        ·exact HQ.out j z (by omega) hz
   have hq2:=isE_no hz0
   by_cases hz1 : n.z = p.z
   ·have hq3:=tl_yes hz1;have HPa : Hid (PSa c p):=.inr ⟨j1,n,HJn.out,HNn.out,.inr hz1⟩;clear hz0 hz1;have Gk:=Bk;have Gr:=Br;have HW:=HB;have k0:=fun q : Wd w1 => q.slot (o:=0) Gk.out rfl;obtain ⟨r0,r1,r2,r3,r4,r5⟩:=sl6 Gr;have nw:=fun q : Wd w1 => (q.cell hbn).trans n1;have hne0:=Wd.ne w1;go_wp2_with fail;refine wp_region_wide (by kernel_rfl) (by kernel_rfl) ?_
    repeat (go_big_quiet_step (first | fail))
    refine wpQuiet_nil ?_;rintro _ ⟨q0,rfl⟩;have HB2:=upB HW q0.b;have Ck:=upK Gk q0.b;have Cr:=upK Gr q0.b;have CHTp:=hidK ((HTp.out).below q0.b);clear hne0 HW HB k0 r0 r1 r2 r3 r4 r5 nw Gk Gr Bk Br HTp hbn n1;have HB:=HB2;clear HB2;have HTp:=CHTp;clear CHTp;have Bk:=Ck;clear Ck;have Br:=Cr;clear Cr;clear hq2 hq3;obtain ⟨gb,hgb⟩ : ∃ gb,gb = wr.heap.size:=⟨_,rfl⟩;rw [← hgb] at Br;have pr3 : q0.w.cell? ⟨gb,3,none⟩ = some (.slice va vl vc):=cellK Br.out 3;rw [hgb] at pr3
    go_wp2
    rw [← hgb];clear pr3 hgb;have KV:=Bk;have GV:=Br;have BV:=HB;have TV:=HTp;clear Bk Br HB HTp;obtain ⟨W,hW⟩ : ∃ W,W = q0.w:=⟨_,rfl⟩;rw [← hW] at KV GV BV TV ⊢;clear hW
    go_loopw [6] (fun i wr => ∃ kq : Nat,kq ≤ vl ∧ i = .int .i64 kq ∧ Hid (∀ (j : Nat) t,j < kq → p.zs[j]? = some t → PSb1 c p t) ∧ Hid (Below W.heap.size W wr)) (fun i _ => vl - (intOf i).toNat)
    case atStart => exact ⟨0,by omega,rfl,fun _ _ h => absurd h (by omega),Below.refl _ _⟩
    case round =>
     obtain ⟨kq,hkq,rfl,HQ2,HBW⟩:=hrel;have HB:=hidK (BV.out.trans (HBW.out.mono BV.out.size));have Bk:=upK KV HBW.out;have Br:=upK GV HBW.out;have pr3 : wr.cell? ⟨gb,3,none⟩ = some (.slice va vl vc):=cellK Br.out 3
     by_cases hlt2 : kq < vl
     ·obtain ⟨b2,o2,t,rfl,hb,hxt,hc,hsz⟩:=(TV.out.below HBW.out).at hlt2;have HXt:=hidK hxt;clear hxt hsz
      have hcase : (∃ v,IsBd c t v) ∨ (∀ v,¬ IsBd c t v):=by
       by_cases h : ∃ v,IsBd c t v
       ·exact .inl h
       ·exact .inr (fun v hv => h ⟨v,hv⟩)
      rcases hcase with ⟨v,hbd⟩ | hbd
      ·obtain ⟨j3,hj3⟩:=hbd.at
       have hl3' : j3 < l3:=by have h1:=(List.getElem?_eq_some_iff.1 hj3).1;omega
       obtain ⟨b3,o3,v',rfl,hb3,hv',hat⟩:=vd_at HR.out.v hl3';rw [hj3] at hv';obtain rfl:=Option.some.inj hv';obtain ⟨xa,xl,xc,hvr,z0,z2,z3,z5,d0,d1,d2,d3,d4,d5,d6,d7⟩:=vd_cells hat;have HJ:=hidK hj3;have HD:=hidK hbd;have HC2:=hidK d2;have HB3:=hidK hb3
       have hj31 : decide ((j3 : Int) < 0) = false:=by simp
       clear hv' hat hvr z0 z2 z3 z5 d0 d1 d2 d3 d4 d5 d6 d7 hj3 hbd hb3;have Gk:=Bk;have Gr:=Br;have HW:=HB;obtain ⟨k0,k1,k2,k3,k4,k5⟩:=sl6 Gk;have r3:=fun q : Wd wr => q.slot (o:=3) Gr.out rfl;have tw:=fun q : Wd wr => (q.cell hb).trans hc;have hne0:=Wd.ne wr;have HC0:=hidK (fun q : Wd wr => sbind_hit ⟨(some ⟨b1,o1,none⟩),l1,y1,a2,l2,y2,(some ⟨b3,o3,none⟩),l3,y3,a4,l4,y4,(some ⟨b,o,none⟩),l5,y5⟩ c t q.w (HR.out.below (HW.out.trans (q.b.mono HW.out.size))) HX.out HV.out HNE.out HJ.out HD.out);go_wp2_with fail;refine wp_region_wide (by kernel_rfl) (by kernel_rfl) ?_
       repeat (go_big_quiet_step (first | (go_at_call 131;exact Calls.wide (HC0.out _)) | fail))
       refine wpQuiet_nil ?_;rintro _ ⟨q1,rfl⟩;have HB1:=upB HW q1.b;have Ck:=upK Gk q1.b;have Cr:=upK Gr q1.b;clear hne0 HW HB HC0 k0 k1 k2 k3 k4 k5 r3 tw Gk Gr Bk Br pr3;have HB:=HB1;clear HB1;have Bk:=Ck;clear Ck;have Br:=Cr;clear Cr;have hc1:=(q1.cell hb).trans hc;have hb1 : b2 < q1.w.heap.size:=Nat.lt_of_lt_of_le hb q1.b.size;have HBW1:=upB HBW q1.b;clear hc hb HBW
       by_cases hg : ∃ (i : Nat) (x : Xd),c.xs[i]? = some x ∧ x.n = t
       rotate_left
       ·have HG:=hidK hg;clear hg;have Gk:=Bk;have Gr:=Br;have HW:=HB;obtain ⟨k0,k1,k2,k3,k4,k5⟩:=sl6 Gk;obtain ⟨r0,r1,r2,r3,r4,r5⟩:=sl6 Gr;have tw:=fun q : Wd q1.w => (q.cell hb1).trans hc1;have hne0:=Wd.ne q1.w;have HC0:=hidK (fun q : Wd q1.w => sxxd_miss ⟨(some ⟨b1,o1,none⟩),l1,y1,a2,l2,y2,(some ⟨b3,o3,none⟩),l3,y3,a4,l4,y4,(some ⟨b,o,none⟩),l5,y5⟩ c.now c.xs t q.w (HR.out.x.below (HW.out.trans (q.b.mono HW.out.size))) (fun i x h1 h2 => HG.out ⟨i,x,h1,h2⟩));go_wp2_with fail;refine wp_region_wide (by kernel_rfl) (by kernel_rfl) ?_
        repeat (go_big_quiet_step (first | (go_at_call 69;exact Calls.wide (HC0.out _)) | fail))
        refine wpQuiet_nil ?_;rintro _ ⟨q2,rfl⟩;have HB2:=upB HW q2.b;have Ck:=upK Gk q2.b;have Cr:=upK Gr q2.b;clear hne0 HW HB HC0 k0 k1 k2 k3 k4 k5 r0 r1 r2 r3 r4 r5 tw Gk Gr Bk Br hc1 hb1;have HB:=HB2;clear HB2;have Bk:=Ck;clear Ck;have Br:=Cr;clear Cr
        go_wp2
        go_ret;refine BoolB.f (fun h => ?_) HB.out;have h9:=(h.1 k p HXp.out).2.1 kq t HXt.out;exact HG.out h9.1
       obtain ⟨i4,x4,g1,g2⟩:=hg;have HG1:=hidK g1;have HG2:=hidK g2
       have hi41 : decide ((i4 : Int) < 0) = false:=by simp
       clear g1 g2;have hbv : b3 < q1.w.heap.size:=Nat.lt_of_lt_of_le HB3.out HB.out.size;have v2:=(cell_below HB.out HB3.out).trans HC2.out;have hbn : b1 < q1.w.heap.size:=Nat.lt_of_lt_of_le HBn.out HB.out.size;have n1:=(cell_below HB.out HBn.out).trans HCn.out
       by_cases hz : v.z = n.z
       ·have hzq:=tl_yes hz;have HZ:=hidK hz;clear hz;have Gk:=Bk;have Gr:=Br;have HW:=HB;obtain ⟨k0,k1,k2,k3,k4,k5⟩:=sl6 Gk;obtain ⟨r0,r1,r2,r3,r4,r5⟩:=sl6 Gr;have tw:=fun q : Wd q1.w => (q.cell hb1).trans hc1;have vw:=fun q : Wd q1.w => (q.cell hbv).trans v2;have nw:=fun q : Wd q1.w => (q.cell hbn).trans n1;have hne0:=Wd.ne q1.w;have HC0:=hidK (fun q : Wd q1.w => sxxd_hit ⟨(some ⟨b1,o1,none⟩),l1,y1,a2,l2,y2,(some ⟨b3,o3,none⟩),l3,y3,a4,l4,y4,(some ⟨b,o,none⟩),l5,y5⟩ c.now c.xs t q.w (HR.out.x.below (HW.out.trans (q.b.mono HW.out.size))) HX.out HG1.out HG2.out);go_wp2_with fail;refine wp_region_wide (by kernel_rfl) (by kernel_rfl) ?_
        repeat (go_big_quiet_step (first | (go_at_call 69;exact Calls.wide (HC0.out _)) | fail))
        refine wpQuiet_nil ?_;rintro _ ⟨q2,rfl⟩;have HB2:=upB HW q2.b;have Ck:=upK Gk q2.b;have Cr:=upK Gr q2.b;clear hne0 HW HB HC0 k0 k1 k2 k3 k4 k5 r0 r1 r2 r3 r4 r5 tw vw nw Gk Gr Bk Br hc1 hb1 hbv v2 hbn n1;have HB:=HB2;clear HB2;have Bk:=Ck;clear Ck;have Br:=Cr;clear Cr;clear hzq;go_wp2_with fail;refine ⟨⟨kq + 1,by omega,by go_num,fun j s hj hs => ?_,HBW1.out.trans (q2.b.mono HBW1.out.size)⟩,by simp [intOf];omega⟩
        by_cases e : j = kq
        ·subst e;rw [HXt.out] at hs;obtain rfl:=Option.some.inj hs;exact ⟨⟨i4,x4,HG1.out,HG2.out⟩,.inr ⟨v,j1,n,HD.out,HJn.out,HNn.out,HZ.out⟩⟩
        ·exact HQ2.out j s (by omega) hs
       ·have hzq:=tl_no hz;have HZ:=hidK hz;clear hz;have Gk:=Bk;have Gr:=Br;have HW:=HB;obtain ⟨k0,k1,k2,k3,k4,k5⟩:=sl6 Gk;obtain ⟨r0,r1,r2,r3,r4,r5⟩:=sl6 Gr;have tw:=fun q : Wd q1.w => (q.cell hb1).trans hc1;have vw:=fun q : Wd q1.w => (q.cell hbv).trans v2;have nw:=fun q : Wd q1.w => (q.cell hbn).trans n1;have hne0:=Wd.ne q1.w;have HC0:=hidK (fun q : Wd q1.w => sxxd_hit ⟨(some ⟨b1,o1,none⟩),l1,y1,a2,l2,y2,(some ⟨b3,o3,none⟩),l3,y3,a4,l4,y4,(some ⟨b,o,none⟩),l5,y5⟩ c.now c.xs t q.w (HR.out.x.below (HW.out.trans (q.b.mono HW.out.size))) HX.out HG1.out HG2.out);go_wp2_with fail;refine wp_region_wide (by kernel_rfl) (by kernel_rfl) ?_
        repeat (go_big_quiet_step (first | (go_at_call 69;exact Calls.wide (HC0.out _)) | fail))
        refine wpQuiet_nil ?_;rintro _ ⟨q2,rfl⟩;have HB2:=upB HW q2.b;have Ck:=upK Gk q2.b;have Cr:=upK Gr q2.b;clear hne0 HW HB HC0 k0 k1 k2 k3 k4 k5 r0 r1 r2 r3 r4 r5 tw vw nw Gk Gr Bk Br hc1 hb1 hbv v2 hbn n1;have HB:=HB2;clear HB2;have Bk:=Ck;clear Ck;have Br:=Cr;clear Cr
        go_wp2
        go_ret;refine BoolB.f (fun h => ?_) HB.out;have h9:=(h.1 k p HXp.out).2.1 kq t HXt.out
        rcases h9.2 with h2 | ⟨v',i,n',h2,h3,h4,h5⟩
        ·exact HEm.out h2
        ·obtain rfl:=IsBd.inj HX.out HV.out HD.out h2;obtain ⟨_,rfl⟩:=HNR.out.inj h3 HJn.out (h4.trans HNn.out.symm);exact HZ.out h5
      ·have HD:=hidK hbd;clear hbd;have Gk:=Bk;have Gr:=Br;have HW:=HB;obtain ⟨k0,k1,k2,k3,k4,k5⟩:=sl6 Gk;have r3:=fun q : Wd wr => q.slot (o:=3) Gr.out rfl;have tw:=fun q : Wd wr => (q.cell hb).trans hc;have hne0:=Wd.ne wr;have HC0:=hidK (fun q : Wd wr => sbind_miss ⟨(some ⟨b1,o1,none⟩),l1,y1,a2,l2,y2,a3,l3,y3,a4,l4,y4,(some ⟨b,o,none⟩),l5,y5⟩ c t q.w (HR.out.below (HW.out.trans (q.b.mono HW.out.size))) HX.out HV.out HNE.out HD.out);go_wp2_with fail;refine wp_region_wide (by kernel_rfl) (by kernel_rfl) ?_
       repeat (go_big_quiet_step (first | (go_at_call 131;exact Calls.wide (HC0.out _)) | fail))
       refine wpQuiet_nil ?_;rintro _ ⟨q1,rfl⟩;have HB1:=upB HW q1.b;have Ck:=upK Gk q1.b;have Cr:=upK Gr q1.b;clear hne0 HW HB HC0 k0 k1 k2 k3 k4 k5 r3 tw Gk Gr Bk Br pr3;have HB:=HB1;clear HB1;have Bk:=Ck;clear Ck;have Br:=Cr;clear Cr;have hc1:=(q1.cell hb).trans hc;have hb1 : b2 < q1.w.heap.size:=Nat.lt_of_lt_of_le hb q1.b.size;have HBW1:=upB HBW q1.b;clear hc hb HBW
       by_cases hg : ∃ (i : Nat) (x : Xd),c.xs[i]? = some x ∧ x.n = t
       rotate_left
       ·have HG:=hidK hg;clear hg;have Gk:=Bk;have Gr:=Br;have HW:=HB;obtain ⟨k0,k1,k2,k3,k4,k5⟩:=sl6 Gk;obtain ⟨r0,r1,r2,r3,r4,r5⟩:=sl6 Gr;have tw:=fun q : Wd q1.w => (q.cell hb1).trans hc1;have hne0:=Wd.ne q1.w;have HC0:=hidK (fun q : Wd q1.w => sxxd_miss ⟨(some ⟨b1,o1,none⟩),l1,y1,a2,l2,y2,a3,l3,y3,a4,l4,y4,(some ⟨b,o,none⟩),l5,y5⟩ c.now c.xs t q.w (HR.out.x.below (HW.out.trans (q.b.mono HW.out.size))) (fun i x h1 h2 => HG.out ⟨i,x,h1,h2⟩));go_wp2_with fail;refine wp_region_wide (by kernel_rfl) (by kernel_rfl) ?_
        repeat (go_big_quiet_step (first | (go_at_call 69;exact Calls.wide (HC0.out _)) | fail))
        refine wpQuiet_nil ?_;rintro _ ⟨q2,rfl⟩;have HB2:=upB HW q2.b;have Ck:=upK Gk q2.b;have Cr:=upK Gr q2.b;clear hne0 HW HB HC0 k0 k1 k2 k3 k4 k5 r0 r1 r2 r3 r4 r5 tw Gk Gr Bk Br hc1 hb1;have HB:=HB2;clear HB2;have Bk:=Ck;clear Ck;have Br:=Cr;clear Cr
        go_wp2
        go_ret;refine BoolB.f (fun h => ?_) HB.out;have h9:=(h.1 k p HXp.out).2.1 kq t HXt.out;exact HG.out h9.1
       obtain ⟨i4,x4,g1,g2⟩:=hg;have HG1:=hidK g1;have HG2:=hidK g2
       have hi41 : decide ((i4 : Int) < 0) = false:=by simp
       clear g1 g2;have Gk:=Bk;have Gr:=Br;have HW:=HB;obtain ⟨k0,k1,k2,k3,k4,k5⟩:=sl6 Gk;obtain ⟨r0,r1,r2,r3,r4,r5⟩:=sl6 Gr;have tw:=fun q : Wd q1.w => (q.cell hb1).trans hc1;have hne0:=Wd.ne q1.w;have HC0:=hidK (fun q : Wd q1.w => sxxd_hit ⟨(some ⟨b1,o1,none⟩),l1,y1,a2,l2,y2,a3,l3,y3,a4,l4,y4,(some ⟨b,o,none⟩),l5,y5⟩ c.now c.xs t q.w (HR.out.x.below (HW.out.trans (q.b.mono HW.out.size))) HX.out HG1.out HG2.out);go_wp2_with fail;refine wp_region_wide (by kernel_rfl) (by kernel_rfl) ?_
       repeat (go_big_quiet_step (first | (go_at_call 69;exact Calls.wide (HC0.out _)) | fail))
       refine wpQuiet_nil ?_;rintro _ ⟨q2,rfl⟩;have HB2:=upB HW q2.b;have Ck:=upK Gk q2.b;have Cr:=upK Gr q2.b;clear hne0 HW HB HC0 k0 k1 k2 k3 k4 k5 r0 r1 r2 r3 r4 r5 tw Gk Gr Bk Br hc1 hb1;have HB:=HB2;clear HB2;have Bk:=Ck;clear Ck;have Br:=Cr;clear Cr
       go_wp2
       go_ret;refine BoolB.f (fun h => ?_) HB.out;have h9:=(h.1 k p HXp.out).2.1 kq t HXt.out
       rcases h9.2 with h2 | ⟨v',i,n',h2,_⟩
       ·exact HEm.out h2
       ·exact HD.out v' h2
     ·obtain rfl : vl = kq:=by omega
      have HQb : Hid (PSb c p):=fun j t ht => HQ2.out j t (by have h1:=(List.getElem?_eq_some_iff.1 ht).1;have h2:=HVL.out;omega) ht;clear HQ2;have TV2:=hidK (TV.out.below HBW.out);have KV2:=Bk;have GV2:=Br;have BV2:=HB;clear KV GV BV TV Bk Br HB HBW;obtain ⟨W2,hW⟩ : ∃ W2,W2 = wr:=⟨_,rfl⟩;rw [← hW] at KV2 GV2 BV2 TV2
      go_wp2
      clear pr3;rw [← hW];clear hW
      go_loopw [8] (fun i wr => ∃ kz : Nat,kz ≤ k ∧ i = .int .i64 kz ∧ Hid (∀ (j : Nat) q,j < kz → c.ps[j]? = some q → PairS c q p) ∧ Hid (Below W2.heap.size W2 wr)) (fun i _ => k - (intOf i).toNat)
      case atStart => exact ⟨0,by omega,rfl,fun _ _ h => absurd h (by omega),Below.refl _ _⟩
      case round =>
       obtain ⟨kz,hkz,rfl,HQ3,HBW⟩:=hrel;have HB:=hidK (BV2.out.trans (HBW.out.mono BV2.out.size));have Bk:=upK KV2 HBW.out;have Br:=upK GV2 HBW.out;have HTp:=hidK (TV2.out.below HBW.out)
       by_cases hlt3 : kz < k
       ·obtain ⟨b',o',pq,e',hb',hqq,hatq⟩:=pd_at (HR.out.p.below HB.out) (show kz < l5 by omega)
        cases e'
        obtain ⟨qa,ql,qc,hqr,z0,z2,z4,d0,d1,d2,d3,d4,d5⟩:=pd_cells hatq;have HXq:=hidK hqq;have HTq:=hidK hqr;clear hatq hqq hqr z0 z2 z4
        by_cases hpr : PairS c pq p
        ·have HPr:=hidK hpr;clear hpr;have Gk:=Bk;have Gr:=Br;have HW:=HB;obtain ⟨k0,k1,k2,k3,k4,k5⟩:=sl6 Gk;obtain ⟨r0,r1,r2,r3,r4,r5⟩:=sl6 Gr;have q0 : ∀ q : Wd wr,q.w.cell? ⟨b,o + kz * 6,none⟩ = some (.string pq.n):=fun q => (q.cell (hb')).trans (d0);have q1 : ∀ q : Wd wr,q.w.cell? ⟨b,o + kz * 6 + 1,none⟩ = some (.int .i64 pq.c):=fun q => (q.cell (hb')).trans (d1);have q2 : ∀ q : Wd wr,q.w.cell? ⟨b,o + kz * 6 + 2,none⟩ = some (.string pq.z):=fun q => (q.cell (hb')).trans (d2);have q3 : ∀ q : Wd wr,q.w.cell? ⟨b,o + kz * 6 + 3,none⟩ = some (.slice qa ql qc):=fun q => (q.cell (hb')).trans (d3);have q4 : ∀ q : Wd wr,q.w.cell? ⟨b,o + kz * 6 + 4,none⟩ = some (.string pq.d):=fun q => (q.cell (hb')).trans (d4);have q5 : ∀ q : Wd wr,q.w.cell? ⟨b,o + kz * 6 + 5,none⟩ = some (.int .i64 pq.p):=fun q => (q.cell (hb')).trans (d5);have hne0:=Wd.ne wr;have HC0:=hidK (fun qw : Wd wr => (spair_any ⟨(some ⟨b1,o1,none⟩),l1,y1,a2,l2,y2,a3,l3,y3,a4,l4,y4,(some ⟨b,o,none⟩),l5,y5⟩ c pq p qa ql qc va vl vc qw.w (HR.out.below (HW.out.trans (qw.b.mono HW.out.size))) HX.out HV.out HNE.out (HTq.out.below qw.b) (HTp.out.below qw.b)).mono (fun _ _ h => BoolB.yes h HPr.out));go_wp2_with fail;refine wp_region_wide (by kernel_rfl) (by kernel_rfl) ?_
         repeat (go_big_quiet_step (first | (go_at_call 132;exact Calls.wide (HC0.out _)) | fail))
         refine wpQuiet_nil ?_;rintro _ ⟨q9,rfl⟩;have HB1:=upB HW q9.b;have Ck:=upK Gk q9.b;have Cr:=upK Gr q9.b;clear hne0 HW HB HC0 k0 k1 k2 k3 k4 k5 r0 r1 r2 r3 r4 r5 q0 q1 q2 q3 q4 q5 Gk Gr Bk Br d0 d1 d2 d3 d4 d5;have HB:=HB1;clear HB1;have Bk:=Ck;clear Ck;have Br:=Cr;clear Cr;go_wp2_with fail;refine ⟨⟨kz + 1,by omega,by go_num,fun j s hj hs => ?_,HBW.out.trans (q9.b.mono HBW.out.size)⟩,by simp [intOf];omega⟩
         by_cases e : j = kz
         ·subst e;rw [HXq.out] at hs;obtain rfl:=Option.some.inj hs;exact HPr.out
         ·exact HQ3.out j s (by omega) hs
        ·have HPr:=hidK hpr;clear hpr;have Gk:=Bk;have Gr:=Br;have HW:=HB;obtain ⟨k0,k1,k2,k3,k4,k5⟩:=sl6 Gk;obtain ⟨r0,r1,r2,r3,r4,r5⟩:=sl6 Gr;have q0 : ∀ q : Wd wr,q.w.cell? ⟨b,o + kz * 6,none⟩ = some (.string pq.n):=fun q => (q.cell (hb')).trans (d0);have q1 : ∀ q : Wd wr,q.w.cell? ⟨b,o + kz * 6 + 1,none⟩ = some (.int .i64 pq.c):=fun q => (q.cell (hb')).trans (d1);have q2 : ∀ q : Wd wr,q.w.cell? ⟨b,o + kz * 6 + 2,none⟩ = some (.string pq.z):=fun q => (q.cell (hb')).trans (d2);have q3 : ∀ q : Wd wr,q.w.cell? ⟨b,o + kz * 6 + 3,none⟩ = some (.slice qa ql qc):=fun q => (q.cell (hb')).trans (d3);have q4 : ∀ q : Wd wr,q.w.cell? ⟨b,o + kz * 6 + 4,none⟩ = some (.string pq.d):=fun q => (q.cell (hb')).trans (d4);have q5 : ∀ q : Wd wr,q.w.cell? ⟨b,o + kz * 6 + 5,none⟩ = some (.int .i64 pq.p):=fun q => (q.cell (hb')).trans (d5);have hne0:=Wd.ne wr;have HC0:=hidK (fun qw : Wd wr => (spair_any ⟨(some ⟨b1,o1,none⟩),l1,y1,a2,l2,y2,a3,l3,y3,a4,l4,y4,(some ⟨b,o,none⟩),l5,y5⟩ c pq p qa ql qc va vl vc qw.w (HR.out.below (HW.out.trans (qw.b.mono HW.out.size))) HX.out HV.out HNE.out (HTq.out.below qw.b) (HTp.out.below qw.b)).mono (fun _ _ h => BoolB.no h HPr.out));go_wp2_with fail;refine wp_region_wide (by kernel_rfl) (by kernel_rfl) ?_
         repeat (go_big_quiet_step (first | (go_at_call 132;exact Calls.wide (HC0.out _)) | fail))
         refine wpQuiet_nil ?_;rintro _ ⟨q9,rfl⟩;have HB1:=upB HW q9.b;have Ck:=upK Gk q9.b;have Cr:=upK Gr q9.b;clear hne0 HW HB HC0 k0 k1 k2 k3 k4 k5 r0 r1 r2 r3 r4 r5 q0 q1 q2 q3 q4 q5 Gk Gr Bk Br d0 d1 d2 d3 d4 d5;have HB:=HB1;clear HB1;have Bk:=Ck;clear Ck;have Br:=Cr;clear Cr
         go_wp2
         go_ret;exact BoolB.f (fun h => HPr.out ((h.1 k p HXp.out).2.2 kz pq hlt3 HXq.out)) HB.out
       ·obtain rfl : k = kz:=by omega
        go_wp2_with fail;refine ⟨⟨k + 1,by omega,by go_num,fun j z hj hz => ?_,HB.out,Bk.out⟩,by simp [intOf];omega⟩
        by_cases e : j = k
        ·subst e;rw [HXp.out] at hz;obtain rfl:=Option.some.inj hz;exact ⟨HPa.out,HQb.out,fun j2 q2 hj2 hq2 => HQ3.out j2 q2 hj2 hq2⟩
        ·exact HQ.out j z (by omega) hz
   ·have hq3:=tl_no hz1;have HZ0:=hidK hz0;have HZ1:=hidK hz1;clear hz0 hz1;have Gk:=Bk;have Gr:=Br;have HW:=HB;have k0:=fun q : Wd w1 => q.slot (o:=0) Gk.out rfl;obtain ⟨r0,r1,r2,r3,r4,r5⟩:=sl6 Gr;have nw:=fun q : Wd w1 => (q.cell hbn).trans n1;have hne0:=Wd.ne w1;go_wp2_with fail;refine wp_region_wide (by kernel_rfl) (by kernel_rfl) ?_
    repeat (go_big_quiet_step (first | fail))
    refine wpQuiet_nil ?_;rintro _ ⟨q0,rfl⟩;have HB2:=upB HW q0.b;have Ck:=upK Gk q0.b;have Cr:=upK Gr q0.b;have CHTp:=hidK ((HTp.out).below q0.b);clear hne0 HW HB k0 r0 r1 r2 r3 r4 r5 nw Gk Gr Bk Br HTp hbn n1;have HB:=HB2;clear HB2;have HTp:=CHTp;clear CHTp;have Bk:=Ck;clear Ck;have Br:=Cr;clear Cr
    go_wp2
    go_ret;refine BoolB.f (fun h => ?_) HB.out
    rcases (h.1 k p HXp.out).1 with h2 | ⟨i,n',h2,h3,h4⟩
    ·exact HEm.out h2
    ·obtain ⟨_,rfl⟩:=HNR.out.inj h2 HJn.out (h3.trans HNn.out.symm)
     rcases h4 with h4 | h4
     ·exact HZ0.out h4
     ·exact HZ1.out h4
  ·obtain rfl : l5 = k:=by omega
   have HQ1 : Hid (∀ (k : Nat) p,c.ps[k]? = some p → PS c k p):=fun j z hz => HQ.out j z (by have:=(List.getElem?_eq_some_iff.1 hz).1;omega) hz;clear HQ;have kc : wr.cell? ⟨w.heap.size,0,none⟩ = some (.slice a1 l1 y1):=cellK Bk.out 0
   go_wp2
   clear pk kc
   go_loopw [9] (fun i wr => ∃ k : Nat,k ≤ l1 ∧ i = .int .i64 k ∧ Hid (∀ (j : Nat) n,j < k → c.ns[j]? = some n → cpuOf n.n c.ps ≤ n.c) ∧ Hid (Below w.heap.size w wr) ∧ Hid (wr.heap[w.heap.size]? = some (.cells #[.slice a1 l1 y1,.slice a2 l2 y2,.slice a3 l3 y3,.slice a4 l4 y4,.slice a5 l5 y5,.int .i64 c.now] 40 (0,0)))) (fun i _ => l1 - (intOf i).toNat)
   case atStart => exact ⟨0,by omega,rfl,fun _ _ h => absurd h (by omega),HB.out,Bk.out⟩
   case round =>
    obtain ⟨k,hk,rfl,HQ,HB,Bk⟩:=hrel;have pk : wr.cell? ⟨w.heap.size,0,none⟩ = some (.slice a1 l1 y1):=cellK Bk.out 0
    by_cases hlt : k < l1
    ·obtain ⟨b,o,n,rfl,hb,hx,hat⟩:=nd_at (HR.out.n.below HB.out) hlt;obtain ⟨va,vl,vc,hvr,z0,z1,c0,c1,c2,c3,c4,c5,c6⟩:=nd_cells hat;have HXn:=hidK hx;have HTn:=hidK hvr;have HZn0:=hidK z0;have HZn1:=hidK z1;clear hat hx z0 z1 hvr;have Gk:=Bk;have HW:=HB;obtain ⟨k0,k1,k2,k3,k4,k5⟩:=sl6 Gk;have n0w:=fun q : Wd wr => (q.cell hb).trans c0;have n2w:=fun q : Wd wr => (q.cell hb).trans c2;have hne0:=Wd.ne wr;have HC0:=hidK (fun q : Wd wr => sused_any ⟨(some ⟨b,o,none⟩),l1,y1,a2,l2,y2,a3,l3,y3,a4,l4,y4,a5,l5,y5⟩ c.now c.ps n.n q.w (HR.out.p.below (HW.out.trans (q.b.mono HW.out.size))) HL5.out HPC.out);go_wp2_with fail;refine wp_region_wide (by kernel_rfl) (by kernel_rfl) ?_
     repeat (go_big_quiet_step (first | (go_at_call 133;exact Calls.wide (HC0.out _)) | fail))
     refine wpQuiet_nil ?_;rintro _ ⟨q1,rfl⟩;have HB1:=upB HW q1.b;have Ck:=upK Gk q1.b;clear hne0 HW HB HC0 k0 k1 k2 k3 k4 k5 n0w n2w Gk Bk pk c0 c1 c2 c3 c4 c5 c6 hb;have HB:=HB1;clear HB1;have Bk:=Ck;clear Ck
     by_cases hq : cpuOf n.n c.ps ≤ n.c
     ·have HCq:=hidK hq;go_wp2_with fail;refine ⟨⟨k + 1,by omega,by go_num,fun j z hj hz => ?_,HB.out,Bk.out⟩,by simp [intOf];omega⟩
      by_cases e : j = k
      ·subst e;rw [HXn.out] at hz;obtain rfl:=Option.some.inj hz;exact HCq.out
      ·exact HQ.out j z (by omega) hz
     ·have HCq:=hidK hq
      go_wp2
      go_ret;exact BoolB.f (fun h => by have h1 : cpuOf n.n c.ps ≤ n.c:=h.2 k n HXn.out;have h2:=HCq.out;omega) HB.out
    ·obtain rfl : l1 = k:=by omega
     go_wp2
     go_ret;exact BoolB.t ⟨HQ1.out,fun j n hz => HQ.out j n (by have:=(List.getElem?_eq_some_iff.1 hz).1;omega) hz⟩ HB.out

def AttachedS (c : Cl) : Prop:=(∀ (j : Nat) z,c.vs[j]? = some z → AQ1 c z) ∧ ∀ (j : Nat) n,c.ns[j]? = some n → onOf n.n c.vs ≤ n.s

theorem sattached_any (d : Ad) (c : Cl) (w : World) (hr : ClRow w d c.raw) (hn : RisBy Nd.n c.ns) (hvs8 : c.vs.length ≤ 8) :
  Calls Tryz.prog 82 #[.agg #[.slice d.a1 d.l1 d.c1,.slice d.a2 d.l2 d.c2,.slice d.a3 d.l3 d.c3,.slice d.a4 d.l4 d.c4,.slice d.a5 d.l5 d.c5,.int .i64 c.now]] w (BoolB (AttachedS c) w):=by
 obtain ⟨a1,l1,y1,a2,l2,y2,a3,l3,y3,a4,l4,y4,a5,l5,y5⟩:=d;dsimp only;have HR:=hidK hr
 have hl1 : c.ns.length = l1:=by simpa using (show (c.ns.map ndF).length = l1 from hr.n.1)
 have hm1 : l1 ≤ 9223372036854775807:=Nat.le_trans hr.n.2.1 hr.n.2.2.1
 have hl2 : c.ks.length = l2:=by simpa using (show (c.ks.map kdF).length = l2 from hr.k.1)
 have hm2 : l2 ≤ 9223372036854775807:=Nat.le_trans hr.k.2.1 hr.k.2.2.1
 have hl3 : c.vs.length = l3:=by simpa using (show (c.vs.map vdF).length = l3 from hr.v.1)
 have hm3 : l3 ≤ 9223372036854775807:=Nat.le_trans hr.v.2.1 hr.v.2.2.1
 have hl4 : c.xs.length = l4:=by simpa using (show (c.xs.map xdF).length = l4 from hr.x.1)
 have hm4 : l4 ≤ 9223372036854775807:=Nat.le_trans hr.x.2.1 hr.x.2.2.1
 have hl5 : c.ps.length = l5:=by simpa using (show (c.ps.map pdF).length = l5 from hr.p.1)
 have hm5 : l5 ≤ 9223372036854775807:=Nat.le_trans hr.p.2.1 hr.p.2.2.1;clear hr;have HNR:=hidK hn;have HL3:=hidK hvs8;clear hn hvs8
 go_enter Tryz.func82,Tryz.ntmps82
 go_wp2
 go_loopw [3] (fun i wr => ∃ k : Nat,k ≤ l3 ∧ i = .int .i64 k ∧ Hid (∀ (j : Nat) z,j < k → c.vs[j]? = some z → AQ1 c z) ∧ Hid (Below w.heap.size w wr) ∧ Hid (wr.heap[w.heap.size]? = some (.cells #[.slice a1 l1 y1,.slice a2 l2 y2,.slice a3 l3 y3,.slice a4 l4 y4,.slice a5 l5 y5,.int .i64 c.now] 40 (0,0)))) (fun i _ => l3 - (intOf i).toNat)
 case atStart => exact ⟨0,by omega,rfl,fun _ _ h => absurd h (by omega),below1 _ _,Array.getElem?_push_size⟩
 case round =>
  obtain ⟨k,hk,rfl,HQ,HB,Bk⟩:=hrel;have pk : wr.cell? ⟨w.heap.size,2,none⟩ = some (.slice a3 l3 y3):=cellK Bk.out 2;have pkl : w.heap.size < wr.heap.size:=lt_of_some Bk.out
  by_cases hlt : k < l3
  ·obtain ⟨b,o,v,rfl,hb,hx,hat⟩:=vd_at (HR.out.v.below HB.out) hlt;obtain ⟨va,vl,vc,hvr,z0,z2,z3,z5,c0,c1,c2,c3,c4,c5,c6,c7⟩:=vd_cells hat;have HXv:=hidK hx;have HTv:=hidK hvr;have HZv0:=hidK z0;have HZv2:=hidK z2;have HZv3:=hidK z3;have HZv5:=hidK z5;clear hat hx z0 z2 z3 z5 hvr;have hvl : v.zs.length = vl:=HTv.out.1;have hvc : vl ≤ 9223372036854775807:=Nat.le_trans HTv.out.2.1 HTv.out.2.2.1;have HVL:=hidK hvl;clear hvl;have KV : Hid ((wr.alloc (.cells #[.string v.n,.int .i64 v.c,.string v.z,.string v.k,.bool v.x,.string v.m,.bool v.y,.slice va vl vc] 45)).heap[w.heap.size]? = some (.cells #[.slice a1 l1 y1,.slice a2 l2 y2,.slice (some ⟨b,o,none⟩) l3 y3,.slice a4 l4 y4,.slice a5 l5 y5,.int .i64 c.now] 40 (0,0))):=(Below.heap_alloc wr (.cells #[.string v.n,.int .i64 v.c,.string v.z,.string v.k,.bool v.x,.string v.m,.bool v.y,.slice va vl vc] 45) _ (lt_of_some Bk.out)).trans Bk.out;have GV : Hid ((wr.alloc (.cells #[.string v.n,.int .i64 v.c,.string v.z,.string v.k,.bool v.x,.string v.m,.bool v.y,.slice va vl vc] 45)).heap[wr.heap.size]? = some (.cells #[.string v.n,.int .i64 v.c,.string v.z,.string v.k,.bool v.x,.string v.m,.bool v.y,.slice va vl vc] 45 (0,0))):=Array.getElem?_push_size;have BV:=hidK (HB.out.trans ((below1 wr (.cells #[.string v.n,.int .i64 v.c,.string v.z,.string v.k,.bool v.x,.string v.m,.bool v.y,.slice va vl vc] 45)).mono HB.out.size));have TT:=hidK (HTv.out.below (below1 wr (.cells #[.string v.n,.int .i64 v.c,.string v.z,.string v.k,.bool v.x,.string v.m,.bool v.y,.slice va vl vc] 45)));obtain ⟨W,hW⟩ : ∃ W,W = wr.alloc (.cells #[.string v.n,.int .i64 v.c,.string v.z,.string v.k,.bool v.x,.string v.m,.bool v.y,.slice va vl vc] 45):=⟨_,rfl⟩;obtain ⟨gb,hgb⟩ : ∃ gb,gb = wr.heap.size:=⟨_,rfl⟩;rw [← hW] at KV GV BV TT;rw [← hgb] at GV
   go_wp2
   rw [← hW,← hgb];clear hW hgb HB Bk HTv c0 c1 c2 c3 c4 c5 c6 c7 hb pk pkl
   go_loopw [5] (fun i wr => ∃ kq : Nat,kq ≤ vl ∧ i = .int .i64 kq ∧ Hid (∀ (j : Nat) t,j < kq → v.zs[j]? = some t → ∃ (i : Nat) (n : Nd),c.ns[i]? = some n ∧ n.n = t ∧ n.z = v.z) ∧ Hid (Below W.heap.size W wr)) (fun i _ => vl - (intOf i).toNat)
   case atStart => exact ⟨0,by omega,rfl,fun _ _ h => absurd h (by omega),Below.refl _ _⟩
   case round =>
    obtain ⟨kq,hkq,rfl,HQ2,HBW⟩:=hrel;have HB:=hidK (BV.out.trans (HBW.out.mono BV.out.size));have Bk:=upK KV HBW.out;have Bv:=upK GV HBW.out;have pv : wr.cell? ⟨gb,7,none⟩ = some (.slice va vl vc):=cellK Bv.out 7
    by_cases hlt2 : kq < vl
    ·obtain ⟨b2,o2,t,rfl,hb,hx,hc,hsz⟩:=(TT.out.below HBW.out).at hlt2;have HXt:=hidK hx;clear hx hsz
     by_cases hnn : ∃ (i : Nat) (n : Nd),c.ns[i]? = some n ∧ n.n = t
     rotate_left
     ·have HH:=hidK hnn;clear hnn;have Gk:=Bk;have Gv:=Bv;have HW:=HB;have k0:=fun q : Wd wr => q.slot (o:=0) Gk.out rfl;have k1:=fun q : Wd wr => q.slot (o:=1) Gk.out rfl;have k2:=fun q : Wd wr => q.slot (o:=2) Gk.out rfl;have k3:=fun q : Wd wr => q.slot (o:=3) Gk.out rfl;have k4:=fun q : Wd wr => q.slot (o:=4) Gk.out rfl;have k5:=fun q : Wd wr => q.slot (o:=5) Gk.out rfl;have v7:=fun q : Wd wr => q.slot (o:=7) Gv.out rfl;have tw:=fun q : Wd wr => (q.cell hb).trans hc;have hne0:=Wd.ne wr;have HC0:=hidK (fun q : Wd wr => sxnd_miss ⟨a1,l1,y1,a2,l2,y2,(some ⟨b,o,none⟩),l3,y3,a4,l4,y4,a5,l5,y5⟩ c.now c.ns t q.w (HR.out.n.below (HW.out.trans (q.b.mono HW.out.size))) (fun i n h1 h2 => HH.out ⟨i,n,h1,h2⟩));go_wp2_with fail;refine wp_region_wide (by kernel_rfl) (by kernel_rfl) ?_
      repeat (go_big_quiet_step (first | (go_at_call 130;exact Calls.wide (HC0.out _)) | fail))
      refine wpQuiet_nil ?_;rintro _ ⟨q1,rfl⟩;have HB1:=upB HW q1.b;have Ck:=upK Gk q1.b;have Cv:=upK Gv q1.b;clear hne0 HW HB HC0 k0 k1 k2 k3 k4 k5 v7 tw Gk Gv Bk Bv pv;have HB:=HB1;clear HB1;have Bk:=Ck;clear Ck;have Bv:=Cv;clear Cv;have Gk:=Bk;have Gv:=Bv;have HW:=HB;have k0:=fun q : Wd q1.w => q.slot (o:=0) Gk.out rfl;obtain ⟨v0,v1,v2,v3,v4,v5,v6,v7⟩:=sl8 Gv;have hne0:=Wd.ne q1.w;go_wp2_with fail;refine wp_region_wide (by kernel_rfl) (by kernel_rfl) ?_
      repeat (go_big_quiet_step (first | fail))
      refine wpQuiet_nil ?_;rintro _ ⟨q2,rfl⟩;have HB2:=upB HW q2.b;have Ck:=upK Gk q2.b;have Cv:=upK Gv q2.b;clear hne0 HW HB k0 v0 v1 v2 v3 v4 v5 v6 v7 Gk Gv Bk Bv;have HB:=HB2;clear HB2;have Bk:=Ck;clear Ck;have Bv:=Cv;clear Cv
      go_wp2
      go_ret;refine BoolB.f (fun h => ?_) HB.out;obtain ⟨i,n,h2,h3,_⟩:=(h.1 k v HXv.out) kq t HXt.out;exact HH.out ⟨i,n,h2,h3⟩
     obtain ⟨j1,n,h1,h2⟩:=hnn
     have hl1' : j1 < l1:=by have h3:=(List.getElem?_eq_some_iff.1 h1).1;omega
     obtain ⟨b1,o1,n',rfl,hb1n,hn',hat⟩:=nd_at HR.out.n hl1';rw [h1] at hn';obtain rfl:=Option.some.inj hn';obtain ⟨na,nl,nc,hnr,z0,z1,d0,d1,d2,d3,d4,d5,d6⟩:=nd_cells hat;have HJn:=hidK h1;have HNn:=hidK h2;have HCn:=hidK d1;have HBn:=hidK hb1n
     have hj11 : decide ((j1 : Int) < 0) = false:=by simp
     clear hn' hat hnr z0 z1 d0 d1 d2 d3 d4 d5 d6 h1 h2 hb1n;have Gk:=Bk;have Gv:=Bv;have HW:=HB;obtain ⟨k0,k1,k2,k3,k4,k5⟩:=sl6 Gk;have v7:=fun q : Wd wr => q.slot (o:=7) Gv.out rfl;have tw:=fun q : Wd wr => (q.cell hb).trans hc;have hne0:=Wd.ne wr;have HC0:=hidK (fun q : Wd wr => sxnd_hit ⟨(some ⟨b1,o1,none⟩),l1,y1,a2,l2,y2,(some ⟨b,o,none⟩),l3,y3,a4,l4,y4,a5,l5,y5⟩ c.now c.ns t q.w (HR.out.n.below (HW.out.trans (q.b.mono HW.out.size))) HNR.out HJn.out HNn.out);go_wp2_with fail;refine wp_region_wide (by kernel_rfl) (by kernel_rfl) ?_
     repeat (go_big_quiet_step (first | (go_at_call 130;exact Calls.wide (HC0.out _)) | fail))
     refine wpQuiet_nil ?_;rintro _ ⟨q1,rfl⟩;have HB1:=upB HW q1.b;have Ck:=upK Gk q1.b;have Cv:=upK Gv q1.b;clear hne0 HW HB HC0 k0 k1 k2 k3 k4 k5 v7 tw Gk Gv Bk Bv pv hb hc;have HB:=HB1;clear HB1;have Bk:=Ck;clear Ck;have Bv:=Cv;clear Cv;have HBW1:=upB HBW q1.b;have hbn : b1 < q1.w.heap.size:=Nat.lt_of_lt_of_le HBn.out HB.out.size;have n1:=(cell_below HB.out HBn.out).trans HCn.out;clear HBW
     by_cases hz : n.z = v.z
     ·have q8:=tl_yes hz;have HZ:=hidK hz;clear hz;have Gk:=Bk;have Gv:=Bv;have HW:=HB;have k0:=fun q : Wd q1.w => q.slot (o:=0) Gk.out rfl;obtain ⟨v0,v1,v2,v3,v4,v5,v6,v7⟩:=sl8 Gv;have nw:=fun q : Wd q1.w => (q.cell hbn).trans n1;have hne0:=Wd.ne q1.w;go_wp2_with fail;refine wp_region_wide (by kernel_rfl) (by kernel_rfl) ?_
      repeat (go_big_quiet_step (first | fail))
      refine wpQuiet_nil ?_;rintro _ ⟨q2,rfl⟩;have HB2:=upB HW q2.b;have Ck:=upK Gk q2.b;have Cv:=upK Gv q2.b;clear hne0 HW HB k0 v0 v1 v2 v3 v4 v5 v6 v7 nw Gk Gv Bk Bv hbn n1;have HB:=HB2;clear HB2;have Bk:=Ck;clear Ck;have Bv:=Cv;clear Cv;clear q8;go_wp2_with fail;refine ⟨⟨kq + 1,by omega,by go_num,fun j s hj hs => ?_,HBW1.out.trans (q2.b.mono HBW1.out.size)⟩,by simp [intOf];omega⟩
      by_cases e : j = kq
      ·subst e;rw [HXt.out] at hs;obtain rfl:=Option.some.inj hs;exact ⟨j1,n,HJn.out,HNn.out,HZ.out⟩
      ·exact HQ2.out j s (by omega) hs
     ·have q8:=tl_no hz;have HZ:=hidK hz;clear hz;have Gk:=Bk;have Gv:=Bv;have HW:=HB;have k0:=fun q : Wd q1.w => q.slot (o:=0) Gk.out rfl;obtain ⟨v0,v1,v2,v3,v4,v5,v6,v7⟩:=sl8 Gv;have nw:=fun q : Wd q1.w => (q.cell hbn).trans n1;have hne0:=Wd.ne q1.w;go_wp2_with fail;refine wp_region_wide (by kernel_rfl) (by kernel_rfl) ?_
      repeat (go_big_quiet_step (first | fail))
      refine wpQuiet_nil ?_;rintro _ ⟨q2,rfl⟩;have HB2:=upB HW q2.b;have Ck:=upK Gk q2.b;have Cv:=upK Gv q2.b;clear hne0 HW HB k0 v0 v1 v2 v3 v4 v5 v6 v7 nw Gk Gv Bk Bv hbn n1;have HB:=HB2;clear HB2;have Bk:=Ck;clear Ck;have Bv:=Cv;clear Cv
      go_wp2
      go_ret;refine BoolB.f (fun h => ?_) HB.out;obtain ⟨i,m2,e1,e2,e3⟩:=(h.1 k v HXv.out) kq t HXt.out;obtain ⟨_,rfl⟩:=HNR.out.inj e1 HJn.out (e2.trans HNn.out.symm);exact HZ.out e3
    ·obtain rfl : vl = kq:=by omega
     go_wp2_with fail;refine ⟨⟨k + 1,by omega,by go_num,fun j z hj hz => ?_,HB.out,Bk.out⟩,by simp [intOf];omega⟩
     by_cases e : j = k
     ·subst e;rw [HXv.out] at hz;obtain rfl:=Option.some.inj hz;exact fun j s hs => HQ2.out j s (by have h1:=(List.getElem?_eq_some_iff.1 hs).1;have h2:=HVL.out;omega) hs
     ·exact HQ.out j z (by omega) hz
  ·obtain rfl : l3 = k:=by omega
   have HQ1 : Hid (∀ (j : Nat) z,c.vs[j]? = some z → AQ1 c z):=fun j z hz => HQ.out j z (by have:=(List.getElem?_eq_some_iff.1 hz).1;omega) hz;clear HQ;have kc : wr.cell? ⟨w.heap.size,0,none⟩ = some (.slice a1 l1 y1):=cellK Bk.out 0
   go_wp2
   clear pk kc
   go_loopw [7] (fun i wr => ∃ k : Nat,k ≤ l1 ∧ i = .int .i64 k ∧ Hid (∀ (j : Nat) n,j < k → c.ns[j]? = some n → onOf n.n c.vs ≤ n.s) ∧ Hid (Below w.heap.size w wr) ∧ Hid (wr.heap[w.heap.size]? = some (.cells #[.slice a1 l1 y1,.slice a2 l2 y2,.slice a3 l3 y3,.slice a4 l4 y4,.slice a5 l5 y5,.int .i64 c.now] 40 (0,0)))) (fun i _ => l1 - (intOf i).toNat)
   case atStart => exact ⟨0,by omega,rfl,fun _ _ h => absurd h (by omega),HB.out,Bk.out⟩
   case round =>
    obtain ⟨k,hk,rfl,HQ,HB,Bk⟩:=hrel;have pk : wr.cell? ⟨w.heap.size,0,none⟩ = some (.slice a1 l1 y1):=cellK Bk.out 0
    by_cases hlt : k < l1
    ·obtain ⟨b,o,n,rfl,hb,hx,hat⟩:=nd_at (HR.out.n.below HB.out) hlt;obtain ⟨va,vl,vc,hvr,z0,z1,c0,c1,c2,c3,c4,c5,c6⟩:=nd_cells hat;have HXn:=hidK hx;have HTn:=hidK hvr;have HZn0:=hidK z0;have HZn1:=hidK z1;clear hat hx z0 z1 hvr;have Gk:=Bk;have HW:=HB;obtain ⟨k0,k1,k2,k3,k4,k5⟩:=sl6 Gk;have n0w:=fun q : Wd wr => (q.cell hb).trans c0;have n2w:=fun q : Wd wr => (q.cell hb).trans c3;have hne0:=Wd.ne wr;have HC0:=hidK (fun q : Wd wr => son_any ⟨(some ⟨b,o,none⟩),l1,y1,a2,l2,y2,a3,l3,y3,a4,l4,y4,a5,l5,y5⟩ c.now c.vs n.n q.w (HR.out.v.below (HW.out.trans (q.b.mono HW.out.size))) HL3.out);go_wp2_with fail;refine wp_region_wide (by kernel_rfl) (by kernel_rfl) ?_
     repeat (go_big_quiet_step (first | (go_at_call 134;exact Calls.wide (HC0.out _)) | fail))
     refine wpQuiet_nil ?_;rintro _ ⟨q1,rfl⟩;have HB1:=upB HW q1.b;have Ck:=upK Gk q1.b;clear hne0 HW HB HC0 k0 k1 k2 k3 k4 k5 n0w n2w Gk Bk pk c0 c1 c2 c3 c4 c5 c6 hb;have HB:=HB1;clear HB1;have Bk:=Ck;clear Ck
     by_cases hq : onOf n.n c.vs ≤ n.s
     ·have HCq:=hidK hq;go_wp2_with fail;refine ⟨⟨k + 1,by omega,by go_num,fun j z hj hz => ?_,HB.out,Bk.out⟩,by simp [intOf];omega⟩
      by_cases e : j = k
      ·subst e;rw [HXn.out] at hz;obtain rfl:=Option.some.inj hz;exact HCq.out
      ·exact HQ.out j z (by omega) hz
     ·have HCq:=hidK hq
      go_wp2
      go_ret;exact BoolB.f (fun h => by have h1 : onOf n.n c.vs ≤ n.s:=h.2 k n HXn.out;have h2:=HCq.out;omega) HB.out
    ·obtain rfl : l1 = k:=by omega
     go_wp2
     go_ret;exact BoolB.t ⟨HQ1.out,fun j n hz => HQ.out j n (by have:=(List.getElem?_eq_some_iff.1 hz).1;omega) hz⟩ HB.out

def FreshN (W : World) : Fact:=fun v w => ∃ g,v = .pointer (some ⟨g,0,none⟩) ∧ W.heap.size ≤ g ∧ w.heap[g]? = some (.cells #[.string ⟨#[]⟩,.string ⟨#[]⟩,.int .i64 0,.int .i64 0,.int .i64 0,.bool false,.slice none 0 0] 120 (0,0))
theorem FreshN.mono (W : World) : Fact.Mono (FreshN W):=by
 rintro v w w' ⟨g,h1,h2,h3⟩ hb;exact ⟨g,h1,h2,(hb.block g (lt_of_some h3)).trans h3⟩
theorem put7N {w : World} {g : Nat} {v0 v1 v2 v3 v4 v5 v6 : Value} (h : w.heap[g]? = some (.cells #[.string ⟨#[]⟩,.string ⟨#[]⟩,.int .i64 0,.int .i64 0,.int .i64 0,.bool false,.slice none 0 0] 120 (0,0))) :
  (((((((w.setCell ⟨g,0,none⟩ (v0)).setCell ⟨g,1,none⟩ (v1)).setCell ⟨g,2,none⟩ (v2)).setCell ⟨g,3,none⟩ (v3)).setCell ⟨g,4,none⟩ (v4)).setCell ⟨g,5,none⟩ (v5)).setCell ⟨g,6,none⟩ (v6)).heap[g]? = some (.cells #[v0,v1,v2,v3,v4,v5,v6] 120 (0,0)):=by
 have:=block_set (i:=6) (block_set (i:=5) (block_set (i:=4) (block_set (i:=3) (block_set (i:=2) (block_set (i:=1) (block_set (i:=0) h v0) v1) v2) v3) v4) v5) v6
 simpa using this
theorem set_below7 {W w : World} {g : Nat} {v0 v1 v2 v3 v4 v5 v6 : Value} (hg : W.heap.size ≤ g) (h : Below W.heap.size W w) : Below W.heap.size W (((((((w.setCell ⟨g,0,none⟩ (v0)).setCell ⟨g,1,none⟩ (v1)).setCell ⟨g,2,none⟩ (v2)).setCell ⟨g,3,none⟩ (v3)).setCell ⟨g,4,none⟩ (v4)).setCell ⟨g,5,none⟩ (v5)).setCell ⟨g,6,none⟩ (v6)) :=
 set_below hg (set_below hg (set_below hg (set_below hg (set_below hg (set_below hg (set_below hg h))))))
def AllS (c : Cl) (p : Pd) (n : Nd) : Prop:=∀ (j : Nat) t,p.zs[j]? = some t → ∃ v,IsBd c t v ∧ InL n.zs v.n

theorem sall_any (d : Ad) (c : Cl) (p : Pd) (pa : Option Addr) (pl pc : Nat) (j1 : Nat) (n : Nd) (w : World) (hr : ClRow w d c.raw) (hn : RisBy Nd.n c.ns) (hx : RisBy Xd.n c.xs) (hv : RisBy Vd.n c.vs) (hne : ∀ (j : Nat) v,c.vs[j]? = some v → ¬ v.n = ⟨#[]⟩) (hp : TxRow w pa pl pc p.zs) (hj1 : c.ns[j1]? = some n) (hnn : n.n = p.d) (hbd : ∀ (j : Nat) t,p.zs[j]? = some t → ∃ v,IsBd c t v) :
  Calls Tryz.prog 136 #[.agg #[.slice d.a1 d.l1 d.c1,.slice d.a2 d.l2 d.c2,.slice d.a3 d.l3 d.c3,.slice d.a4 d.l4 d.c4,.slice d.a5 d.l5 d.c5,.int .i64 c.now],.agg #[.string p.n,.int .i64 p.c,.string p.z,.slice pa pl pc,.string p.d,.int .i64 p.p]] w (BoolB (AllS c p n) w):=by
 obtain ⟨a1,l1,y1,a2,l2,y2,a3,l3,y3,a4,l4,y4,a5,l5,y5⟩:=d;dsimp only;have HR:=hidK hr
 have hl1 : c.ns.length = l1:=by simpa using (show (c.ns.map ndF).length = l1 from hr.n.1)
 have hm1 : l1 ≤ 9223372036854775807:=Nat.le_trans hr.n.2.1 hr.n.2.2.1
 have hl2 : c.ks.length = l2:=by simpa using (show (c.ks.map kdF).length = l2 from hr.k.1)
 have hm2 : l2 ≤ 9223372036854775807:=Nat.le_trans hr.k.2.1 hr.k.2.2.1
 have hl3 : c.vs.length = l3:=by simpa using (show (c.vs.map vdF).length = l3 from hr.v.1)
 have hm3 : l3 ≤ 9223372036854775807:=Nat.le_trans hr.v.2.1 hr.v.2.2.1
 have hl4 : c.xs.length = l4:=by simpa using (show (c.xs.map xdF).length = l4 from hr.x.1)
 have hm4 : l4 ≤ 9223372036854775807:=Nat.le_trans hr.x.2.1 hr.x.2.2.1
 have hl5 : c.ps.length = l5:=by simpa using (show (c.ps.map pdF).length = l5 from hr.p.1)
 have hm5 : l5 ≤ 9223372036854775807:=Nat.le_trans hr.p.2.1 hr.p.2.2.1;clear hr;have HNR:=hidK hn;have HX:=hidK hx;have HV:=hidK hv;have HNE:=hidK hne;have HP:=hidK hp;have HBD:=hidK hbd;have hlc : pl ≤ 9223372036854775807:=Nat.le_trans hp.2.1 hp.2.2.1;have hzl : p.zs.length = pl:=hp.1
 have hl1' : j1 < l1:=by have h3:=(List.getElem?_eq_some_iff.1 hj1).1;omega
 obtain ⟨b1,o1,n',rfl,hb1n,hn',hat⟩:=nd_at HR.out.n hl1';rw [hj1] at hn';obtain rfl:=Option.some.inj hn';obtain ⟨na,nl,nc,hnr,z0,z1,d0,d1,d2,d3,d4,d5,d6⟩:=nd_cells hat;have HJn:=hidK hj1;have HNn:=hidK hnn;have HTn:=hidK hnr;have HBn:=hidK hb1n;have HD : Hid (w.cell? ⟨b1,o1 + j1 * 7,none⟩ = some (.string n.n) ∧ w.cell? ⟨b1,o1 + j1 * 7 + 1,none⟩ = some (.string n.z) ∧ w.cell? ⟨b1,o1 + j1 * 7 + 2,none⟩ = some (.int .i64 n.c) ∧ w.cell? ⟨b1,o1 + j1 * 7 + 3,none⟩ = some (.int .i64 n.s) ∧ w.cell? ⟨b1,o1 + j1 * 7 + 4,none⟩ = some (.int .i64 n.u) ∧ w.cell? ⟨b1,o1 + j1 * 7 + 5,none⟩ = some (.bool n.d) ∧ w.cell? ⟨b1,o1 + j1 * 7 + 6,none⟩ = some (.slice na nl nc)):=⟨d0,d1,d2,d3,d4,d5,d6⟩;clear hn' hat hnr z0 z1 d0 d1 d2 d3 d4 d5 d6 hj1 hnn hb1n hn hx hv hne hp hbd;obtain ⟨W,hW0⟩ : ∃ W,W = (w.alloc (.cells #[.slice (some ⟨b1,o1,none⟩) l1 y1,.slice a2 l2 y2,.slice a3 l3 y3,.slice a4 l4 y4,.slice a5 l5 y5,.int .i64 c.now] 40)).alloc (.cells #[.string p.n,.int .i64 p.c,.string p.z,.slice pa pl pc,.string p.d,.int .i64 p.p] 58):=⟨_,rfl⟩
 have GK : Hid (W.heap[w.heap.size]? = some (.cells #[.slice (some ⟨b1,o1,none⟩) l1 y1,.slice a2 l2 y2,.slice a3 l3 y3,.slice a4 l4 y4,.slice a5 l5 y5,.int .i64 c.now] 40 (0,0))):=by rw [hW0];exact heap2_0 _ _ _
 have GP : Hid (W.heap[w.heap.size + 1]? = some (.cells #[.string p.n,.int .i64 p.c,.string p.z,.slice pa pl pc,.string p.d,.int .i64 p.p] 58 (0,0))):=by rw [hW0];exact heap2_1 _ _ _
 have BW : Hid (Below w.heap.size w W):=by rw [hW0];exact below2 _ _ _
 go_enter Tryz.func136,Tryz.ntmps136
 go_wp2_with fail;rw [← hW0];clear hW0;rename_i K0 hK0;refine wp_region_grow_last (by kernel_rfl) rfl rfl (by kernel_rfl) ?_;refine' Grow.stepC _ rfl ?_ ?_;rotate_left 1
 ·refine Obl.plain rfl ?_;intro ac wg K hsz hW hf hK;clear hsz;have e2:=hf 2 (by decide)
  simp [slotFact,List.lookup] at e2
  clear hf;go_simp;refine hK _ _ (Below.refl _ _) ?_;with_reducible rfl
 refine' Grow.stepC _ rfl ?_ ?_;rotate_left 1
 ·refine Obl.plain rfl ?_;intro ac wg K hsz hW hf hK;clear hsz;have e7:=hf 7 (by decide)
  simp [slotFact,List.lookup] at e7
  clear hf;obtain ⟨k0,k1,k2,k3,k4,k5⟩:=cs6 ((hW.block _ (lt_of_some GK.out)).trans GK.out);go_simp;refine hK _ _ (Below.refl _ _) ?_;with_reducible rfl
 refine' Grow.stepC _ rfl ?_ ?_;rotate_left 1
 ·refine Obl.plain rfl ?_;intro ac wg K hsz hW hf hK;clear hsz;have e2:=hf 2 (by decide)
  simp [slotFact,List.lookup] at e2
  clear hf;obtain ⟨k0,k1,k2,k3,k4,k5⟩:=cs6 ((hW.block _ (lt_of_some GK.out)).trans GK.out);go_simp;refine hK _ _ (Below.refl _ _) ?_;with_reducible rfl
 refine' Grow.stepC _ rfl ?_ ?_;rotate_left 1
 ·refine Obl.plain rfl ?_;intro ac wg K hsz hW hf hK;clear hsz;have e3:=hf 3 (by decide)
  simp [slotFact,List.lookup] at e3
  clear hf;go_simp;refine hK _ _ (Below.refl _ _) ?_;with_reducible rfl
 refine' Grow.stepC _ rfl ?_ ?_;rotate_left 1
 ·refine Obl.plain rfl ?_;intro ac wg K hsz hW hf hK;clear hsz;have e10:=hf 10 (by decide)
  simp [slotFact,List.lookup] at e10
  clear hf;obtain ⟨r0,r1,r2,r3,r4,r5⟩:=cs6 ((hW.block _ (lt_of_some GP.out)).trans GP.out);go_simp;refine hK _ _ (Below.refl _ _) ?_;with_reducible rfl
 refine' Grow.stepC (.int .i64 j1) rfl ?_ ?_
 ·refine Obl.plain rfl ?_;intro ac wg K hsz hW hf hK;clear hsz;have e9:=hf 9 (by decide)
  simp [slotFact,List.lookup] at e9
  have e11:=hf 11 (by decide)
  simp [slotFact,List.lookup] at e11
  clear hf;go_simp;refine (sxnd_hit ⟨(some ⟨b1,o1,none⟩),l1,y1,a2,l2,y2,a3,l3,y3,a4,l4,y4,a5,l5,y5⟩ c.now c.ns p.d _ (HR.out.n.below (BW.out.trans (hW.mono BW.out.size))) HNR.out HJn.out HNn.out).mono ?_;rintro e w5 ⟨rfl,hb5⟩;exact hK _ _ hb5 rfl
 refine' Grow.stepC _ rfl ?_ ?_;rotate_left 1
 ·refine Obl.plain rfl ?_;intro ac wg K hsz hW hf hK;clear hsz;have e8:=hf 8 (by decide)
  simp [slotFact,List.lookup] at e8
  have e12:=hf 12 (by decide)
  simp [slotFact,List.lookup] at e12
  clear hf;go_simp;refine hK _ _ (Below.refl _ _) ?_;with_reducible rfl
 refine' Grow.stepC _ rfl ?_ ?_;rotate_left 1
 ·refine Obl.plain rfl ?_;intro ac wg K hsz hW hf hK;clear hsz;have e13:=hf 13 (by decide)
  simp [slotFact,List.lookup] at e13
  clear hf;have hBg:=BW.out.trans (hW.mono BW.out.size);obtain ⟨d0,d1,d2,d3,d4,d5,d6⟩:=HD.out;have g0:=(cell_below hBg HBn.out).trans d0;have g1:=(cell_below hBg HBn.out).trans d1;have g2:=(cell_below hBg HBn.out).trans d2;have g3:=(cell_below hBg HBn.out).trans d3;have g4:=(cell_below hBg HBn.out).trans d4;have g5:=(cell_below hBg HBn.out).trans d5;have g6:=(cell_below hBg HBn.out).trans d6;clear d0 d1 d2 d3 d4 d5 d6 hBg;go_simp;refine hK _ _ (Below.refl _ _) ?_;with_reducible rfl
 refine Grow.step (FreshN W) rfl (FreshN.mono W) ?_ ?_
 ·refine Obl.plain rfl ?_;intro ac wg K hsz hW hf hK;clear hsz;clear hf;go_simp;exact hK _ _ (below1 _ _) ⟨_,rfl,hW.size,Array.getElem?_push_size⟩
 refine Grow.done ?_;intro q wz hW hf;simp only [List.forall_mem_cons] at hf;obtain ⟨⟨g5,h5,hbW,hgb⟩,h14,-⟩:=hf;have r0 : wz.cell? ⟨g5,0,none⟩ = some (.string ⟨#[]⟩):=cellK hgb 0;have r1 : wz.cell? ⟨g5,1,none⟩ = some (.string ⟨#[]⟩):=cellK hgb 1;have r2 : wz.cell? ⟨g5,2,none⟩ = some (.int .i64 0):=cellK hgb 2;have r3 : wz.cell? ⟨g5,3,none⟩ = some (.int .i64 0):=cellK hgb 3;have r4 : wz.cell? ⟨g5,4,none⟩ = some (.int .i64 0):=cellK hgb 4;have r5 : wz.cell? ⟨g5,5,none⟩ = some (.bool false):=cellK hgb 5;have r6 : wz.cell? ⟨g5,6,none⟩ = some (.slice none 0 0):=cellK hgb 6;have f0:=froK hgb 0;have f1:=froK hgb 1;have f2:=froK hgb 2;have f3:=froK hgb 3;have f4:=froK hgb 4;have f5:=froK hgb 5;have f6:=froK hgb 6;have GN:=hidK (put7N (v0:=.string n.n) (v1:=.string n.z) (v2:=.int .i64 n.c) (v3:=.int .i64 n.s) (v4:=.int .i64 n.u) (v5:=.bool n.d) (v6:=.slice na nl nc) hgb);have BN:=hidK (set_below7 (v0:=.string n.n) (v1:=.string n.z) (v2:=.int .i64 n.c) (v3:=.int .i64 n.s) (v4:=.int .i64 n.u) (v5:=.bool n.d) (v6:=.slice na nl nc) hbW hW);clear hgb hW;intro K hK;rw [if_pos (by rfl)];simp only [putsAll,List.foldr,Act.put,List.setIfInBounds_toArray,List.set_cons_zero,List.set_cons_succ,h5,h14];simp only [List.getLast];go_simp;refine hK _ _ ?_;refine hK0 _ _ ?_;clear hK hK0 K K0
 generalize (((((((wz.setCell ⟨g5,0,none⟩ (.string n.n)).setCell ⟨g5,1,none⟩ (.string n.z)).setCell ⟨g5,2,none⟩ (.int .i64 n.c)).setCell ⟨g5,3,none⟩ (.int .i64 n.s)).setCell ⟨g5,4,none⟩ (.int .i64 n.u)).setCell ⟨g5,5,none⟩ (.bool n.d)).setCell ⟨g5,6,none⟩ (.slice na nl nc)) = Y at GN BN ⊢
 clear r0 f0 r1 f1 r2 f2 r3 f3 r4 f4 r5 f5 r6 f6;have KV:=upK GK BN.out;have PVv:=upK GP BN.out;have BV:=hidK (BW.out.trans (BN.out.mono BW.out.size));clear GK GP BW BN hbW;have pp : Y.cell? ⟨w.heap.size + 1,3,none⟩ = some (.slice pa pl pc):=cellK PVv.out 3
 go_wp2
 clear pp
 go_loopw [6] (fun i wr => ∃ k : Nat,k ≤ pl ∧ i = .int .i64 k ∧ Hid (∀ (j : Nat) t,j < k → p.zs[j]? = some t → ∃ v,IsBd c t v ∧ InL n.zs v.n) ∧ Hid (Below Y.heap.size Y wr)) (fun i _ => pl - (intOf i).toNat)
 case atStart => exact ⟨0,by omega,rfl,fun _ _ h => absurd h (by omega),Below.refl _ _⟩
 case round =>
  obtain ⟨k,hk,rfl,HQ,HBY⟩:=hrel;have HB:=hidK (BV.out.trans (HBY.out.mono BV.out.size));have Bk:=upK KV HBY.out;have Bp:=upK PVv HBY.out;have Bn:=upK GN HBY.out;have pp : wr.cell? ⟨w.heap.size + 1,3,none⟩ = some (.slice pa pl pc):=cellK Bp.out 3
  by_cases hlt : k < pl
  ·obtain ⟨b,o,t,rfl,hb,hxt,hc,hsz⟩:=(HP.out.below HB.out).at hlt;have HXt:=hidK hxt;clear hxt hsz;obtain ⟨v,hbd⟩:=HBD.out k t HXt.out;obtain ⟨j3,hj3⟩:=hbd.at
   have hl3' : j3 < l3:=by have h1:=(List.getElem?_eq_some_iff.1 hj3).1;omega
   obtain ⟨b3,o3,v',rfl,hb3,hv',hat⟩:=vd_at HR.out.v hl3';rw [hj3] at hv';obtain rfl:=Option.some.inj hv';obtain ⟨xa,xl,xc,hvr,z0,z2,z3,z5,d0,d1,d2,d3,d4,d5,d6,d7⟩:=vd_cells hat;have HJ:=hidK hj3;have HDb:=hidK hbd;have hbv : b3 < wr.heap.size:=Nat.lt_of_lt_of_le hb3 HB.out.size;have v0:=(cell_below HB.out hb3).trans d0;clear hv' hat hvr z0 z2 z3 z5 d0 d1 d2 d3 d4 d5 d6 d7 hj3 hbd hb3
   by_cases hin : InL n.zs v.n
   ·have HIn:=hidK hin;clear hin;have Gk:=Bk;have Gp:=Bp;have Gn:=Bn;have HW:=HB;obtain ⟨k0,k1,k2,k3,k4,k5⟩:=sl6 Gk;have p3:=fun q : Wd wr => q.slot (o:=3) Gp.out rfl;have n6:=fun q : Wd wr => q.slot (o:=6) Gn.out rfl;have tw:=fun q : Wd wr => (q.cell hb).trans hc;have vw:=fun q : Wd wr => (q.cell hbv).trans v0;have hne0:=Wd.ne wr;have HC0:=hidK (fun q : Wd wr => sbind_hit ⟨(some ⟨b1,o1,none⟩),l1,y1,a2,l2,y2,(some ⟨b3,o3,none⟩),l3,y3,a4,l4,y4,a5,l5,y5⟩ c t q.w (HR.out.below (HW.out.trans (q.b.mono HW.out.size))) HX.out HV.out HNE.out HJ.out HDb.out);have HC1:=hidK (fun q : Wd wr => (shas_any na nl nc n.zs v.n q.w (HTn.out.below (HW.out.trans (q.b.mono HW.out.size)))).mono (fun _ _ h => BoolB.yes h HIn.out));go_wp2_with fail;refine wp_region_wide (by kernel_rfl) (by kernel_rfl) ?_
    repeat (go_big_quiet_step (first | (go_at_call 131;exact Calls.wide (HC0.out _)) | (go_at_call 135;exact Calls.wide (HC1.out _)) | fail))
    refine wpQuiet_nil ?_;rintro _ ⟨q2,rfl⟩;have HB1:=upB HW q2.b;have Ck:=upK Gk q2.b;have Cp:=upK Gp q2.b;have Cn:=upK Gn q2.b;clear hne0 HW HB HC0 HC1 k0 k1 k2 k3 k4 k5 p3 n6 tw vw Gk Gp Gn Bk Bp Bn pp hb hc hbv v0;have HB:=HB1;clear HB1;have Bk:=Ck;clear Ck;have Bp:=Cp;clear Cp;have Bn:=Cn;clear Cn;go_wp2_with fail;refine ⟨⟨k + 1,by omega,by go_num,fun j s hj hs => ?_,HBY.out.trans (q2.b.mono HBY.out.size)⟩,by simp [intOf];omega⟩
    by_cases e : j = k
    ·subst e;rw [HXt.out] at hs;obtain rfl:=Option.some.inj hs;exact ⟨v,HDb.out,HIn.out⟩
    ·exact HQ.out j s (by omega) hs
   ·have HIn:=hidK hin;clear hin;have Gk:=Bk;have Gp:=Bp;have Gn:=Bn;have HW:=HB;obtain ⟨k0,k1,k2,k3,k4,k5⟩:=sl6 Gk;have p3:=fun q : Wd wr => q.slot (o:=3) Gp.out rfl;have n6:=fun q : Wd wr => q.slot (o:=6) Gn.out rfl;have tw:=fun q : Wd wr => (q.cell hb).trans hc;have vw:=fun q : Wd wr => (q.cell hbv).trans v0;have hne0:=Wd.ne wr;have HC0:=hidK (fun q : Wd wr => sbind_hit ⟨(some ⟨b1,o1,none⟩),l1,y1,a2,l2,y2,(some ⟨b3,o3,none⟩),l3,y3,a4,l4,y4,a5,l5,y5⟩ c t q.w (HR.out.below (HW.out.trans (q.b.mono HW.out.size))) HX.out HV.out HNE.out HJ.out HDb.out);have HC1:=hidK (fun q : Wd wr => (shas_any na nl nc n.zs v.n q.w (HTn.out.below (HW.out.trans (q.b.mono HW.out.size)))).mono (fun _ _ h => BoolB.no h HIn.out));go_wp2_with fail;refine wp_region_wide (by kernel_rfl) (by kernel_rfl) ?_
    repeat (go_big_quiet_step (first | (go_at_call 131;exact Calls.wide (HC0.out _)) | (go_at_call 135;exact Calls.wide (HC1.out _)) | fail))
    refine wpQuiet_nil ?_;rintro _ ⟨q2,rfl⟩;have HB1:=upB HW q2.b;have Ck:=upK Gk q2.b;have Cp:=upK Gp q2.b;have Cn:=upK Gn q2.b;clear hne0 HW HB HC0 HC1 k0 k1 k2 k3 k4 k5 p3 n6 tw vw Gk Gp Gn Bk Bp Bn pp hb hc hbv v0;have HB:=HB1;clear HB1;have Bk:=Ck;clear Ck;have Bp:=Cp;clear Cp;have Bn:=Cn;clear Cn
    go_wp2
    go_ret;refine BoolB.f (fun h => ?_) HB.out;obtain ⟨v2,e1,e2⟩:=h k t HXt.out;obtain rfl:=IsBd.inj HX.out HV.out HDb.out e1;exact HIn.out e2
  ·obtain rfl : pl = k:=by omega
   go_wp2
   go_ret;exact BoolB.t (fun j t ht => HQ.out j t (by have:=(List.getElem?_eq_some_iff.1 ht).1;omega) ht) HB.out

end Rc
end Go.Proofs.YtcogpoamhflgjaaGreatDoor

import Derived.Test.YtpibkpofdbjdaaaGreatDoorB1
import Derived.Deep.RegionWith
/-
 A cluster's lists in the world: compared, marked, held.
-/
set_option maxRecDepth 100000
set_option maxHeartbeats 12800000
namespace Go.Proofs.YtpibkpofdbjdaaaGreatDoor
theorem qqd3 {p : Prop} (h : p:=by decide) : p:=h
theorem qqd4 {p : Prop} (h : p:=by have:=(List.getElem?_eq_some_iff.1 hz).1;omega) : p:=h
theorem qqd5 {p : Prop} (h : p:=by first | trivial | rfl) : p:=h
theorem qqd11 {p : Prop} (h : p:=by have:=(List.getElem?_eq_some_iff.1 hy).1;omega) : p:=h
theorem qqd13 {p : Prop} (h : p:=by simp [World.setCell];omega) : p:=h
theorem qqd15 {p : Prop} (h : p:=by have:=(List.getElem?_eq_some_iff.1 ht).1;omega) : p:=h
theorem qqd19 {p : Prop} (h : p:=by have:=(List.getElem?_eq_some_iff.1 hj).1;omega) : p:=h
theorem qqd21 {p : Prop} (h : p:=by simp [results,Tryz.results152,go_sem, *]) : p:=h
end Go.Proofs.YtpibkpofdbjdaaaGreatDoor
namespace Go.Proofs.YtpibkpofdbjdaaaGreatDoor
theorem qqa3 {p : Prop} (h : p:=by
 obtain ⟨k0,k1,k2,k3,k4,k5⟩:=cs6 Bk.out;have ltk_1:=lt_of_some Bk.out;obtain ⟨p0,p1,p2,p3,p4,p5⟩:=cs6 Bp.out;have ltp_1:=lt_of_some Bp.out;go_wp2;go_loopw [35] (fun i wr => ∃ k : Nat,k ≤ pl ∧ i = .int .i64 k ∧ Hid (∀ (j : Nat) t,j < k → p.zs[j]? = some t → ∃ v,IsBd c t v ∧ v.z = n.z) ∧ Hid (Below w.heap.size w wr) ∧ Hid (wr.heap[w.heap.size]? = some (.cells #[.slice d.a1 d.l1 d.c1,.slice d.a2 d.l2 d.c2,.slice d.a3 d.l3 d.c3,.slice d.a4 d.l4 d.c4,.slice d.a5 d.l5 d.c5,.int .i64 c.now] 36 (0,0))) ∧ Hid (wr.heap[w1.heap.size]? = some (.cells #[.string n.n,.string n.z,.int .i64 n.c,.int .i64 n.s,.int .i64 n.u,.bool n.d,.slice va vl vc] 82 (0,0)))) (fun i _ => pl - (intOf i).toNat);case atStart => exact ⟨0,by omega,rfl,fun _ _ h => absurd h qqd1,HB.out.alloc HB.out.size _,(Below.heap_alloc _ _ _ (lt_of_some Bk.out)).trans Bk.out,Array.getElem?_push_size⟩
 case round =>
  obtain ⟨k,hk,rfl,HQ,HB,Bk,Bn⟩:=hrel;by_cases hlt : k < pl
  ·obtain ⟨b,o,t,rfl,hb,hx,hc,hsz⟩:=(HP.out.below HB.out).at hlt;have HXt:=hidK hx;clear hx hsz;obtain ⟨k0,k1,k2,k3,k4,k5⟩:=cs6 Bk.out;have ltk_0:=lt_of_some Bk.out;obtain ⟨n0,n1,n2,n3,n4,n5,n6⟩:=cs7 Bn.out;have ltn_0:=lt_of_some Bn.out;go_wp2_with fail;refine (ibd_any d c t w _ HR.out HB.out HX.out HV.out HNE.out).mono ?_;rintro e w2 ⟨hb2,hf⟩;clear k0 k1 k2 k3 k4 k5 ltk_0 n0 n1 n2 n3 n4 n5 n6 ltn_0;replace Bk:=upK Bk hb2;replace Bn:=upK Bn hb2;replace HB:=upB HB hb2;clear hb2;clear hb hc;rcases hf with ⟨v,xa,xl,xc,hbd,rfl,z0,z2,hxr⟩ | ⟨hbd,rfl⟩;rotate_left
   ·exact qqa123
   have HD:=hidK hbd;have HTx:=hidK hxr;clear hbd hxr z0 z2;by_cases hz2 : v.z = n.z
   ·have q3:=tl_yes hz2;have HZ2:=hidK hz2;clear hz2;obtain ⟨k0,k1,k2,k3,k4,k5⟩:=cs6 Bk.out;have ltk_1:=lt_of_some Bk.out;obtain ⟨n0,n1,n2,n3,n4,n5,n6⟩:=cs7 Bn.out;have ltn_1:=lt_of_some Bn.out;go_wp2_with fail;refine ⟨⟨k + 1,by omega,by go_num,fun j s hj hs => ?_,(HB.out.alloc HB.out.size _),(Below.heap_alloc _ _ _ (lt_of_some Bk.out)).trans Bk.out,(Below.heap_alloc _ _ _ (lt_of_some Bn.out)).trans Bn.out⟩,by simp [intOf];omega⟩;by_cases e : j = k
    ·subst e;rw [HXt.out] at hs;obtain rfl:=Option.some.inj hs;exact ⟨v,HD.out,HZ2.out⟩
    ·exact HQ.out j s qqd1 hs
   ·have q3:=tl_no hz2;have HZ2:=hidK hz2;clear hz2;obtain ⟨k0,k1,k2,k3,k4,k5⟩:=cs6 Bk.out;have ltk_1:=lt_of_some Bk.out;obtain ⟨n0,n1,n2,n3,n4,n5,n6⟩:=cs7 Bn.out;have ltn_1:=lt_of_some Bn.out;go_wp2;go_ret;refine BoolB.f (fun ⟨i,m,e1,e2,e3,e4⟩ => ?_) (HB.out.alloc HB.out.size _);obtain ⟨_,rfl⟩:=HN.out.inj e1 HX1.out (e2.trans HN1.out.symm);obtain ⟨v',e5,e6⟩:=e4 k t HXt.out;obtain rfl:=IsBd.inj HX.out HV.out HD.out e5;exact HZ2.out e6
  ·exact qqa133) : p:=h
theorem qqa5 {p : Prop} (h : p:=by
 go_wp2_with fail;refine ⟨⟨k + 1,x.n,by omega,rfl,by go_num,fun h => absurd h qqd1,fun z _ hz => ?_,fun j z hj hz => ?_,fun j z u hj hz hu => ?_,HB4.out⟩,by simp [intOf];omega⟩
 ·rw [Nat.add_sub_cancel,HX.out] at hz;rw [Option.some.inj hz]
 ·by_cases e : j = k
  ·subst e;rw [HX.out] at hz;obtain rfl:=Option.some.inj hz;exact HOK.out
  ·exact HE.out j z qqd1 hz
 ·by_cases e : j + 1 = k
  ·subst e;rw [HX.out] at hz;obtain rfl:=Option.some.inj hz;have:=H1.out u qqd1 (by rw [Nat.add_sub_cancel];exact hu);rw [this];exact hless
  ·exact HO.out j z u qqd1 hz hu) : p:=h
theorem qqa10 {p : Prop} (h : p:=by
 rw [hless] at htri;go_wp2;go_ret;refine BoolB.f (fun h => ?_) HB3.out;by_cases hk0 : 0 < k
 ·have hz : xs[k - 1]? = some (xs[k - 1]'(by omega)):=List.getElem?_eq_getElem _;have h2:=H1.out _ hk0 hz;have h3:=h.2.2 (k - 1) x _ (by rw [Nat.sub_add_cancel hk0];exact HX.out) hz;rw [h2,hless] at h3;cases h3
 ·have:=H0.out qqd1;subst this;have hnm : 1 ≤ x.n.size:=HOK.out.1.1;rw [less_nil hnm] at hless;cases hless) : p:=h
theorem qqa11 {p : Prop} (h : p:=by
 by_cases hn : x.n = t
 ·have hq:=tl_yes hn;have HN:=hidK hn;clear hn;go_wp2;go_ret;exact ⟨below1 _ _,.inl ⟨k,x,HX.out,HN.out,rfl⟩⟩
 ·have hq:=tl_no hn;have HN:=hidK hn;clear hn;go_wp2;refine ⟨⟨k + 1,by omega,by go_num,by rw [ha],fun j z hj hz => ?_⟩,by simp [intOf];omega⟩;exact qqa140) : p:=h
theorem qqa18 {p : Prop} (h : p:=by
 obtain rfl : k = len:=qqd1
 go_wp2;go_ret;refine BoolB.t ⟨by omega,fun j z hz => HE.out j z qqd4 hz,fun j z u hz hu => HO.out j z u qqd4 hz hu⟩ HB.out) : p:=h
theorem qqa19 {p : Prop} (h : p:=by
 rw [hs] at c4;clear hs;obtain ⟨k0,k1,k2,k3,k4,k5⟩:=cs6 Bk.out;have ltk_0:=lt_of_some Bk.out;go_wp2;refine ⟨⟨k + 1,by omega,by go_num,fun j z hj hz => ?_,(HB.out.alloc HB.out.size _),(Below.heap_alloc _ _ _ (lt_of_some Bk.out)).trans Bk.out⟩,by simp [intOf];omega⟩;by_cases e : j = k
 ·subst e;rw [HXv.out] at hz;obtain rfl:=Option.some.inj hz;exact fun h1 h2 => by rcases HCs.out with h | h;(rw [h] at h1;cases h1);exact absurd h h2
 ·exact HQ.out j z qqd1 hz) : p:=h
theorem qqa20 {p : Prop} (h : p:=by
 go_wp2_with fail;refine ⟨⟨k + 1,by omega,by go_num,fun j y hj hy => ?_,HB2.out⟩,by simp [intOf];omega⟩;by_cases e : j = k
 ·subst e;rw [HX.out] at hy;obtain rfl:=Option.some.inj hy;exact hless
 ·exact HE.out j y qqd1 hy) : p:=h
theorem qqa24 {p : Prop} (h : p:=by
 have F3 : Hid (∀ w,Calls Tryz.prog 181 #[.string k] w fun e w' => e = .returned (.bool false) ∧ w' = w):=fun w => (iname_any k w hk).mono fun _ _ h => h.no p3;have HP:=hidK p3;clear p3;go_enter Tryz.func193,Tryz.ntmps193;go_wp2_with fail;go_quiet ((first | (go_at_call_of 181 (Value.string n);exact Calls.quiet_of_same (F0.out _)) | (go_at_call_of 97 (Value.int .i64 c);exact Calls.quiet_of_same (F1.out _)) | (go_at_call_of 181 (Value.string z);exact Calls.quiet_of_same (F2.out _)) | (go_at_call_of 181 (Value.string k);exact Calls.quiet_of_same (F3.out _))));go_wp2_with fail;go_ret;exact ⟨false,rfl,⟨fun h => qqd10,fun h => (HP.out (h.2.2.2.1)).elim⟩,below_drewN (below1 _ _) _⟩) : p:=h
theorem qqa25 {p : Prop} (h : p:=by
 have F2 : Hid (∀ w,Calls Tryz.prog 181 #[.string z] w fun e w' => e = .returned (.bool false) ∧ w' = w):=fun w => (iname_any z w hz).mono fun _ _ h => h.no p2;have HP:=hidK p2;clear p2;go_enter Tryz.func193,Tryz.ntmps193;go_wp2_with fail;go_quiet ((first | (go_at_call_of 181 (Value.string n);exact Calls.quiet_of_same (F0.out _)) | (go_at_call_of 97 (Value.int .i64 c);exact Calls.quiet_of_same (F1.out _)) | (go_at_call_of 181 (Value.string z);exact Calls.quiet_of_same (F2.out _))));go_wp2_with fail;go_ret;exact ⟨false,rfl,⟨fun h => qqd10,fun h => (HP.out (h.2.2.1)).elim⟩,below_drewN (below1 _ _) _⟩) : p:=h
theorem qqa27 {p : Prop} (h : p:=by
 have F1 : Hid (∀ w,Calls Tryz.prog 97 #[.int .i64 c,.int .i64 1,.int .i64 1048576] w fun e w' => e = .returned (.bool false) ∧ w' = w):=fun w => (kwithin_any c 1 1048576 w).mono fun _ _ h => h.no p1;have HP:=hidK p1;clear p1;go_enter Tryz.func193,Tryz.ntmps193;go_wp2_with fail;go_quiet ((first | (go_at_call_of 181 (Value.string n);exact Calls.quiet_of_same (F0.out _)) | (go_at_call_of 97 (Value.int .i64 c);exact Calls.quiet_of_same (F1.out _))));go_wp2_with fail;go_ret;exact ⟨false,rfl,⟨fun h => qqd10,fun h => (HP.out (h.2.1)).elim⟩,below_drewN (below1 _ _) _⟩) : p:=h
theorem qqa32 {p : Prop} (h : p:=by
 rintro e w1 ⟨r,rfl,hr1,hb⟩;have HB:=hidK (slotK hb).2.1;have HI:=hidK hr1;clear hb hr1;go_wp2;go_ret;exact ⟨r,rfl,HI.out,HB.out⟩) : p:=h
theorem qqa37 {p : Prop} (h : p:=by
 go_wp2;go_ret;exact ⟨below1 _ _,.inr ⟨fun j z hz => HE.out j z qqd4 hz,rfl⟩⟩) : p:=h
theorem qqa40 {p : Prop} (h : p:=by
 have F0 : Hid (∀ w,Calls Tryz.prog 181 #[.string n] w fun e w' => e = .returned (.bool false) ∧ w' = w):=fun w => (iname_any n w hn).mono fun _ _ h => h.no p0;have HP:=hidK p0;clear p0;go_enter Tryz.func193,Tryz.ntmps193;go_wp2_with fail;go_quiet ((first | (go_at_call_of 181 (Value.string n);exact Calls.quiet_of_same (F0.out _))));go_wp2_with fail;go_ret;exact ⟨false,rfl,⟨fun h => qqd10,fun h => (HP.out (h.1)).elim⟩,below_drewN (below1 _ _) _⟩) : p:=h
theorem qqa45 {p : Prop} (h : p:=by
 obtain rfl : vl = kq:=qqd1
 go_wp2_with fail;refine ⟨⟨k + 1,by omega,by go_num,fun j z hj hz => ?_,HB.out,Bk.out⟩,by simp [intOf];omega⟩;by_cases e : j = k
 ·subst e;rw [HXv.out] at hz;exact qqa137
 ·exact HQ.out j z qqd1 hz) : p:=h
theorem qqa51 {p : Prop} (h : p:=by
 go_wp2;go_ret;exact BoolB.f (fun h => by have:=HI.out.2 (h.2.1 k x HX.out);cases this) HB2.out) : p:=h
theorem qqa56 {p : Prop} (h : p:=by
 have HH:=hidK hh;clear hh;obtain ⟨k0,k1,k2,k3,k4,k5⟩:=cs6 Bk.out;have ltk_1:=lt_of_some Bk.out;obtain ⟨p0,p1,p2,p3,p4,p5⟩:=cs6 Bp.out;have ltp_1:=lt_of_some Bp.out;go_wp2;go_ret;refine BoolB.f (fun ⟨i,n,e1,e2,_⟩ => ?_) (HB.out.alloc HB.out.size _);have:=(hit_at HN.out e1 e2).2;rw [HH.out] at this;cases this) : p:=h
theorem qqa58 {p : Prop} (h : p:=by
 obtain ⟨k0,k1,k2,k3,k4,k5⟩:=cs6 Bk.out;have ltk_2:=lt_of_some Bk.out;go_wp2;go_ret;exact BoolB.f (fun h => by have:=HI2.out.2 h.2.1;cases this) HB.out) : p:=h
theorem qqa59 {p : Prop} (h : p:=by
 obtain ⟨k0,k1,k2,k3,k4,k5⟩:=cs6 Bk.out;have ltk_1:=lt_of_some Bk.out;go_wp2;go_ret;exact BoolB.f (fun h => by have:=HI1.out.2 h.1;cases this) HB.out) : p:=h
theorem qqa62 {p : Prop} (h : p:=by
 go_wp2;go_ret;exact ⟨congrArg (fun z => Ending.returned (.int .i64 z)) (HS.out.trans (by rw [List.take_of_length_le qqd1])),HB.out⟩) : p:=h
theorem qqa63 {p : Prop} (h : p:=by
 go_wp2;go_ret;exact BoolB.f (fun h => by have:=h.1;omega) (Below.refl _ _)) : p:=h
theorem qqa69 {p : Prop} (h : p:=by
 go_wp2_with fail;refine ⟨⟨k + 1,by omega,by go_num,fun j z hj hz => ?_,HB.out,Bk.out⟩,by simp [intOf];omega⟩;by_cases e : j = k
 ·subst e;rw [HXn.out] at hz;obtain rfl:=Option.some.inj hz;exact hq
 ·exact HQ.out j z qqd1 hz) : p:=h
theorem qqa70 {p : Prop} (h : p:=by
 obtain ⟨x0,x1,x2,x3,x4⟩:=cs5 Bx.out;have ltx_2:=lt_of_some Bx.out;go_wp2;go_ret;refine BoolB.f (fun ⟨i,j,x',v',e1,e2,e3,e4,_⟩ => ?_) (HB.out.alloc HB.out.size _);have:=(hit_at HX.out e1 e2).2;rw [HH1.out] at this;cases this) : p:=h
theorem qqa72 {p : Prop} (h : p:=by
 exact set_below (Nat.le_succ _) (set_below (Nat.le_succ _) (set_below (Nat.le_succ _) (set_below (Nat.le_succ _) (set_below (Nat.le_succ _) (set_below (Nat.le_succ _) (set_below (Nat.le_succ _) (set_below (Nat.le_succ _) (HB.out))))))))) : p:=h
theorem qqa78 {p : Prop} (h : p:=by
 exact set_below (Nat.le_succ _) (set_below (Nat.le_succ _) (set_below (Nat.le_succ _) (set_below (Nat.le_succ _) (set_below (Nat.le_succ _) (set_below (Nat.le_succ _) (set_below (Nat.le_succ _) (HB.out)))))))) : p:=h
theorem qqa84 {p : Prop} (h : p:=by
 clear HQ;go_wp2;go_ret;exact BoolB.t ⟨HQ1.out,HQ2.out⟩ HB.out) : p:=h
theorem qqa85 {p : Prop} (h : p:=by
 obtain rfl:=Option.some.inj hz;exact ⟨HH.out,.inr (HI.out.1 qqd5)⟩) : p:=h
theorem qqa87 {p : Prop} (h : p:=by
 obtain ⟨k0,k1,k2,k3,k4,k5⟩:=cs6 Bk.out;have ltk_5:=lt_of_some Bk.out;go_wp2;go_ret;exact BoolB.f (fun h => by have:=HI5.out.2 h.2.2.2.2.1;cases this) HB.out) : p:=h
theorem qqa88 {p : Prop} (h : p:=by
 obtain ⟨k0,k1,k2,k3,k4,k5⟩:=cs6 Bk.out;have ltk_6:=lt_of_some Bk.out;go_wp2;go_ret;exact BoolB.f (fun h => by have:=HI6.out.2 h.2.2.2.2.2;cases this) HB.out) : p:=h
theorem qqa89 {p : Prop} (h : p:=by
 obtain ⟨k0,k1,k2,k3,k4,k5⟩:=cs6 Bk.out;have ltk_4:=lt_of_some Bk.out;go_wp2;go_ret;exact BoolB.f (fun h => by have:=HI4.out.2 h.2.2.2.1;cases this) HB.out) : p:=h
theorem qqa91 {p : Prop} (h : p:=by
 obtain ⟨k0,k1,k2,k3,k4,k5⟩:=cs6 Bk.out;have ltk_3:=lt_of_some Bk.out;go_wp2;go_ret;exact BoolB.f (fun h => by have:=HI3.out.2 h.2.2.1;cases this) HB.out) : p:=h
theorem qqa94 {p : Prop} (h : p:=by
 exact set_below (Nat.le_succ _) (set_below (Nat.le_succ _) (set_below (Nat.le_succ _) (set_below (Nat.le_succ _) (set_below (Nat.le_succ _) (HB.out)))))) : p:=h
theorem qqa95 {p : Prop} (h : p:=by
 obtain rfl : pl = k:=qqd1
 go_wp2;go_ret;exact BoolB.t (fun j t ht => HQ.out j t qqd15 ht) HB.out) : p:=h
theorem qqa96 {p : Prop} (h : p:=by
 by_cases e : j = k
 ·subst e;rw [HXp.out] at hz;obtain rfl:=Option.some.inj hz;exact fun h => absurd h HP2.out
 ·exact HQ.out j z qqd1 hz) : p:=h
theorem qqa98 {p : Prop} (h : p:=by
 go_wp2_with fail;go_ret;exact ⟨false,rfl,⟨fun h => qqd10,fun h => (HP.out (h.2.2.2.2.1)).elim⟩,below_drewN (below1 _ _) _⟩) : p:=h
theorem qqa101 {p : Prop} (h : p:=by
 exact set_below (Nat.le_succ _) (set_below (Nat.le_succ _) (set_below (Nat.le_succ _) (set_below (Nat.le_succ _) (HB.out))))) : p:=h
theorem qqa102 {p : Prop} (h : p:=by
 obtain rfl:=Option.some.inj hz;exact ⟨HH.out,.inl HEm.out⟩) : p:=h
theorem qqa106 {p : Prop} (h : p:=by
 show _ = _;rw [onOf_step HX.out,if_neg (fun h => by have:=HI.out.2 h;cases this),← HS.out,Int.add_zero]) : p:=h
theorem qqa123 {p : Prop} (h : p:=by
 have HD:=hidK hbd;clear hbd;obtain ⟨k0,k1,k2,k3,k4,k5⟩:=cs6 Bk.out;have ltk_1:=lt_of_some Bk.out;obtain ⟨n0,n1,n2,n3,n4,n5,n6⟩:=cs7 Bn.out;have ltn_1:=lt_of_some Bn.out;go_wp2;go_ret;refine BoolB.f (fun ⟨i,m,e1,e2,e3,e4⟩ => ?_) (HB.out.alloc HB.out.size _);obtain ⟨v,e5,_⟩:=e4 k t HXt.out;exact HD.out v e5) : p:=h
theorem qqa133 {p : Prop} (h : p:=by
 obtain rfl : pl = k:=qqd1
 go_wp2;go_ret;exact BoolB.t ⟨_,n,HX1.out,HN1.out,HC.out,fun j t ht => HQ.out j t qqd15 ht⟩ HB.out) : p:=h
theorem qqa137 {p : Prop} (h : p:=by
 obtain rfl:=Option.some.inj hz;exact fun j s hs => HQ2.out j s (by have h1:=(List.getElem?_eq_some_iff.1 hs).1;have h2:=HVL.out;omega) hs) : p:=h
theorem qqa140 {p : Prop} (h : p:=by
 by_cases e : j = k
 ·subst e;rw [HX.out] at hz;obtain rfl:=Option.some.inj hz;exact HN.out
 ·exact HE.out j z qqd1 hz) : p:=h
theorem qqb1 {p : Prop} (h : p:=by
 have HR:=hidK hr;have hl1 : c.ns.length = l1:=by simpa using (show (c.ns.map ndF).length = l1 from hr.n.1)
 have hm1 : l1 ≤ 9223372036854775807:=Nat.le_trans hr.n.2.1 hr.n.2.2.1;have hl2 : c.ks.length = l2:=by simpa using (show (c.ks.map kdF).length = l2 from hr.k.1)
 have hm2 : l2 ≤ 9223372036854775807:=Nat.le_trans hr.k.2.1 hr.k.2.2.1;have hl3 : c.vs.length = l3:=by simpa using (show (c.vs.map vdF).length = l3 from hr.v.1)
 have hm3 : l3 ≤ 9223372036854775807:=Nat.le_trans hr.v.2.1 hr.v.2.2.1;have hl4 : c.xs.length = l4:=by simpa using (show (c.xs.map xdF).length = l4 from hr.x.1)
 have hm4 : l4 ≤ 9223372036854775807:=Nat.le_trans hr.x.2.1 hr.x.2.2.1;have hl5 : c.ps.length = l5:=by simpa using (show (c.ps.map pdF).length = l5 from hr.p.1)
 have hm5 : l5 ≤ 9223372036854775807:=Nat.le_trans hr.p.2.1 hr.p.2.2.1;exact And.intro HR (And.intro hl1 (And.intro hm1 (And.intro hl2 (And.intro hm2 (And.intro hl3 (And.intro hm3 (And.intro hl4 (And.intro hm4 (And.intro hl5 hm5)))))))))) : p:=h
theorem qqb5 {p : Prop} (h : p:=by
 have hxl : xs.length = len:=qqd8
 have hlc : len ≤ 9223372036854775807:=Nat.le_trans hr.2.1 hr.2.2.1;exact And.intro hxl hlc) : p:=h
theorem qqb6 {p : Prop} (h : p:=by
 have hbw : b < w.heap.size:=Nat.lt_of_lt_of_le hbl HRW.out.size;have e0:=(cell_below hb1 hbw).trans ((cell_below HRW.out hbl).trans c0);have e1:=(cell_below hb1 hbw).trans ((cell_below HRW.out hbl).trans c1);have e2:=(cell_below hb1 hbw).trans ((cell_below HRW.out hbl).trans c2);have e3:=(cell_below hb1 hbw).trans ((cell_below HRW.out hbl).trans c3);exact And.intro hbw (And.intro e0 (And.intro e1 (And.intro e2 e3)))) : p:=h
theorem qqb11 {p : Prop} (h : p:=by
 have HB3:=hidK (HB2.out.trans (hb2.mono (Nat.le_trans HB.out.size (Nat.le_trans (Nat.le_succ _) hs1))));have g2:=(hb2.block wr.heap.size qqd1).trans HG.out;have hs2:=hb2.size;have htri:=less_tri y.toList x.n.toList;exact And.intro HB3 (And.intro g2 (And.intro hs2 htri))) : p:=h
theorem qqb12 {p : Prop} (h : p:=by
 have HB2:=upB HB1 hb1;have d0 : w1.cell? ⟨wr.heap.size,0,none⟩ = some (.string x.n):=cellK g1 0;exact And.intro HB2 d0) : p:=h
theorem qqb17 {p : Prop} (h : p:=by
 have GK:=hidK ((Below.heap_alloc wr (.cells #[.string n.n,.string n.z,.int .i64 n.c,.int .i64 n.s,.int .i64 n.u,.bool n.d,.slice va vl vc] 82) _ (lt_of_some Bk.out)).trans Bk.out);have GR : Hid ((wr.alloc (.cells #[.string n.n,.string n.z,.int .i64 n.c,.int .i64 n.s,.int .i64 n.u,.bool n.d,.slice va vl vc] 82)).heap[wr.heap.size]? = some (.cells #[.string n.n,.string n.z,.int .i64 n.c,.int .i64 n.s,.int .i64 n.u,.bool n.d,.slice va vl vc] 82 (0,0))):=Array.getElem?_push_size;have HW:=hidK (HB.out.trans ((below1 wr (.cells #[.string n.n,.string n.z,.int .i64 n.c,.int .i64 n.s,.int .i64 n.u,.bool n.d,.slice va vl vc] 82)).mono HB.out.size));exact And.intro GK (And.intro GR HW)) : p:=h
theorem qqb21 {p : Prop} (h : p:=by
 have d0 : w1.cell? ⟨w.heap.size,0,none⟩ = some (.string ⟨#[]⟩):=cellK g1 0;have f0:=froK g1 0;have d1 : w1.cell? ⟨w.heap.size,1,none⟩ = some (.int .i64 0):=cellK g1 1;have f1:=froK g1 1;have d2 : w1.cell? ⟨w.heap.size,2,none⟩ = some (.string ⟨#[]⟩):=cellK g1 2;have f2:=froK g1 2;exact And.intro d0 (And.intro f0 (And.intro d1 (And.intro f1 (And.intro d2 f2))))) : p:=h
theorem qqb24 {p : Prop} (h : p:=by
 have d1 : w1.cell? ⟨wr.heap.size,1,none⟩ = some (.int .i64 x.c):=cellK g1 1;have d2 : w1.cell? ⟨wr.heap.size,2,none⟩ = some (.string x.z):=cellK g1 2;have d3 : w1.cell? ⟨wr.heap.size,3,none⟩ = some (.string x.k):=cellK g1 3;have d4 : w1.cell? ⟨wr.heap.size,4,none⟩ = some (.bool x.x):=cellK g1 4;have d5 : w1.cell? ⟨wr.heap.size,5,none⟩ = some (.string x.m):=cellK g1 5;have d6 : w1.cell? ⟨wr.heap.size,6,none⟩ = some (.bool x.y):=cellK g1 6;have d7 : w1.cell? ⟨wr.heap.size,7,none⟩ = some (.slice va vl vc):=cellK g1 7;exact And.intro d1 (And.intro d2 (And.intro d3 (And.intro d4 (And.intro d5 (And.intro d6 d7)))))) : p:=h
theorem qqb26 {p : Prop} (h : p:=by
 have GV : Hid ((wr.alloc (.cells #[.string v.n,.int .i64 v.c,.string v.z,.string v.k,.bool v.x,.string v.m,.bool v.y,.slice va vl vc] 106)).heap[wr.heap.size]? = some (.cells #[.string v.n,.int .i64 v.c,.string v.z,.string v.k,.bool v.x,.string v.m,.bool v.y,.slice va vl vc] 106 (0,0))):=Array.getElem?_push_size;have BV:=hidK (HB.out.trans ((below1 wr (.cells #[.string v.n,.int .i64 v.c,.string v.z,.string v.k,.bool v.x,.string v.m,.bool v.y,.slice va vl vc] 106)).mono HB.out.size));exact And.intro GV BV) : p:=h
theorem qqb27 {p : Prop} (h : p:=by
 have HB3:=hidK (HB2.out.trans (hb2.mono (Nat.le_trans HB.out.size (Nat.le_trans (Nat.le_succ _) hs1))));have hp:=pl_at HE.out HX.out hless;exact And.intro HB3 hp) : p:=h
theorem qqb29 {p : Prop} (h : p:=by
 have g1:=(hb.block (w.heap.size + 1) qqd6).trans (heap2_1 _ _ _);have d0 : w1.cell? ⟨w.heap.size + 1,0,none⟩ = some (.string ⟨#[]⟩):=cellK g1 0;have f0:=froK g1 0;exact And.intro g1 (And.intro d0 f0)) : p:=h
theorem qqb31 {p : Prop} (h : p:=by
 have d1 : w1.cell? ⟨wr.heap.size,1,none⟩ = some (.string x.z):=cellK g1 1;have d2 : w1.cell? ⟨wr.heap.size,2,none⟩ = some (.int .i64 x.c):=cellK g1 2;have d3 : w1.cell? ⟨wr.heap.size,3,none⟩ = some (.int .i64 x.s):=cellK g1 3;have d4 : w1.cell? ⟨wr.heap.size,4,none⟩ = some (.int .i64 x.u):=cellK g1 4;have d5 : w1.cell? ⟨wr.heap.size,5,none⟩ = some (.bool x.d):=cellK g1 5;have d6 : w1.cell? ⟨wr.heap.size,6,none⟩ = some (.slice va vl vc):=cellK g1 6;exact And.intro d1 (And.intro d2 (And.intro d3 (And.intro d4 (And.intro d5 d6))))) : p:=h
theorem qqb39 {p : Prop} (h : p:=by
 have d1 : w1.cell? ⟨wr.heap.size,1,none⟩ = some (.int .i64 x.c):=cellK g1 1;have d2 : w1.cell? ⟨wr.heap.size,2,none⟩ = some (.string x.z):=cellK g1 2;have d3 : w1.cell? ⟨wr.heap.size,3,none⟩ = some (.slice va vl vc):=cellK g1 3;have d4 : w1.cell? ⟨wr.heap.size,4,none⟩ = some (.string x.d):=cellK g1 4;have d5 : w1.cell? ⟨wr.heap.size,5,none⟩ = some (.int .i64 x.p):=cellK g1 5;exact And.intro d1 (And.intro d2 (And.intro d3 (And.intro d4 d5)))) : p:=h
theorem qqb47 {p : Prop} (h : p:=by
 have d1 : w1.cell? ⟨wr.heap.size,1,none⟩ = some (.int .i64 x.z):=cellK g1 1;have d2 : w1.cell? ⟨wr.heap.size,2,none⟩ = some (.string x.k):=cellK g1 2;have d3 : w1.cell? ⟨wr.heap.size,3,none⟩ = some (.bool x.x):=cellK g1 3;have d4 : w1.cell? ⟨wr.heap.size,4,none⟩ = some (.string x.v):=cellK g1 4;exact And.intro d1 (And.intro d2 (And.intro d3 d4))) : p:=h
theorem qqb48 {p : Prop} (h : p:=by
 have lts_2:=lt_of_some Bs.out;have fr0:=froK Bs.out 0;have fr1:=froK Bs.out 1;have fr2:=froK Bs.out 2;have fr3:=froK Bs.out 3;have fr4:=froK Bs.out 4;have fr5:=froK Bs.out 5;have fr6:=froK Bs.out 6;have fr7:=froK Bs.out 7;exact And.intro lts_2 (And.intro fr0 (And.intro fr1 (And.intro fr2 (And.intro fr3 (And.intro fr4 (And.intro fr5 (And.intro fr6 fr7)))))))) : p:=h
theorem qqb56 {p : Prop} (h : p:=by
 have e4:=(cell_below hb1 hbw).trans ((cell_below HRW.out hbl).trans c4);have e5:=(cell_below hb1 hbw).trans ((cell_below HRW.out hbl).trans c5);exact And.intro e4 e5) : p:=h
theorem qqb59 {p : Prop} (h : p:=by
 have HXv:=hidK hx;have HTv:=hidK hvr;have HZv0:=hidK z0;have HZv2:=hidK z2;have HZv3:=hidK z3;have HZv5:=hidK z5;exact And.intro HXv (And.intro HTv (And.intro HZv0 (And.intro HZv2 (And.intro HZv3 HZv5))))) : p:=h
theorem qqb60 {p : Prop} (h : p:=by
 have HB:=hidK (BV.out.trans (HBW.out.mono BV.out.size));have Bk:=upK KV HBW.out;exact And.intro HB Bk) : p:=h
theorem qqb64 {p : Prop} (h : p:=by
 have hlc : pl ≤ 9223372036854775807:=Nat.le_trans hp.2.1 hp.2.2.1;have hzl : p.zs.length = pl:=hp.1;exact And.intro hlc hzl) : p:=h
theorem qqb70 {p : Prop} (h : p:=by
 have HR:=hidK hr;have HB:=hidK (Below.refl w.heap.size w);exact And.intro HR HB) : p:=h
theorem qqb71 {p : Prop} (h : p:=by
 have d0 : w2.cell? ⟨wr.heap.size,0,none⟩ = some (.string x.n):=cellK g2 0;have d1 : w2.cell? ⟨wr.heap.size,1,none⟩ = some (.int .i64 x.c):=cellK g2 1;have d2 : w2.cell? ⟨wr.heap.size,2,none⟩ = some (.string x.z):=cellK g2 2;exact And.intro d0 (And.intro d1 d2)) : p:=h
theorem qqb73 {p : Prop} (h : p:=by
 have d1 : w1.cell? ⟨wr.heap.size,1,none⟩ = some (.bool x.x):=cellK g1 1;have d2 : w1.cell? ⟨wr.heap.size,2,none⟩ = some (.bool x.y):=cellK g1 2;have d3 : w1.cell? ⟨wr.heap.size,3,none⟩ = some (.string x.z):=cellK g1 3;exact And.intro d1 (And.intro d2 d3)) : p:=h
theorem qqb74 {p : Prop} (h : p:=by
 have HR:=hidK hr;have HE:=hidK hG;have HB:=hidK (Below.refl w.heap.size w);exact And.intro HR (And.intro HE HB)) : p:=h
theorem qqb75 {p : Prop} (h : p:=by
 have HC:=hidK (fun v : World => calledvd_any x va vl vc v);have HB1:=hidK (HB.out.alloc HB.out.size (.cells #[.string x.n,.int .i64 x.c,.string x.z,.string x.k,.bool x.x,.string x.m,.bool x.y,.slice va vl vc] 106));exact And.intro HC HB1) : p:=h
theorem qqb77 {p : Prop} (h : p:=by
 have HC:=hidK (fun v : World => callednd_any x va vl vc v);have HB1:=hidK (HB.out.alloc HB.out.size (.cells #[.string x.n,.string x.z,.int .i64 x.c,.int .i64 x.s,.int .i64 x.u,.bool x.d,.slice va vl vc] 82));exact And.intro HC HB1) : p:=h
theorem qqb78 {p : Prop} (h : p:=by
 have HX:=hidK hx;have HV:=hidK hv;have HNE:=hidK hne;exact And.intro HX (And.intro HV HNE)) : p:=h
theorem qqb79 {p : Prop} (h : p:=by
 have HXn:=hidK hx;have HTn:=hidK hvr;have HZn0:=hidK z0;have HZn1:=hidK z1;exact And.intro HXn (And.intro HTn (And.intro HZn0 HZn1))) : p:=h
theorem qqb84 {p : Prop} (h : p:=by
 have HC:=hidK (fun v : World => calledpd_any x va vl vc v);have HB1:=hidK (HB.out.alloc HB.out.size (.cells #[.string x.n,.int .i64 x.c,.string x.z,.slice va vl vc,.string x.d,.int .i64 x.p] 69));exact And.intro HC HB1) : p:=h
theorem qqb86 {p : Prop} (h : p:=by
 have d1 : w1.cell? ⟨w.heap.size + 1,1,none⟩ = some (.int .i64 0):=cellK g1 1;have f1:=froK g1 1;have d2 : w1.cell? ⟨w.heap.size + 1,2,none⟩ = some (.string ⟨#[]⟩):=cellK g1 2;have f2:=froK g1 2;exact And.intro d1 (And.intro f1 (And.intro d2 f2))) : p:=h
end Go.Proofs.YtpibkpofdbjdaaaGreatDoor
namespace Go.Proofs.YtpibkpofdbjdaaaGreatDoor
open Go.RowKit
namespace Rc
open Mk

structure Cl where
 ns : List Nd
 ks : List Kd
 vs : List Vd
 xs : List Xd
 ps : List Pd
 now : Int
structure Cr where
 n : List (List Fv)
 k : List (List Fv)
 v : List (List Fv)
 x : List (List Fv)
 p : List (List Fv)
def Cl.raw (c : Cl) : Cr:=⟨c.ns.map ndF,c.ks.map kdF,c.vs.map vdF,c.xs.map xdF,c.ps.map pdF⟩
structure Ad where
 a1 : Option Addr
 l1 : Nat
 c1 : Nat
 a2 : Option Addr
 l2 : Nat
 c2 : Nat
 a3 : Option Addr
 l3 : Nat
 c3 : Nat
 a4 : Option Addr
 l4 : Nat
 c4 : Nat
 a5 : Option Addr
 l5 : Nat
 c5 : Nat
structure ClRow (w : World) (d : Ad) (c : Cr) : Prop where
 n : RRow w d.a1 d.l1 d.c1 7 c.n
 k : RRow w d.a2 d.l2 d.c2 4 c.k
 v : RRow w d.a3 d.l3 d.c3 8 c.v
 x : RRow w d.a4 d.l4 d.c4 5 c.x
 p : RRow w d.a5 d.l5 d.c5 6 c.p
theorem ClRow.below {w w' : World} {d : Ad} {c : Cr} (h : ClRow w d c) (hb : Below w.heap.size w w') : ClRow w' d c:=⟨h.n.below hb,h.k.below hb,h.v.below hb,h.x.below hb,h.p.below hb⟩
structure ClOwnP (w : World) (d : Ad) (c : Cr) (S : Nat → Prop) (P : Nat → Nat) : Prop where
 n : ROwn w d.a1 d.l1 d.c1 7 82 c.n (fun k => S k ∧ P k = 1)
 k : ROwn w d.a2 d.l2 d.c2 4 109 c.k (fun k => S k ∧ P k = 2)
 v : ROwn w d.a3 d.l3 d.c3 8 106 c.v (fun k => S k ∧ P k = 3)
 x : ROwn w d.a4 d.l4 d.c4 5 112 c.x (fun k => S k ∧ P k = 4)
 p : ROwn w d.a5 d.l5 d.c5 6 69 c.p (fun k => S k ∧ P k = 5)
def ClOwn (w : World) (d : Ad) (c : Cr) (S : Nat → Prop) : Prop:=∃ P,ClOwnP w d c S P
theorem ClOwnP.row {w : World} {d : Ad} {c : Cr} {S : Nat → Prop} {P : Nat → Nat} (h : ClOwnP w d c S P) : ClRow w d c:=⟨h.n.row,h.k.row,h.v.row,h.x.row,h.p.row⟩
theorem ClOwn.row {w : World} {d : Ad} {c : Cr} {S : Nat → Prop} (h : ClOwn w d c S) : ClRow w d c:=by obtain ⟨P,h⟩:=h;exact h.row
theorem ClOwnP.keep {w w' : World} {d : Ad} {c : Cr} {S S' : Nat → Prop} {P : Nat → Nat} (h : ClOwnP w d c S P) (hk : ∀ k,k < w.heap.size → S k → w'.heap[k]? = w.heap[k]?) (hs : ∀ k,k < w.heap.size → S k → S' k) : ClOwnP w' d c S' P :=
 ⟨h.n.keep (fun k hl s => hk k hl s.1) (fun k hl s => ⟨hs k hl s.1,s.2⟩),h.k.keep (fun k hl s => hk k hl s.1) (fun k hl s => ⟨hs k hl s.1,s.2⟩),h.v.keep (fun k hl s => hk k hl s.1) (fun k hl s => ⟨hs k hl s.1,s.2⟩),h.x.keep (fun k hl s => hk k hl s.1) (fun k hl s => ⟨hs k hl s.1,s.2⟩),h.p.keep (fun k hl s => hk k hl s.1) (fun k hl s => ⟨hs k hl s.1,s.2⟩)⟩
theorem ClOwn.below {w w' : World} {d : Ad} {c : Cr} {S : Nat → Prop} (h : ClOwn w d c S) (hb : Below w.heap.size w w') : ClOwn w' d c S:=by
 obtain ⟨P,h⟩:=h;exact ⟨P,h.keep (fun k hk _ => hb.block k hk) (fun _ _ s => s)⟩
theorem ClOwn.kept {w w' : World} {d : Ad} {c : Cr} {S S' : Nat → Prop} (h : ClOwn w d c S) (hb : KeptS S' w w') (hd : ∀ k,S k → ¬ S' k) : ClOwn w' d c S:=by
 obtain ⟨P,h⟩:=h;exact ⟨P,h.keep (fun k hk s => hb.block k hk (hd k s)) (fun _ _ s => s)⟩
theorem ClOwn.into {w : World} {d : Ad} {c : Cr} {S S' : Nat → Prop} (h : ClOwn w d c S) (hs : ∀ k,k < w.heap.size → S k → S' k) : ClOwn w d c S':=by
 obtain ⟨P,h⟩:=h;exact ⟨P,h.keep (fun _ _ _ => rfl) hs⟩
def mkC (N : Int) (c : Cr) : Cr:=⟨mkRs N c.n,mkRs (mkNs N c.n) c.k,mkRs (mkNs (mkNs N c.n) c.k) c.v,mkRs (mkNs (mkNs (mkNs N c.n) c.k) c.v) c.x,mkRs (mkNs (mkNs (mkNs (mkNs N c.n) c.k) c.v) c.x) c.p⟩
def mkCn (N : Int) (c : Cr) : Int:=(mkNs (mkNs (mkNs (mkNs (mkNs N c.n) c.k) c.v) c.x) c.p)
theorem mkCn_ge (N : Int) (c : Cr) : N ≤ mkCn N c:=Int.le_trans (mkNs_ge _ _) (Int.le_trans (mkNs_ge _ _) (Int.le_trans (mkNs_ge _ _) (Int.le_trans (mkNs_ge _ _) (mkNs_ge _ _))))
theorem mkCn_n (N : Int) (c : Cr) : mkNs N c.n ≤ mkCn N c:=(Int.le_trans (Int.le_trans (Int.le_trans (Int.le_trans (Int.le_refl _) (mkNs_ge _ _)) (mkNs_ge _ _)) (mkNs_ge _ _)) (mkNs_ge _ _))
theorem mkCn_k (N : Int) (c : Cr) : mkNs (mkNs N c.n) c.k ≤ mkCn N c:=(Int.le_trans (Int.le_trans (Int.le_trans (Int.le_refl _) (mkNs_ge _ _)) (mkNs_ge _ _)) (mkNs_ge _ _))
theorem mkCn_v (N : Int) (c : Cr) : mkNs (mkNs (mkNs N c.n) c.k) c.v ≤ mkCn N c:=(Int.le_trans (Int.le_trans (Int.le_refl _) (mkNs_ge _ _)) (mkNs_ge _ _))
theorem mkCn_x (N : Int) (c : Cr) : mkNs (mkNs (mkNs (mkNs N c.n) c.k) c.v) c.x ≤ mkCn N c:=(Int.le_trans (Int.le_refl _) (mkNs_ge _ _))
theorem mkCn_p (N : Int) (c : Cr) : mkNs (mkNs (mkNs (mkNs (mkNs N c.n) c.k) c.v) c.x) c.p ≤ mkCn N c:=(Int.le_refl _)

theorem eqCluster_any (d d' : Ad) (c : Cl) (w : World) (hr : ClRow w d c.raw) (hr' : ClRow w d' c.raw) :
  Calls Tryz.prog 10 #[.agg #[.slice d.a1 d.l1 d.c1,.slice d.a2 d.l2 d.c2,.slice d.a3 d.l3 d.c3,.slice d.a4 d.l4 d.c4,.slice d.a5 d.l5 d.c5,.int .i64 c.now],.agg #[.slice d'.a1 d'.l1 d'.c1,.slice d'.a2 d'.l2 d'.c2,.slice d'.a3 d'.l3 d'.c3,.slice d'.a4 d'.l4 d'.c4,.slice d'.a5 d'.l5 d'.c5,.int .i64 c.now]] w fun e w' => e = .returned (.bool true) ∧ Below w.heap.size w w':=by
 have HR:=hidK (hr.below (below2 w (.cells #[.slice d.a1 d.l1 d.c1,.slice d.a2 d.l2 d.c2,.slice d.a3 d.l3 d.c3,.slice d.a4 d.l4 d.c4,.slice d.a5 d.l5 d.c5,.int .i64 c.now] 36) (.cells #[.slice d'.a1 d'.l1 d'.c1,.slice d'.a2 d'.l2 d'.c2,.slice d'.a3 d'.l3 d'.c3,.slice d'.a4 d'.l4 d'.c4,.slice d'.a5 d'.l5 d'.c5,.int .i64 c.now] 36)));have HR':=hidK (hr'.below (below2 w (.cells #[.slice d.a1 d.l1 d.c1,.slice d.a2 d.l2 d.c2,.slice d.a3 d.l3 d.c3,.slice d.a4 d.l4 d.c4,.slice d.a5 d.l5 d.c5,.int .i64 c.now] 36) (.cells #[.slice d'.a1 d'.l1 d'.c1,.slice d'.a2 d'.l2 d'.c2,.slice d'.a3 d'.l3 d'.c3,.slice d'.a4 d'.l4 d'.c4,.slice d'.a5 d'.l5 d'.c5,.int .i64 c.now] 36)));have HB0:=hidK (below2 w (.cells #[.slice d.a1 d.l1 d.c1,.slice d.a2 d.l2 d.c2,.slice d.a3 d.l3 d.c3,.slice d.a4 d.l4 d.c4,.slice d.a5 d.l5 d.c5,.int .i64 c.now] 36) (.cells #[.slice d'.a1 d'.l1 d'.c1,.slice d'.a2 d'.l2 d'.c2,.slice d'.a3 d'.l3 d'.c3,.slice d'.a4 d'.l4 d'.c4,.slice d'.a5 d'.l5 d'.c5,.int .i64 c.now] 36));have HG0:=hidK (heap2_0 w (.cells #[.slice d.a1 d.l1 d.c1,.slice d.a2 d.l2 d.c2,.slice d.a3 d.l3 d.c3,.slice d.a4 d.l4 d.c4,.slice d.a5 d.l5 d.c5,.int .i64 c.now] 36) (.cells #[.slice d'.a1 d'.l1 d'.c1,.slice d'.a2 d'.l2 d'.c2,.slice d'.a3 d'.l3 d'.c3,.slice d'.a4 d'.l4 d'.c4,.slice d'.a5 d'.l5 d'.c5,.int .i64 c.now] 36));have HG1:=hidK (heap2_1 w (.cells #[.slice d.a1 d.l1 d.c1,.slice d.a2 d.l2 d.c2,.slice d.a3 d.l3 d.c3,.slice d.a4 d.l4 d.c4,.slice d.a5 d.l5 d.c5,.int .i64 c.now] 36) (.cells #[.slice d'.a1 d'.l1 d'.c1,.slice d'.a2 d'.l2 d'.c2,.slice d'.a3 d'.l3 d'.c3,.slice d'.a4 d'.l4 d'.c4,.slice d'.a5 d'.l5 d'.c5,.int .i64 c.now] 36));clear hr hr';go_enter Tryz.func10,Tryz.ntmps10;go_wp2_with fail;refine (eqnd_any d.a1 d'.a1 d.l1 d'.l1 d.c1 d'.c1 c.ns _ HR.out.n HR'.out.n).mono ?_;rintro e w1 ⟨rfl,hb⟩;have HR1:=hidK (HR.out.below hb);have HR'1:=hidK (HR'.out.below hb);have HB1:=hidK (HB0.out.trans (hb.mono (HB0.out.size)));have HG01:=upK HG0 hb;have HG11:=upK HG1 hb;clear hb HR HR' HB0 HG0 HG1;have HR:=HR1;have HR':=HR'1;have HG0:=HG01;have HG1:=HG11;clear HR1 HR'1 HG01 HG11;have c0 : w1.cell? ⟨w.heap.size,1,none⟩ = some (.slice d.a2 d.l2 d.c2):=cellK HG0.out 1;have c1 : w1.cell? ⟨w.heap.size + 1,1,none⟩ = some (.slice d'.a2 d'.l2 d'.c2):=cellK HG1.out 1;go_wp2_with fail;refine (eqkd_any d.a2 d'.a2 d.l2 d'.l2 d.c2 d'.c2 c.ks _ HR.out.k HR'.out.k).mono ?_;rintro e w2 ⟨rfl,hb⟩;have HR2:=hidK (HR.out.below hb);have HR'2:=hidK (HR'.out.below hb);have HB2:=hidK (HB1.out.trans (hb.mono (HB1.out.size)));have HG02:=upK HG0 hb;have HG12:=upK HG1 hb;clear hb HR HR' HB1 HG0 HG1 c0 c1;have HR:=HR2;have HR':=HR'2;have HG0:=HG02;have HG1:=HG12;clear HR2 HR'2 HG02 HG12;have c0 : w2.cell? ⟨w.heap.size,2,none⟩ = some (.slice d.a3 d.l3 d.c3):=cellK HG0.out 2;have c1 : w2.cell? ⟨w.heap.size + 1,2,none⟩ = some (.slice d'.a3 d'.l3 d'.c3):=cellK HG1.out 2;go_wp2_with fail;refine (eqvd_any d.a3 d'.a3 d.l3 d'.l3 d.c3 d'.c3 c.vs _ HR.out.v HR'.out.v).mono ?_;rintro e w3 ⟨rfl,hb⟩;have HR3:=hidK (HR.out.below hb)
 have HR'3:=hidK (HR'.out.below hb);have HB3:=hidK (HB2.out.trans (hb.mono (HB2.out.size)));have HG03:=upK HG0 hb;have HG13:=upK HG1 hb;clear hb HR HR' HB2 HG0 HG1 c0 c1;have HR:=HR3;have HR':=HR'3;have HG0:=HG03;have HG1:=HG13;clear HR3 HR'3 HG03 HG13;have c0 : w3.cell? ⟨w.heap.size,3,none⟩ = some (.slice d.a4 d.l4 d.c4):=cellK HG0.out 3;have c1 : w3.cell? ⟨w.heap.size + 1,3,none⟩ = some (.slice d'.a4 d'.l4 d'.c4):=cellK HG1.out 3;go_wp2_with fail;refine (eqxd_any d.a4 d'.a4 d.l4 d'.l4 d.c4 d'.c4 c.xs _ HR.out.x HR'.out.x).mono ?_;rintro e w4 ⟨rfl,hb⟩;have HR4:=hidK (HR.out.below hb);have HR'4:=hidK (HR'.out.below hb);have HB4:=hidK (HB3.out.trans (hb.mono (HB3.out.size)));have HG04:=upK HG0 hb;have HG14:=upK HG1 hb;clear hb HR HR' HB3 HG0 HG1 c0 c1;have HR:=HR4;have HR':=HR'4;have HG0:=HG04;have HG1:=HG14;clear HR4 HR'4 HG04 HG14;have c0 : w4.cell? ⟨w.heap.size,4,none⟩ = some (.slice d.a5 d.l5 d.c5):=cellK HG0.out 4;have c1 : w4.cell? ⟨w.heap.size + 1,4,none⟩ = some (.slice d'.a5 d'.l5 d'.c5):=cellK HG1.out 4;go_wp2_with fail;refine (eqpd_any d.a5 d'.a5 d.l5 d'.l5 d.c5 d'.c5 c.ps _ HR.out.p HR'.out.p).mono ?_;rintro e w5 ⟨rfl,hb⟩;have HR5:=hidK (HR.out.below hb);have HR'5:=hidK (HR'.out.below hb);have HB5:=hidK (HB4.out.trans (hb.mono (HB4.out.size)));have HG05:=upK HG0 hb;have HG15:=upK HG1 hb;clear hb HR HR' HB4 HG0 HG1 c0 c1;have HR:=HR5;have HR':=HR'5;have HG0:=HG05;have HG1:=HG15;clear HR5 HR'5 HG05 HG15;have c0 : w5.cell? ⟨w.heap.size,5,none⟩ = some (.int .i64 c.now):=cellK HG0.out 5;have c1 : w5.cell? ⟨w.heap.size + 1,5,none⟩ = some (.int .i64 c.now):=cellK HG1.out 5;go_wp2;go_ret;exact ⟨rfl,HB5.out⟩

theorem markCluster_any (d : Ad) (c : Cl) (N : Int) (S : Nat → Prop) (w : World) (ho : ClOwn w d c.raw S) (hS : ∀ k,S k → k < w.heap.size) (hN : 0 < N) (hb : mkCn N c.raw ≤ 1152921504606846976) :
  Calls Tryz.prog 11 #[.agg #[.slice d.a1 d.l1 d.c1,.slice d.a2 d.l2 d.c2,.slice d.a3 d.l3 d.c3,.slice d.a4 d.l4 d.c4,.slice d.a5 d.l5 d.c5,.int .i64 c.now],.int .i64 N] w fun e w' => e = .returned (.int .i64 (mkCn N c.raw)) ∧ ClOwn w' d (mkC N c.raw) S ∧ KeptS S w w':=by
 obtain ⟨P,ho⟩:=ho;have h1:=ho.keep (w':=w.alloc (.cells #[.slice d.a1 d.l1 d.c1,.slice d.a2 d.l2 d.c2,.slice d.a3 d.l3 d.c3,.slice d.a4 d.l4 d.c4,.slice d.a5 d.l5 d.c5,.int .i64 c.now] 36)) (fun k hk _ => (below1 w _).block k hk) (fun _ _ s => s);have O1:=hidK h1.n;have O2:=hidK h1.k;have O3:=hidK h1.v;have O4:=hidK h1.x;have O5:=hidK h1.p;have HK0 : Hid (KeptS S w (w.alloc (.cells #[.slice d.a1 d.l1 d.c1,.slice d.a2 d.l2 d.c2,.slice d.a3 d.l3 d.c3,.slice d.a4 d.l4 d.c4,.slice d.a5 d.l5 d.c5,.int .i64 c.now] 36))):=KeptS.of_below (below1 w _);have HS:=hidK hS;have HG0 : Hid ((w.alloc (.cells #[.slice d.a1 d.l1 d.c1,.slice d.a2 d.l2 d.c2,.slice d.a3 d.l3 d.c3,.slice d.a4 d.l4 d.c4,.slice d.a5 d.l5 d.c5,.int .i64 c.now] 36)).heap[w.heap.size]? = some (.cells #[.slice d.a1 d.l1 d.c1,.slice d.a2 d.l2 d.c2,.slice d.a3 d.l3 d.c3,.slice d.a4 d.l4 d.c4,.slice d.a5 d.l5 d.c5,.int .i64 c.now] 36 (0,0))):=Array.getElem?_push_size;have hnn : ¬ S w.heap.size:=fun s => Nat.lt_irrefl _ (hS _ s);have HNN:=hidK hnn;have HBd:=hidK hb;clear ho h1 hS hnn hb;go_enter Tryz.func11,Tryz.ntmps11;go_wp2_with fail;refine (marknd_any d.a1 d.l1 d.c1 c.ns (N) _ _ (by exact O1.out) hN (Int.le_trans (mkCn_n N c.raw) HBd.out) (Nat.le_trans O1.out.2.1 O1.out.2.2.1)).mono ?_;rintro e w1 ⟨rfl,ho,hk⟩;have M1:=hidK ho;have O21:=hidK (O2.out.kept hk (fun k s q => by have h1:=s.2;have h2:=q.2;omega));have O31:=hidK (O3.out.kept hk (fun k s q => by have h1:=s.2;have h2:=q.2;omega));have O41:=hidK (O4.out.kept hk (fun k s q => by have h1:=s.2;have h2:=q.2;omega));have O51:=hidK (O5.out.kept hk (fun k s q => by have h1:=s.2;have h2:=q.2;omega));have HK1:=hidK (HK0.out.trans (hk.mono (fun _ s => s.1)));have HG1:=hidK ((hk.block _ (lt_of_some HG0.out) (fun s => HNN.out s.1)).trans HG0.out);clear ho hk HK0 HG0 O1 O2 O3 O4 O5;have O2:=O21;clear O21;have O3:=O31;clear O31;have O4:=O41;clear O41;have O5:=O51;clear O51;have c0 : w1.cell? ⟨w.heap.size,1,none⟩ = some (.slice d.a2 d.l2 d.c2):=cellK HG1.out 1;go_wp2_with fail;refine (markkd_any d.a2 d.l2 d.c2 c.ks (mkNs N (c.ns.map ndF)) _ _ (by exact O2.out) (Int.lt_of_lt_of_le hN (mkNs_ge _ _)) (Int.le_trans (mkCn_k N c.raw) HBd.out) (Nat.le_trans O2.out.2.1 O2.out.2.2.1)).mono ?_;rintro e w2 ⟨rfl,ho,hk⟩;have M2:=hidK ho;have M12:=hidK (M1.out.kept hk (fun k s q => by have h1:=s.2;have h2:=q.2;omega));have O32:=hidK (O3.out.kept hk (fun k s q => by have h1:=s.2;have h2:=q.2;omega));have O42:=hidK (O4.out.kept hk (fun k s q => by have h1:=s.2;have h2:=q.2;omega));have O52:=hidK (O5.out.kept hk (fun k s q => by have h1:=s.2;have h2:=q.2;omega));have HK2:=hidK (HK1.out.trans (hk.mono (fun _ s => s.1)));have HG2:=hidK ((hk.block _ (lt_of_some HG1.out) (fun s => HNN.out s.1)).trans HG1.out);clear ho hk HK1 HG1 M1 O2 O3 O4 O5 c0;have M1:=M12;clear M12;have O3:=O32;clear O32;have O4:=O42;clear O42;have O5:=O52;clear O52;have c0 : w2.cell? ⟨w.heap.size,2,none⟩ = some (.slice d.a3 d.l3 d.c3):=cellK HG2.out 2;go_wp2_with fail;refine (markvd_any d.a3 d.l3 d.c3 c.vs (mkNs (mkNs N (c.ns.map ndF)) (c.ks.map kdF)) _ _ (by exact O3.out) (Int.lt_of_lt_of_le (Int.lt_of_lt_of_le hN (mkNs_ge _ _)) (mkNs_ge _ _)) (Int.le_trans (mkCn_v N c.raw) HBd.out) (Nat.le_trans O3.out.2.1 O3.out.2.2.1)).mono ?_
 rintro e w3 ⟨rfl,ho,hk⟩;have M3:=hidK ho;have M13:=hidK (M1.out.kept hk (fun k s q => by have h1:=s.2;have h2:=q.2;omega));have M23:=hidK (M2.out.kept hk (fun k s q => by have h1:=s.2;have h2:=q.2;omega));have O43:=hidK (O4.out.kept hk (fun k s q => by have h1:=s.2;have h2:=q.2;omega));have O53:=hidK (O5.out.kept hk (fun k s q => by have h1:=s.2;have h2:=q.2;omega));have HK3:=hidK (HK2.out.trans (hk.mono (fun _ s => s.1)));have HG3:=hidK ((hk.block _ (lt_of_some HG2.out) (fun s => HNN.out s.1)).trans HG2.out);clear ho hk HK2 HG2 M1 M2 O3 O4 O5 c0;have M1:=M13;clear M13;have M2:=M23;clear M23;have O4:=O43;clear O43;have O5:=O53;clear O53;have c0 : w3.cell? ⟨w.heap.size,3,none⟩ = some (.slice d.a4 d.l4 d.c4):=cellK HG3.out 3;go_wp2_with fail;refine (markxd_any d.a4 d.l4 d.c4 c.xs (mkNs (mkNs (mkNs N (c.ns.map ndF)) (c.ks.map kdF)) (c.vs.map vdF)) _ _ (by exact O4.out) (Int.lt_of_lt_of_le (Int.lt_of_lt_of_le (Int.lt_of_lt_of_le hN (mkNs_ge _ _)) (mkNs_ge _ _)) (mkNs_ge _ _)) (Int.le_trans (mkCn_x N c.raw) HBd.out) (Nat.le_trans O4.out.2.1 O4.out.2.2.1)).mono ?_;rintro e w4 ⟨rfl,ho,hk⟩;have M4:=hidK ho;have M14:=hidK (M1.out.kept hk (fun k s q => by have h1:=s.2;have h2:=q.2;omega));have M24:=hidK (M2.out.kept hk (fun k s q => by have h1:=s.2;have h2:=q.2;omega));have M34:=hidK (M3.out.kept hk (fun k s q => by have h1:=s.2;have h2:=q.2;omega));have O54:=hidK (O5.out.kept hk (fun k s q => by have h1:=s.2;have h2:=q.2;omega));have HK4:=hidK (HK3.out.trans (hk.mono (fun _ s => s.1)));have HG4:=hidK ((hk.block _ (lt_of_some HG3.out) (fun s => HNN.out s.1)).trans HG3.out);clear ho hk HK3 HG3 M1 M2 M3 O4 O5 c0;have M1:=M14;clear M14;have M2:=M24;clear M24;have M3:=M34;clear M34;have O5:=O54;clear O54;have c0 : w4.cell? ⟨w.heap.size,4,none⟩ = some (.slice d.a5 d.l5 d.c5):=cellK HG4.out 4;go_wp2_with fail;refine (markpd_any d.a5 d.l5 d.c5 c.ps (mkNs (mkNs (mkNs (mkNs N (c.ns.map ndF)) (c.ks.map kdF)) (c.vs.map vdF)) (c.xs.map xdF)) _ _ (by exact O5.out) (Int.lt_of_lt_of_le (Int.lt_of_lt_of_le (Int.lt_of_lt_of_le (Int.lt_of_lt_of_le hN (mkNs_ge _ _)) (mkNs_ge _ _)) (mkNs_ge _ _)) (mkNs_ge _ _)) (Int.le_trans (mkCn_p N c.raw) HBd.out) (Nat.le_trans O5.out.2.1 O5.out.2.2.1)).mono ?_;rintro e w5 ⟨rfl,ho,hk⟩;have M5:=hidK ho;have M15:=hidK (M1.out.kept hk (fun k s q => by have h1:=s.2;have h2:=q.2;omega));have M25:=hidK (M2.out.kept hk (fun k s q => by have h1:=s.2;have h2:=q.2;omega));have M35:=hidK (M3.out.kept hk (fun k s q => by have h1:=s.2;have h2:=q.2;omega));have M45:=hidK (M4.out.kept hk (fun k s q => by have h1:=s.2;have h2:=q.2;omega));have HK5:=hidK (HK4.out.trans (hk.mono (fun _ s => s.1)));have HG5:=hidK ((hk.block _ (lt_of_some HG4.out) (fun s => HNN.out s.1)).trans HG4.out);clear ho hk HK4 HG4 M1 M2 M3 M4 O5 c0;have M1:=M15;clear M15;have M2:=M25;clear M25;have M3:=M35;clear M35;have M4:=M45;clear M45;go_wp2_with fail;go_ret;exact ⟨rfl,⟨P,M1.out,M2.out,M3.out,M4.out,M5.out⟩,HK5.out⟩

theorem heldCluster_any (d : Ad) (c : Cl) (now N : Int) (w : World) (hr : ClRow w d (mkC N c.raw)) (hN : 0 < N) (hb : mkCn N c.raw ≤ 1152921504606846976) :
  Calls Tryz.prog 45 #[.agg #[.slice d.a1 d.l1 d.c1,.slice d.a2 d.l2 d.c2,.slice d.a3 d.l3 d.c3,.slice d.a4 d.l4 d.c4,.slice d.a5 d.l5 d.c5,.int .i64 now],.int .i64 N] w fun e w' => e = .returned (.int .i64 (mkCn N c.raw)) ∧ Below w.heap.size w w':=by
 have HR:=hidK (hr.below (below1 w (.cells #[.slice d.a1 d.l1 d.c1,.slice d.a2 d.l2 d.c2,.slice d.a3 d.l3 d.c3,.slice d.a4 d.l4 d.c4,.slice d.a5 d.l5 d.c5,.int .i64 now] 36)));have HB0:=hidK (below1 w (.cells #[.slice d.a1 d.l1 d.c1,.slice d.a2 d.l2 d.c2,.slice d.a3 d.l3 d.c3,.slice d.a4 d.l4 d.c4,.slice d.a5 d.l5 d.c5,.int .i64 now] 36));have HG0 : Hid ((w.alloc (.cells #[.slice d.a1 d.l1 d.c1,.slice d.a2 d.l2 d.c2,.slice d.a3 d.l3 d.c3,.slice d.a4 d.l4 d.c4,.slice d.a5 d.l5 d.c5,.int .i64 now] 36)).heap[w.heap.size]? = some (.cells #[.slice d.a1 d.l1 d.c1,.slice d.a2 d.l2 d.c2,.slice d.a3 d.l3 d.c3,.slice d.a4 d.l4 d.c4,.slice d.a5 d.l5 d.c5,.int .i64 now] 36 (0,0))):=Array.getElem?_push_size;have HBd:=hidK hb;clear hr hb;have p1 : ¬ mkNs N (c.ns.map ndF) < 0:=Int.not_lt.2 (Int.le_of_lt (Int.lt_of_lt_of_le hN (mkNs_ge _ _)));have p2 : ¬ mkNs (mkNs N (c.ns.map ndF)) (c.ks.map kdF) < 0:=Int.not_lt.2 (Int.le_of_lt (Int.lt_of_lt_of_le (Int.lt_of_lt_of_le hN (mkNs_ge _ _)) (mkNs_ge _ _)));have p3 : ¬ mkNs (mkNs (mkNs N (c.ns.map ndF)) (c.ks.map kdF)) (c.vs.map vdF) < 0:=Int.not_lt.2 (Int.le_of_lt (Int.lt_of_lt_of_le (Int.lt_of_lt_of_le (Int.lt_of_lt_of_le hN (mkNs_ge _ _)) (mkNs_ge _ _)) (mkNs_ge _ _)));have p4 : ¬ mkNs (mkNs (mkNs (mkNs N (c.ns.map ndF)) (c.ks.map kdF)) (c.vs.map vdF)) (c.xs.map xdF) < 0:=Int.not_lt.2 (Int.le_of_lt (Int.lt_of_lt_of_le (Int.lt_of_lt_of_le (Int.lt_of_lt_of_le (Int.lt_of_lt_of_le hN (mkNs_ge _ _)) (mkNs_ge _ _)) (mkNs_ge _ _)) (mkNs_ge _ _)));have p5 : ¬ mkNs (mkNs (mkNs (mkNs (mkNs N (c.ns.map ndF)) (c.ks.map kdF)) (c.vs.map vdF)) (c.xs.map xdF)) (c.ps.map pdF) < 0:=Int.not_lt.2 (Int.le_of_lt (Int.lt_of_lt_of_le (Int.lt_of_lt_of_le (Int.lt_of_lt_of_le (Int.lt_of_lt_of_le (Int.lt_of_lt_of_le hN (mkNs_ge _ _)) (mkNs_ge _ _)) (mkNs_ge _ _)) (mkNs_ge _ _)) (mkNs_ge _ _)));go_enter Tryz.func45,Tryz.ntmps45;go_wp2_with fail;refine (heldnd_any d.a1 d.l1 d.c1 c.ns (N) _ (by exact HR.out.n) hN (Int.le_trans (mkCn_n N c.raw) HBd.out) (Nat.le_trans HR.out.n.2.1 HR.out.n.2.2.1)).mono ?_;rintro e w1 ⟨rfl,hb⟩;have HR1:=hidK (HR.out.below hb);have HB1:=hidK (HB0.out.trans (hb.mono (HB0.out.size)));have HG1:=upK HG0 hb;clear hb HR HB0 HG0;have HR:=HR1;clear HR1;have c0 : w1.cell? ⟨w.heap.size,1,none⟩ = some (.slice d.a2 d.l2 d.c2):=cellK HG1.out 1;go_wp2_with fail;refine (heldkd_any d.a2 d.l2 d.c2 c.ks (mkNs N (c.ns.map ndF)) _ (by exact HR.out.k) (Int.lt_of_lt_of_le hN (mkNs_ge _ _)) (Int.le_trans (mkCn_k N c.raw) HBd.out) (Nat.le_trans HR.out.k.2.1 HR.out.k.2.2.1)).mono ?_;rintro e w2 ⟨rfl,hb⟩;have HR2:=hidK (HR.out.below hb);have HB2:=hidK (HB1.out.trans (hb.mono (HB1.out.size)));have HG2:=upK HG1 hb;clear hb HR HB1 HG1 c0;have HR:=HR2;clear HR2;have c0 : w2.cell? ⟨w.heap.size,2,none⟩ = some (.slice d.a3 d.l3 d.c3):=cellK HG2.out 2;go_wp2_with fail;refine (heldvd_any d.a3 d.l3 d.c3 c.vs (mkNs (mkNs N (c.ns.map ndF)) (c.ks.map kdF)) _ (by exact HR.out.v) (Int.lt_of_lt_of_le (Int.lt_of_lt_of_le hN (mkNs_ge _ _)) (mkNs_ge _ _)) (Int.le_trans (mkCn_v N c.raw) HBd.out) (Nat.le_trans HR.out.v.2.1 HR.out.v.2.2.1)).mono ?_
 rintro e w3 ⟨rfl,hb⟩;have HR3:=hidK (HR.out.below hb);have HB3:=hidK (HB2.out.trans (hb.mono (HB2.out.size)));have HG3:=upK HG2 hb;clear hb HR HB2 HG2 c0;have HR:=HR3;clear HR3;have c0 : w3.cell? ⟨w.heap.size,3,none⟩ = some (.slice d.a4 d.l4 d.c4):=cellK HG3.out 3;go_wp2_with fail;refine (heldxd_any d.a4 d.l4 d.c4 c.xs (mkNs (mkNs (mkNs N (c.ns.map ndF)) (c.ks.map kdF)) (c.vs.map vdF)) _ (by exact HR.out.x) (Int.lt_of_lt_of_le (Int.lt_of_lt_of_le (Int.lt_of_lt_of_le hN (mkNs_ge _ _)) (mkNs_ge _ _)) (mkNs_ge _ _)) (Int.le_trans (mkCn_x N c.raw) HBd.out) (Nat.le_trans HR.out.x.2.1 HR.out.x.2.2.1)).mono ?_;rintro e w4 ⟨rfl,hb⟩;have HR4:=hidK (HR.out.below hb);have HB4:=hidK (HB3.out.trans (hb.mono (HB3.out.size)));have HG4:=upK HG3 hb;clear hb HR HB3 HG3 c0;have HR:=HR4;clear HR4;have c0 : w4.cell? ⟨w.heap.size,4,none⟩ = some (.slice d.a5 d.l5 d.c5):=cellK HG4.out 4;go_wp2_with fail;refine (heldpd_any d.a5 d.l5 d.c5 c.ps (mkNs (mkNs (mkNs (mkNs N (c.ns.map ndF)) (c.ks.map kdF)) (c.vs.map vdF)) (c.xs.map xdF)) _ (by exact HR.out.p) (Int.lt_of_lt_of_le (Int.lt_of_lt_of_le (Int.lt_of_lt_of_le (Int.lt_of_lt_of_le hN (mkNs_ge _ _)) (mkNs_ge _ _)) (mkNs_ge _ _)) (mkNs_ge _ _)) (Int.le_trans (mkCn_p N c.raw) HBd.out) (Nat.le_trans HR.out.p.2.1 HR.out.p.2.2.1)).mono ?_;rintro e w5 ⟨rfl,hb⟩;have HR5:=hidK (HR.out.below hb);have HB5:=hidK (HB4.out.trans (hb.mono (HB4.out.size)));have HG5:=upK HG4 hb;clear hb HR HB4 HG4 c0;have HR:=HR5;clear HR5;go_wp2_with fail;go_ret;exact ⟨rfl,HB5.out⟩

end Rc
end Go.Proofs.YtpibkpofdbjdaaaGreatDoor

namespace Go.Proofs.YtpibkpofdbjdaaaGreatDoor
open Go.RowKit
namespace Rc

theorem less_irr : ∀ x : List UInt8,Op.bytesLess x x = false
 | [] => rfl
 | a :: x => by simp [Op.bytesLess,less_irr x]
theorem less_trans : ∀ x y z : List UInt8,Op.bytesLess x y = true → Op.bytesLess y z = true → Op.bytesLess x z = true
 | _,[],_,h,_ => by cases ‹List UInt8› <;> simp [Op.bytesLess] at h
 | _,_ :: _,[],_,h => by simp [Op.bytesLess] at h
 | [],_ :: _,_ :: _,_,_ => rfl
 | a :: x,b :: y,c :: z,h,k => by
  simp only [Op.bytesLess,Bool.or_eq_true,decide_eq_true_eq,Bool.and_eq_true,beq_iff_eq] at h k ⊢;rcases h with h | ⟨rfl,h⟩
  ·rcases k with k | ⟨rfl,k⟩
   ·exact .inl (UInt8.lt_trans h k)
   ·exact .inl h
  ·rcases k with k | ⟨rfl,k⟩
   ·exact .inl k
   ·exact .inr ⟨rfl,less_trans x y z h k⟩
section
variable {α : Type} {nm : α → ByteArray} {xs : List α} {t : ByteArray}
def RisBy (nm : α → ByteArray) (xs : List α) : Prop:=∀ (j : Nat) x y,xs[j + 1]? = some x → xs[j]? = some y → Op.bytesLess (nm y).toList (nm x).toList = true
theorem RisBy.lt (h : RisBy nm xs) {i j : Nat} {x y : α} (hij : i < j) (hi : xs[i]? = some x) (hj : xs[j]? = some y) : Op.bytesLess (nm x).toList (nm y).toList = true:=by
 induction j generalizing y with
 | zero => omega
 | succ j ih =>
  by_cases e : i = j
  ·subst e;exact h i y x hj hi
  ·have hl : j < xs.length:=by have:=(List.getElem?_eq_some_iff.1 hj).1;omega
   have hz : xs[j]? = some (xs[j]'hl):=List.getElem?_eq_getElem _;exact less_trans _ _ _ (ih qqd1 hz) (h j y _ hj hz)
theorem RisBy.inj (h : RisBy nm xs) {i j : Nat} {x y : α} (hi : xs[i]? = some x) (hj : xs[j]? = some y) (e : nm x = nm y) : i = j ∧ x = y:=by
 have hij : i = j:=by
  rcases Nat.lt_trichotomy i j with k | k | k
  ·have:=h.lt k hi hj;rw [e,less_irr] at this;cases this
  ·exact k
  ·have:=h.lt k hj hi;rw [e,less_irr] at this;cases this
 subst hij;rw [hi] at hj;exact ⟨rfl,Option.some.inj hj⟩
def pl (nm : α → ByteArray) (xs : List α) (t : ByteArray) : Nat:=xs.findIdx (fun x => !Op.bytesLess (nm x).toList t.toList)
def hit (nm : α → ByteArray) (xs : List α) (t : ByteArray) : Bool:=match xs[pl nm xs t]? with | some x => (nm x).toList == t.toList | none => false
theorem pl_at {k : Nat} {x : α} (h : ∀ (j : Nat) y,j < k → xs[j]? = some y → Op.bytesLess (nm y).toList t.toList = true) (hx : xs[k]? = some x) (hl : Op.bytesLess (nm x).toList t.toList = false) : pl nm xs t = k:=by
 have hk : k < xs.length:=(List.getElem?_eq_some_iff.1 hx).1;have hxe : xs[k] = x:=(List.getElem?_eq_some_iff.1 hx).2;unfold pl;rw [List.findIdx_eq hk];refine ⟨by rw [hxe,hl];rfl,fun j hj => ?_⟩;rw [h j _ hj (List.getElem?_eq_getElem qqd1)];rfl
theorem pl_end (h : ∀ (j : Nat) y,xs[j]? = some y → Op.bytesLess (nm y).toList t.toList = true) : pl nm xs t = xs.length:=by
 unfold pl;rw [List.findIdx_eq_length];intro x hx;obtain ⟨j,hj,rfl⟩:=List.mem_iff_getElem.1 hx;rw [h j _ (List.getElem?_eq_getElem hj)];rfl
theorem tl_inj {a b : ByteArray} (h : (a.toList == b.toList) = true) : a = b:=by
 by_cases e : a = b
 ·exact e
 ·rw [tl_no e] at h;cases h
theorem hit_at (hr : RisBy nm xs) {j : Nat} {x : α} (hx : xs[j]? = some x) (hn : nm x = t) : pl nm xs t = j ∧ hit nm xs t = true:=by
 have h : pl nm xs t = j:=pl_at (fun i y hi hy => by rw [← hn];exact hr.lt hi hy hx) hx (by rw [hn];exact less_irr _);refine ⟨h,?_⟩;unfold hit;rw [h,hx];exact tl_yes hn
theorem hit_no (h : ∀ (j : Nat) x,xs[j]? = some x → ¬ nm x = t) : hit nm xs t = false:=by
 unfold hit;split
 ·next x hx => exact tl_no (h _ x hx)
 ·rfl
theorem hit_yes (h : hit nm xs t = true) : ∃ x,xs[pl nm xs t]? = some x ∧ nm x = t:=by
 unfold hit at h;split at h
 ·next x hx => exact ⟨x,hx,tl_inj h⟩
 ·cases h
def RowOk (ok : α → Prop) (nm : α → ByteArray) (xs : List α) (most : Int) : Prop:=(xs.length : Int) ≤ most ∧ (∀ (j : Nat) x,xs[j]? = some x → ok x) ∧ RisBy nm xs
end
theorem BoolB.yes {p : Prop} {w w' : World} {e : Ending} (h : BoolB p w e w') (hp : p) : e = .returned (.bool true) ∧ Below w.heap.size w w':=by
 obtain ⟨r,rfl,hr,hb⟩:=h;exact ⟨by rw [hr.2 hp],hb⟩
theorem BoolB.no {p : Prop} {w w' : World} {e : Ending} (h : BoolB p w e w') (hp : ¬ p) : e = .returned (.bool false) ∧ Below w.heap.size w w':=by
 obtain ⟨r,rfl,hr,hb⟩:=h;cases r
 ·exact ⟨rfl,hb⟩
 ·exact absurd (hr.1 rfl) hp
theorem BoolB.t {p : Prop} {w w' : World} (hp : p) (hb : Below w.heap.size w w') : BoolB p w (.returned (.bool true)) w':=⟨true,rfl,⟨fun _ => hp,fun _ => rfl⟩,hb⟩
theorem BoolB.f {p : Prop} {w w' : World} (hp : ¬ p) (hb : Below w.heap.size w w') : BoolB p w (.returned (.bool false)) w':=⟨false,rfl,⟨fun h => (by cases h),fun h => absurd h hp⟩,hb⟩
def ndOk (x : Nd) : Prop:=NodeOk x.n x.z x.c x.s x.u x.zs
def kdOk (x : Kd) : Prop:=ClassOk x.n x.z
def vdOk (v : Vd) : Prop:=VolOk v.n v.c v.z v.k v.x v.m v.y v.zs
def xdOk (x : Xd) : Prop:=ClaimOk x.n x.z x.k x.v
def pdOk (x : Pd) : Prop:=PodOk x.n x.c x.z x.zs x.d x.p

end Rc
end Go.Proofs.YtpibkpofdbjdaaaGreatDoor

namespace Go.Proofs.YtpibkpofdbjdaaaGreatDoor
open Go.RowKit

theorem ivol_any (n : ByteArray) (c : Int) (z k : ByteArray) (x : Bool) (m : ByteArray) (y : Bool) (a : Option Addr) (len cap : Nat) (zs : List ByteArray) (w : World) (hn : n.size ≤ 9223372036854775807) (hz : z.size ≤ 9223372036854775807) (hk : k.size ≤ 9223372036854775807) (hm : m.size ≤ 9223372036854775807) (hr : TxRow w a len cap zs) :
  Calls Tryz.prog 193 #[.agg #[.string n,.int .i64 c,.string z,.string k,.bool x,.string m,.bool y,.slice a len cap]] w (BoolB (VolOk n c z k x m y zs) w):=by
 have HR : Hid (TxRow w a len cap zs):=hr;have hzl : zs.length = len:=hr.1;have hlc : len ≤ 9223372036854775807:=Nat.le_trans hr.2.1 hr.2.2.1;clear hr;cases y
 ·have HY : Hid (false = true → m = ⟨#[]⟩):=fun h => qqd10;by_cases p0 : NameOk n;case neg =>
   exact qqa40
  have F0 : Hid (∀ w,Calls Tryz.prog 181 #[.string n] w fun e w' => e = .returned (.bool true) ∧ w' = w):=fun w => (iname_any n w hn).mono fun _ _ h => h.yes p0;by_cases p1 : Inn c 1 1048576;case neg =>
   exact qqa27
  have F1 : Hid (∀ w,Calls Tryz.prog 97 #[.int .i64 c,.int .i64 1,.int .i64 1048576] w fun e w' => e = .returned (.bool true) ∧ w' = w):=fun w => (kwithin_any c 1 1048576 w).mono fun _ _ h => h.yes p1;by_cases p2 : NameOk z;case neg =>
   exact qqa25
  have F2 : Hid (∀ w,Calls Tryz.prog 181 #[.string z] w fun e w' => e = .returned (.bool true) ∧ w' = w):=fun w => (iname_any z w hz).mono fun _ _ h => h.yes p2;by_cases p3 : NameOk k;case neg =>
   exact qqa24
  have F3 : Hid (∀ w,Calls Tryz.prog 181 #[.string k] w fun e w' => e = .returned (.bool true) ∧ w' = w):=fun w => (iname_any k w hk).mono fun _ _ h => h.yes p3;by_cases p4 : ZoneOk m;case neg =>
   have F4 : Hid (∀ w,Calls Tryz.prog 182 #[.string m] w fun e w' => e = .returned (.bool false) ∧ w' = w):=fun w => (izone_any m w hm).mono fun _ _ h => h.no p4;have HP:=hidK p4;clear p4;go_enter Tryz.func193,Tryz.ntmps193;go_wp2_with fail;go_quiet ((first | (go_at_call_of 181 (Value.string n);exact Calls.quiet_of_same (F0.out _)) | (go_at_call_of 97 (Value.int .i64 c);exact Calls.quiet_of_same (F1.out _)) | (go_at_call_of 181 (Value.string z);exact Calls.quiet_of_same (F2.out _)) | (go_at_call_of 181 (Value.string k);exact Calls.quiet_of_same (F3.out _)) | (go_at_call_of 182 (Value.string m);exact Calls.quiet_of_same (F4.out _))));exact qqa98
  have F4 : Hid (∀ w,Calls Tryz.prog 182 #[.string m] w fun e w' => e = .returned (.bool true) ∧ w' = w):=fun w => (izone_any m w hm).mono fun _ _ h => h.yes p4;obtain ⟨q,hq⟩ : ∃ q : Int,q = if x = true then 1 else 6:=⟨_,rfl⟩;have HM : Hid (∀ w,Calls Tryz.prog 194 #[.agg #[.string n,.int .i64 c,.string z,.string k,.bool x,.string m,.bool false,.slice a len cap]] w fun e w' => e = .returned (.int .i64 q) ∧ Below w.heap.size w w'):=fun w => by rw [hq];exact mostOn_any n c z k x m false a len cap w
  have HQ : Hid (q = if x = true then 1 else 6):=hq;clear hq;go_enter Tryz.func193,Tryz.ntmps193;go_wp2_with fail;go_region_with (first | (go_at_call_of 181 (Value.string n);refine (F0.out _).mono ?_;rintro e w1 ⟨rfl,rfl⟩) | (go_at_call_of 97 (Value.int .i64 c);refine (F1.out _).mono ?_;rintro e w1 ⟨rfl,rfl⟩) | (go_at_call_of 181 (Value.string z);refine (F2.out _).mono ?_;rintro e w1 ⟨rfl,rfl⟩) | (go_at_call_of 181 (Value.string k);refine (F3.out _).mono ?_;rintro e w1 ⟨rfl,rfl⟩) | (go_at_call_of 182 (Value.string m);refine (F4.out _).mono ?_;rintro e w1 ⟨rfl,rfl⟩) | (go_at_call 194;refine (HM.out _).mono ?_;rintro e w1 ⟨rfl,hb⟩;have hc7:=cellK (slotKd hb).1 7;simp only [List.getElem?_toArray,List.getElem?_cons_succ,List.getElem?_cons_zero] at hc7) | (go_at_call 183;refine (inames_any a len cap zs _ _ (HR.out.below (slotKd hb).2.1)).mono ?_;rintro e w2 ⟨r,rfl,hr,rfl⟩));all_goals (
   go_wp2_with fail;go_ret
   exact ⟨r,rfl,⟨fun h => ⟨p0,p1,p2,p3,p4,HY.out,HQ.out ▸ hr.1 h⟩,fun h => hr.2 (HQ.out ▸ h.2.2.2.2.2.2)⟩,(slotKd hb).2.1⟩)
 by_cases hm0 : m = ⟨#[]⟩
 ·subst hm0;have HY : Hid True:=trivial;by_cases p0 : NameOk n;case neg =>
   exact qqa40
  have F0 : Hid (∀ w,Calls Tryz.prog 181 #[.string n] w fun e w' => e = .returned (.bool true) ∧ w' = w):=fun w => (iname_any n w hn).mono fun _ _ h => h.yes p0;by_cases p1 : Inn c 1 1048576;case neg =>
   exact qqa27
  have F1 : Hid (∀ w,Calls Tryz.prog 97 #[.int .i64 c,.int .i64 1,.int .i64 1048576] w fun e w' => e = .returned (.bool true) ∧ w' = w):=fun w => (kwithin_any c 1 1048576 w).mono fun _ _ h => h.yes p1;by_cases p2 : NameOk z;case neg =>
   exact qqa25
  have F2 : Hid (∀ w,Calls Tryz.prog 181 #[.string z] w fun e w' => e = .returned (.bool true) ∧ w' = w):=fun w => (iname_any z w hz).mono fun _ _ h => h.yes p2;by_cases p3 : NameOk k;case neg =>
   exact qqa24
  have F3 : Hid (∀ w,Calls Tryz.prog 181 #[.string k] w fun e w' => e = .returned (.bool true) ∧ w' = w):=fun w => (iname_any k w hk).mono fun _ _ h => h.yes p3;by_cases p4 : ZoneOk (⟨#[]⟩ : ByteArray);case neg =>
   have F4 : Hid (∀ w,Calls Tryz.prog 182 #[.string (⟨#[]⟩ : ByteArray)] w fun e w' => e = .returned (.bool false) ∧ w' = w):=fun w => (izone_any (⟨#[]⟩ : ByteArray) w hm).mono fun _ _ h => h.no p4;have HP:=hidK p4;clear p4;go_enter Tryz.func193,Tryz.ntmps193;go_wp2_with fail;go_quiet ((first | (go_at_call_of 181 (Value.string n);exact Calls.quiet_of_same (F0.out _)) | (go_at_call_of 97 (Value.int .i64 c);exact Calls.quiet_of_same (F1.out _)) | (go_at_call_of 181 (Value.string z);exact Calls.quiet_of_same (F2.out _)) | (go_at_call_of 181 (Value.string k);exact Calls.quiet_of_same (F3.out _)) | (go_at_call_of 182 (Value.string (⟨#[]⟩ : ByteArray));exact Calls.quiet_of_same (F4.out _))));exact qqa98
  have F4 : Hid (∀ w,Calls Tryz.prog 182 #[.string (⟨#[]⟩ : ByteArray)] w fun e w' => e = .returned (.bool true) ∧ w' = w):=fun w => (izone_any (⟨#[]⟩ : ByteArray) w hm).mono fun _ _ h => h.yes p4;obtain ⟨q,hq⟩ : ∃ q : Int,q = if x = true then 1 else 6:=⟨_,rfl⟩;have HM : Hid (∀ w,Calls Tryz.prog 194 #[.agg #[.string n,.int .i64 c,.string z,.string k,.bool x,.string (⟨#[]⟩ : ByteArray),.bool true,.slice a len cap]] w fun e w' => e = .returned (.int .i64 q) ∧ Below w.heap.size w w'):=fun w => by rw [hq];exact mostOn_any n c z k x (⟨#[]⟩ : ByteArray) true a len cap w
  have HQ : Hid (q = if x = true then 1 else 6):=hq;clear hq;go_enter Tryz.func193,Tryz.ntmps193;go_wp2_with fail;go_region_with (first | (go_at_call_of 181 (Value.string n);refine (F0.out _).mono ?_;rintro e w1 ⟨rfl,rfl⟩) | (go_at_call_of 97 (Value.int .i64 c);refine (F1.out _).mono ?_;rintro e w1 ⟨rfl,rfl⟩) | (go_at_call_of 181 (Value.string z);refine (F2.out _).mono ?_;rintro e w1 ⟨rfl,rfl⟩) | (go_at_call_of 181 (Value.string k);refine (F3.out _).mono ?_;rintro e w1 ⟨rfl,rfl⟩) | (go_at_call_of 182 (Value.string (⟨#[]⟩ : ByteArray));refine (F4.out _).mono ?_;rintro e w1 ⟨rfl,rfl⟩) | (go_at_call 194;refine (HM.out _).mono ?_;rintro e w1 ⟨rfl,hb⟩;have hc7:=cellK (slotKd hb).1 7;simp only [List.getElem?_toArray,List.getElem?_cons_succ,List.getElem?_cons_zero] at hc7) | (go_at_call 183;refine (inames_any a len cap zs _ _ (HR.out.below (slotKd hb).2.1)).mono ?_;rintro e w2 ⟨r,rfl,hr,rfl⟩));all_goals (
   go_wp2_with fail;go_ret
   exact ⟨r,rfl,⟨fun h => ⟨p0,p1,p2,p3,p4,(fun _ => rfl),HQ.out ▸ hr.1 h⟩,fun h => hr.2 (HQ.out ▸ h.2.2.2.2.2.2)⟩,(slotKd hb).2.1⟩)
 have hq9 : m.toList.isEmpty = false:=isE_no hm0;go_enter Tryz.func193,Tryz.ntmps193;exact qqa141

end Go.Proofs.YtpibkpofdbjdaaaGreatDoor

namespace Go.Proofs.YtpibkpofdbjdaaaGreatDoor
open Go.RowKit
namespace Rc
open Mk

theorem callednd_any (x : Nd) (va : Option Addr) (vl vc : Nat) (w : World) :
  Calls Tryz.prog 187 #[.agg #[.string x.n,.string x.z,.int .i64 x.c,.int .i64 x.s,.int .i64 x.u,.bool x.d,.slice va vl vc]] w fun e w' => e = .returned (.string x.n) ∧ Below w.heap.size w w':=by
 go_enter Tryz.func187,Tryz.ntmps187;go_wp2;go_ret;exact ⟨rfl,below1 _ _⟩

theorem rightnd_any (x : Nd) (va : Option Addr) (vl vc : Nat) (w : World) (hn : x.n.size ≤ 9223372036854775807) (hz : x.z.size ≤ 9223372036854775807) (hr : TxRow w va vl vc x.zs) :
  Calls Tryz.prog 188 #[.agg #[.string x.n,.string x.z,.int .i64 x.c,.int .i64 x.s,.int .i64 x.u,.bool x.d,.slice va vl vc]] w (BoolB (ndOk x) w):=by
 have HR:=hidK (hr.below (below1 w (.cells #[.string x.n,.string x.z,.int .i64 x.c,.int .i64 x.s,.int .i64 x.u,.bool x.d,.slice va vl vc] 82)));clear hr;go_enter Tryz.func188,Tryz.ntmps188;go_wp2_with fail;refine (inode_any x.n x.z x.c x.s x.u x.d va vl vc x.zs _ hn hz HR.out).mono ?_;exact qqa32

theorem placend_any (a : Option Addr) (len cap : Nat) (xs : List Nd) (t : ByteArray) (w : World) (hr : RRow w a len cap 7 (xs.map ndF)) :
  Calls Tryz.prog 108 #[.slice a len cap,.string t] w fun e w' => e = .returned (.tuple #[.int .i64 (pl Nd.n xs t : Nat),.bool (hit Nd.n xs t)]) ∧ Below w.heap.size w w':=by
 have HR:=hidK hr;obtain ⟨hxl,hlc⟩:=qqb5;clear hr;have hmcalled : ∀ (v : Value) (w : World),(method 335 82 v "loop.example/g00571/impl.called").run Tryz.prog w = .ok (187,v) w:=fun _ _ => by kernel_rfl
 go_enter Tryz.func108,Tryz.ntmps108;go_wp2;go_loopw [10] (fun i wr => ∃ k : Nat,k ≤ len ∧ i = .int .i64 k ∧ Hid (∀ (j : Nat) y,j < k → xs[j]? = some y → Op.bytesLess y.n.toList t.toList = true) ∧ Hid (Below w.heap.size w wr)) (fun i _ => len - (intOf i).toNat);case atStart => exact ⟨0,by omega,rfl,fun j y hj => by omega,Below.refl _ _⟩
 case round =>
  obtain ⟨k,hk,rfl,HE,HB⟩:=hrel;by_cases hlt : k < len
  ·obtain ⟨b,o,x,rfl,hb,hx,hat⟩:=nd_at (HR.out.below HB.out) hlt;obtain ⟨va,vl,vc,hvr,z0,z1,c0,c1,c2,c3,c4,c5,c6⟩:=nd_cells hat;have HX:=hidK hx;clear hat hx z0 z1 hvr;obtain ⟨HC,HB1⟩:=qqb77;go_wp2_with fail;refine (HC.out _).mono ?_;rintro e w1 ⟨rfl,hb1⟩;obtain ⟨g1,-,-⟩:=slotK hb1;have hs1:=hb1.size;rw [show (wr.alloc (.cells #[.string x.n,.string x.z,.int .i64 x.c,.int .i64 x.s,.int .i64 x.u,.bool x.d,.slice va vl vc] 82)).heap.size = wr.heap.size + 1 from by simp] at hs1;obtain ⟨HB2,d0⟩:=qqb12;obtain ⟨d1,d2,d3,d4,d5,d6⟩:=qqb31;clear g1 hb1 c0 c1 c2 c3 c4 c5 c6 HB1;cases hless : Op.bytesLess x.n.toList t.toList
   ·go_wp2_with fail;refine (HC.out _).mono ?_;rintro e w2 ⟨rfl,hb2⟩;obtain ⟨HB3,hp⟩:=qqb27;clear hb2;go_wp2_with fail;refine bodyPost_ret (v:=.tuple #[.int .i64 k,.bool (x.n.toList == t.toList)]) (by simp [results,Tryz.results108,go_sem]) rfl ⟨?_,HB3.out⟩;unfold hit;rw [hp,HX.out]
   ·exact qqa20
  ·obtain rfl : k = len:=qqd1
   have hp : pl Nd.n xs t = xs.length:=pl_end (fun j y hy => HE.out j y qqd11 hy);have hh : hit Nd.n xs t = false:=by unfold hit;rw [hp,List.getElem?_eq_none (Nat.le_refl _)]
   have HP:=hidK hp;have HH:=hidK hh;clear hp hh;go_wp2;exact bodyPost_ret (v:=.tuple #[.int .i64 k,.bool false]) (by simp [results,Tryz.results108,go_sem]) rfl ⟨by rw [HP.out,HH.out,hxl],HB.out⟩

def Fndnd (xs : List Nd) (t : ByteArray) (r w : World) (e : Ending) (w' : World) : Prop :=
 Below w.heap.size w w' ∧ ((hit Nd.n xs t = true ∧ ∃ (x : Nd) (va : Option Addr) (vl vc : Nat),xs[pl Nd.n xs t]? = some x ∧ x.n = t ∧ e = .returned (.tuple #[.agg #[.string x.n,.string x.z,.int .i64 x.c,.int .i64 x.s,.int .i64 x.u,.bool x.d,.slice va vl vc],.bool true]) ∧ x.n.size ≤ 9223372036854775807 ∧ x.z.size ≤ 9223372036854775807 ∧ TxRow r va vl vc x.zs) ∨ (hit Nd.n xs t = false ∧ e = .returned (.tuple #[.agg #[.string ⟨#[]⟩,.string ⟨#[]⟩,.int .i64 0,.int .i64 0,.int .i64 0,.bool false,.slice none 0 0],.bool false])))

theorem findnd_any (a : Option Addr) (len cap : Nat) (xs : List Nd) (t : ByteArray) (r w : World) (hr : RRow r a len cap 7 (xs.map ndF)) (hrw : Below r.heap.size r w) :
  Calls Tryz.prog 87 #[.slice a len cap,.string t] w (Fndnd xs t r w):=by
 have HR:=hidK hr;have HRW:=hidK hrw;obtain ⟨hxl,hlc⟩:=qqb5;have HR1:=hidK ((hr.below hrw).below (below1 w (.cells #[.string ⟨#[]⟩,.string ⟨#[]⟩,.int .i64 0,.int .i64 0,.int .i64 0,.bool false,.slice none 0 0] 82)));have hsr:=hrw.size;clear hr hrw;go_enter Tryz.func87,Tryz.ntmps87;go_wp2_with fail;refine (placend_any a len cap xs t _ HR1.out).mono ?_;rintro e w1 ⟨rfl,hb⟩;obtain ⟨g1,hb1,-⟩:=slotK hb;have d0 : w1.cell? ⟨w.heap.size,0,none⟩ = some (.string ⟨#[]⟩):=cellK g1 0;have f0:=froK g1 0;have d1 : w1.cell? ⟨w.heap.size,1,none⟩ = some (.string ⟨#[]⟩):=cellK g1 1;have f1:=froK g1 1;have d2 : w1.cell? ⟨w.heap.size,2,none⟩ = some (.int .i64 0):=cellK g1 2;have f2:=froK g1 2;have d3 : w1.cell? ⟨w.heap.size,3,none⟩ = some (.int .i64 0):=cellK g1 3;have f3:=froK g1 3;have d4 : w1.cell? ⟨w.heap.size,4,none⟩ = some (.int .i64 0):=cellK g1 4;have f4:=froK g1 4;have d5 : w1.cell? ⟨w.heap.size,5,none⟩ = some (.bool false):=cellK g1 5;have f5:=froK g1 5;have d6 : w1.cell? ⟨w.heap.size,6,none⟩ = some (.slice none 0 0):=cellK g1 6;have f6:=froK g1 6;have HB:=hidK hb1;have hs1:=hb.size;rw [show (w.alloc (.cells #[.string ⟨#[]⟩,.string ⟨#[]⟩,.int .i64 0,.int .i64 0,.int .i64 0,.bool false,.slice none 0 0] 82)).heap.size = w.heap.size + 1 from by simp] at hs1;have hlt1 : w.heap.size < w1.heap.size:=qqd1
 clear hb g1 HR1 hs1;cases hh : hit Nd.n xs t
 ·generalize pl Nd.n xs t = j;have HH:=hidK hh;clear hh hb1 HR hxl hlc;go_wp2;refine bodyPost_ret (v:=.tuple #[.agg #[.string ⟨#[]⟩,.string ⟨#[]⟩,.int .i64 0,.int .i64 0,.int .i64 0,.bool false,.slice none 0 0],.bool false]) (by simp [results,Tryz.results87,go_sem, *]) rfl ⟨?_,.inr ⟨HH.out,rfl⟩⟩;exact Below.alloc (set_below (Nat.le_refl _) (set_below (Nat.le_refl _) (set_below (Nat.le_refl _) (set_below (Nat.le_refl _) (set_below (Nat.le_refl _) (set_below (Nat.le_refl _) (set_below (Nat.le_refl _) (HB.out)))))))) qqd13 _
 ·obtain ⟨x,hx,hn⟩:=hit_yes hh;have hj : pl Nd.n xs t < len:=by have:=(List.getElem?_eq_some_iff.1 hx).1;omega
  obtain ⟨b,o,y,rfl,hbl,hy,hat⟩:=nd_at HR.out hj;rw [hx] at hy;obtain rfl:=Option.some.inj hy;obtain ⟨va,vl,vc,hvr,z0,z1,c0,c1,c2,c3,c4,c5,c6⟩:=nd_cells hat;obtain ⟨hbw,e0,e1,e2,e3⟩:=qqb6;obtain ⟨e4,e5⟩:=qqb56;have e6:=(cell_below hb1 hbw).trans ((cell_below HRW.out hbl).trans c6);have HI : Hid (Fndnd xs t r w (.returned (.tuple #[.agg #[.string x.n,.string x.z,.int .i64 x.c,.int .i64 x.s,.int .i64 x.u,.bool x.d,.slice va vl vc],.bool true])) w):=⟨Below.refl _ _,.inl ⟨hh,x,va,vl,vc,hx,hn,rfl,z0,z1,hvr⟩⟩;clear c0 c1 c2 c3 c4 c5 c6 hat hx hn hy hh z0 z1 hvr HR HRW hb1 hsr;have hne : ¬ b = w.heap.size:=qqd1
  obtain ⟨j,hjj⟩ : ∃ j,pl Nd.n xs t = j:=⟨_,rfl⟩;rw [hjj] at hj;simp only [hjj] at *;clear hjj;go_wp2;refine bodyPost_ret (v:=.tuple #[.agg #[.string x.n,.string x.z,.int .i64 x.c,.int .i64 x.s,.int .i64 x.u,.bool x.d,.slice va vl vc],.bool true]) (by simp [results,Tryz.results87,go_sem, *]) rfl ⟨?_,HI.out.2⟩;exact set_below (Nat.le_refl _) (set_below (Nat.le_refl _) (set_below (Nat.le_refl _) (set_below (Nat.le_refl _) (set_below (Nat.le_refl _) (set_below (Nat.le_refl _) (set_below (Nat.le_refl _) (HB.out)))))))

theorem thend_any (d : Ad) (now : Int) (xs : List Nd) (t : ByteArray) (r w : World) (hr : RRow r d.a1 d.l1 d.c1 7 (xs.map ndF)) (hrw : Below r.heap.size r w) :
  Calls Tryz.prog 49 #[.agg #[.slice d.a1 d.l1 d.c1,.slice d.a2 d.l2 d.c2,.slice d.a3 d.l3 d.c3,.slice d.a4 d.l4 d.c4,.slice d.a5 d.l5 d.c5,.int .i64 now],.string t] w (Fndnd xs t r w):=by
 have HR:=hidK hr;have HRW:=hidK (hrw.trans ((below2 w (.cells #[.slice d.a1 d.l1 d.c1,.slice d.a2 d.l2 d.c2,.slice d.a3 d.l3 d.c3,.slice d.a4 d.l4 d.c4,.slice d.a5 d.l5 d.c5,.int .i64 now] 36) (.cells #[.string ⟨#[]⟩,.string ⟨#[]⟩,.int .i64 0,.int .i64 0,.int .i64 0,.bool false,.slice none 0 0] 82)).mono hrw.size));clear hr hrw;go_enter Tryz.func49,Tryz.ntmps49;go_wp2_with fail;refine (findnd_any _ _ _ xs t r _ HR.out HRW.out).mono ?_;rintro e w1 ⟨hb,hf⟩;obtain ⟨g1,d0,f0⟩:=qqb29;have d1 : w1.cell? ⟨w.heap.size + 1,1,none⟩ = some (.string ⟨#[]⟩):=cellK g1 1;have f1:=froK g1 1;have d2 : w1.cell? ⟨w.heap.size + 1,2,none⟩ = some (.int .i64 0):=cellK g1 2;have f2:=froK g1 2;have d3 : w1.cell? ⟨w.heap.size + 1,3,none⟩ = some (.int .i64 0):=cellK g1 3;have f3:=froK g1 3;have d4 : w1.cell? ⟨w.heap.size + 1,4,none⟩ = some (.int .i64 0):=cellK g1 4;have f4:=froK g1 4;have d5 : w1.cell? ⟨w.heap.size + 1,5,none⟩ = some (.bool false):=cellK g1 5;have f5:=froK g1 5;have d6 : w1.cell? ⟨w.heap.size + 1,6,none⟩ = some (.slice none 0 0):=cellK g1 6;have f6:=froK g1 6;have HB : Hid (Below w.heap.size w w1):=(below2 _ _ _).trans (hb.mono qqd7);clear g1 hb HR HRW;rcases hf with ⟨hh,x,va,vl,vc,hx,hn,rfl,z0,z1,hvr⟩ | ⟨hh,rfl⟩
 ·have HI : Hid (Fndnd xs t r w (.returned (.tuple #[.agg #[.string x.n,.string x.z,.int .i64 x.c,.int .i64 x.s,.int .i64 x.u,.bool x.d,.slice va vl vc],.bool true])) w):=⟨Below.refl _ _,.inl ⟨hh,x,va,vl,vc,hx,hn,rfl,z0,z1,hvr⟩⟩;clear hx hn hh z0 z1 hvr;go_wp2;refine bodyPost_ret (v:=.tuple #[.agg #[.string x.n,.string x.z,.int .i64 x.c,.int .i64 x.s,.int .i64 x.u,.bool x.d,.slice va vl vc],.bool true]) (by simp [results,Tryz.results49,go_sem, *]) rfl ⟨?_,HI.out.2⟩;exact qqa78
 ·have HH:=hidK hh;clear hh;go_wp2;refine bodyPost_ret (v:=.tuple #[.agg #[.string ⟨#[]⟩,.string ⟨#[]⟩,.int .i64 0,.int .i64 0,.int .i64 0,.bool false,.slice none 0 0],.bool false]) (by simp [results,Tryz.results49,go_sem, *]) rfl ⟨?_,.inr ⟨HH.out,rfl⟩⟩;exact qqa78

theorem rowrnd_any (a : Option Addr) (len cap : Nat) (xs : List Nd) (most : Int) (w : World) (hr : RRow w a len cap 7 (xs.map ndF)) :
  Calls Tryz.prog 126 #[.slice a len cap,.int .i64 most] w (BoolB (RowOk ndOk Nd.n xs most) w):=by
 have HR:=hidK hr;obtain ⟨hxl,hlc⟩:=qqb5;clear hr;have hmcalled : ∀ (v : Value) (w : World),(method 335 82 v "loop.example/g00571/impl.called").run Tryz.prog w = .ok (187,v) w:=fun _ _ => by kernel_rfl
 have hmright : ∀ (v : Value) (w : World),(method 335 82 v "loop.example/g00571/impl.right").run Tryz.prog w = .ok (188,v) w:=fun _ _ => by kernel_rfl
 by_cases hmo : most < (len : Int)
 ·go_enter Tryz.func126,Tryz.ntmps126;exact qqa63
 go_enter Tryz.func126,Tryz.ntmps126;go_wp2;go_loopw [5,14] (fun q i wr => ∃ (k : Nat) (y : ByteArray),k ≤ len ∧ q = .string y ∧ i = .int .i64 k ∧ Hid (k = 0 → y = ⟨#[]⟩) ∧ Hid (∀ z,0 < k → xs[k - 1]? = some z → z.n = y) ∧ Hid (∀ (j : Nat) z,j < k → xs[j]? = some z → ndOk z) ∧ Hid (∀ (j : Nat) z u,j + 1 < k → xs[j + 1]? = some z → xs[j]? = some u → Op.bytesLess u.n.toList z.n.toList = true) ∧ Hid (Below w.heap.size w wr)) (fun _ i _ => len - (intOf i).toNat);case atStart => exact ⟨0,_,by omega,rfl,rfl,fun _ => rfl,fun _ h => absurd h qqd1,fun _ _ h => absurd h qqd1,fun _ _ _ h => absurd h qqd1,Below.refl _ _⟩
 case round =>
  obtain ⟨k,y,hk,rfl,rfl,H0,H1,HE,HO,HB⟩:=hrel;by_cases hlt : k < len
  ·obtain ⟨b,o,x,rfl,hb,hx,hat⟩:=nd_at (HR.out.below HB.out) hlt;obtain ⟨va,vl,vc,hvr,z0,z1,c0,c1,c2,c3,c4,c5,c6⟩:=nd_cells hat;have HX:=hidK hx;obtain ⟨HC,HB1⟩:=qqb77;have HRt:=hidK (rightnd_any x va vl vc (wr.alloc (.cells #[.string x.n,.string x.z,.int .i64 x.c,.int .i64 x.s,.int .i64 x.u,.bool x.d,.slice va vl vc] 82)) z0 z1 (hvr.below (below1 _ _)));clear hat hx z0 z1 hvr;go_wp2_with fail;refine HRt.out.mono ?_;rintro e w1 ⟨r,rfl,hrt,hb1⟩;obtain ⟨g1,-,-⟩:=slotK hb1;have hs1:=hb1.size;rw [show (wr.alloc (.cells #[.string x.n,.string x.z,.int .i64 x.c,.int .i64 x.s,.int .i64 x.u,.bool x.d,.slice va vl vc] 82)).heap.size = wr.heap.size + 1 from by simp] at hs1;obtain ⟨HB2,d0⟩:=qqb12;obtain ⟨d1,d2,d3,d4,d5,d6⟩:=qqb31;have HG:=hidK g1;have HI:=hidK hrt;clear g1 hb1 HB1 HRt hrt c0 c1 c2 c3 c4 c5 c6;cases r
   ·exact qqa51
   have HOK:=hidK (HI.out.1 rfl);clear HI;go_wp2_with fail;refine (HC.out _).mono ?_;rintro e w2 ⟨rfl,hb2⟩;obtain ⟨HB3,g2,hs2,htri⟩:=qqb11;clear HG hb2 HB2 d0 d1 d2 d3 d4 d5 d6;have d0 : w2.cell? ⟨wr.heap.size,0,none⟩ = some (.string x.n):=cellK g2 0;have d1 : w2.cell? ⟨wr.heap.size,1,none⟩ = some (.string x.z):=cellK g2 1;have d2 : w2.cell? ⟨wr.heap.size,2,none⟩ = some (.int .i64 x.c):=cellK g2 2;have d3 : w2.cell? ⟨wr.heap.size,3,none⟩ = some (.int .i64 x.s):=cellK g2 3;have d4 : w2.cell? ⟨wr.heap.size,4,none⟩ = some (.int .i64 x.u):=cellK g2 4;have d5 : w2.cell? ⟨wr.heap.size,5,none⟩ = some (.bool x.d):=cellK g2 5;have d6 : w2.cell? ⟨wr.heap.size,6,none⟩ = some (.slice va vl vc):=cellK g2 6;clear g2;cases hless : Op.bytesLess y.toList x.n.toList
   ·exact qqa10
   ·rw [hless] at htri;go_wp2_with fail;refine (HC.out _).mono ?_;rintro e w3 ⟨rfl,hb3⟩;have HB4:=hidK (HB3.out.trans (hb3.mono (Nat.le_trans HB.out.size qqd1)));clear hb3 d0 d1 d2 d3 d4 d5 d6;exact qqa5
  ·exact qqa18

def Sxnd (xs : List Nd) (t : ByteArray) (w : World) (e : Ending) (w' : World) : Prop :=
 Below w.heap.size w w' ∧ ((∃ (j : Nat) (x : Nd),xs[j]? = some x ∧ x.n = t ∧ e = .returned (.int .i64 j)) ∨ ((∀ (j : Nat) x,xs[j]? = some x → ¬ x.n = t) ∧ e = .returned (.int .i64 (-1))))

theorem sxnd_any (d : Ad) (now : Int) (xs : List Nd) (t : ByteArray) (w : World) (hr : RRow w d.a1 d.l1 d.c1 7 (xs.map ndF)) :
  Calls Tryz.prog 47 #[.agg #[.slice d.a1 d.l1 d.c1,.slice d.a2 d.l2 d.c2,.slice d.a3 d.l3 d.c3,.slice d.a4 d.l4 d.c4,.slice d.a5 d.l5 d.c5,.int .i64 now],.string t] w (Sxnd xs t w):=by
 have HR:=hidK hr;have hxl : xs.length = d.l1:=qqd8
 have hlc : d.l1 ≤ 9223372036854775807:=Nat.le_trans hr.2.1 hr.2.2.1;clear hr;go_enter Tryz.func47,Tryz.ntmps47;go_wp2;go_loopw [5] (fun i wr => ∃ k : Nat,k ≤ d.l1 ∧ i = .int .i64 k ∧ wr = w.alloc (.cells #[.slice d.a1 d.l1 d.c1,.slice d.a2 d.l2 d.c2,.slice d.a3 d.l3 d.c3,.slice d.a4 d.l4 d.c4,.slice d.a5 d.l5 d.c5,.int .i64 now] 36) ∧ Hid (∀ (j : Nat) z,j < k → xs[j]? = some z → ¬ z.n = t)) (fun i _ => d.l1 - (intOf i).toNat);case atStart => exact ⟨0,by omega,rfl,rfl,fun _ _ h => absurd h qqd1⟩
 case round =>
  obtain ⟨k,hk,rfl,rfl,HE⟩:=hrel;by_cases hlt : k < d.l1
  ·obtain ⟨b,o,x,ha,hb,hx,hat⟩:=nd_at HR.out hlt;obtain ⟨va,vl,vc,hvr,-,-,c0,-,-,-,-,-,-⟩:=nd_cells hat;have HX:=hidK hx;clear hat hx hvr;exact qqa11
  ·obtain rfl : k = d.l1:=qqd1
   exact qqa37

theorem calledkd_any (x : Kd)  (w : World) :
  Calls Tryz.prog 195 #[.agg #[.string x.n,.bool x.x,.bool x.y,.string x.z]] w fun e w' => e = .returned (.string x.n) ∧ Below w.heap.size w w':=by
 go_enter Tryz.func195,Tryz.ntmps195;go_wp2;go_ret;exact ⟨rfl,below1 _ _⟩

theorem rightkd_any (x : Kd)  (w : World) (hn : x.n.size ≤ 9223372036854775807) (hz : x.z.size ≤ 9223372036854775807) :
  Calls Tryz.prog 196 #[.agg #[.string x.n,.bool x.x,.bool x.y,.string x.z]] w (BoolB (kdOk x) w):=by
 skip;skip;go_enter Tryz.func196,Tryz.ntmps196;go_wp2_with fail;refine (iclass_any x.n x.z x.x x.y _ hn hz).mono ?_;exact qqa32

theorem placekd_any (a : Option Addr) (len cap : Nat) (xs : List Kd) (t : ByteArray) (w : World) (hr : RRow w a len cap 4 (xs.map kdF)) :
  Calls Tryz.prog 160 #[.slice a len cap,.string t] w fun e w' => e = .returned (.tuple #[.int .i64 (pl Kd.n xs t : Nat),.bool (hit Kd.n xs t)]) ∧ Below w.heap.size w w':=by
 have HR:=hidK hr;obtain ⟨hxl,hlc⟩:=qqb5;clear hr;have hmcalled : ∀ (v : Value) (w : World),(method 335 109 v "loop.example/g00571/impl.called").run Tryz.prog w = .ok (195,v) w:=fun _ _ => by kernel_rfl
 go_enter Tryz.func160,Tryz.ntmps160;go_wp2;go_loopw [10] (fun i wr => ∃ k : Nat,k ≤ len ∧ i = .int .i64 k ∧ Hid (∀ (j : Nat) y,j < k → xs[j]? = some y → Op.bytesLess y.n.toList t.toList = true) ∧ Hid (Below w.heap.size w wr)) (fun i _ => len - (intOf i).toNat);case atStart => exact ⟨0,by omega,rfl,fun j y hj => by omega,Below.refl _ _⟩
 case round =>
  obtain ⟨k,hk,rfl,HE,HB⟩:=hrel;by_cases hlt : k < len
  ·obtain ⟨b,o,x,rfl,hb,hx,hat⟩:=kd_at (HR.out.below HB.out) hlt;obtain ⟨z0,z3,c0,c1,c2,c3⟩:=kd_cells hat;have HX:=hidK hx;clear hat hx z0 z3;have HC:=hidK (fun v : World => calledkd_any x v);have HB1:=hidK (HB.out.alloc HB.out.size (.cells #[.string x.n,.bool x.x,.bool x.y,.string x.z] 109));go_wp2_with fail;refine (HC.out _).mono ?_;rintro e w1 ⟨rfl,hb1⟩;obtain ⟨g1,-,-⟩:=slotK hb1;have hs1:=hb1.size;rw [show (wr.alloc (.cells #[.string x.n,.bool x.x,.bool x.y,.string x.z] 109)).heap.size = wr.heap.size + 1 from by simp] at hs1;obtain ⟨HB2,d0⟩:=qqb12;obtain ⟨d1,d2,d3⟩:=qqb73;clear g1 hb1 c0 c1 c2 c3 HB1;cases hless : Op.bytesLess x.n.toList t.toList
   ·go_wp2_with fail;refine (HC.out _).mono ?_;rintro e w2 ⟨rfl,hb2⟩;obtain ⟨HB3,hp⟩:=qqb27;clear hb2;go_wp2_with fail;refine bodyPost_ret (v:=.tuple #[.int .i64 k,.bool (x.n.toList == t.toList)]) (by simp [results,Tryz.results160,go_sem]) rfl ⟨?_,HB3.out⟩;unfold hit;rw [hp,HX.out]
   ·exact qqa20
  ·obtain rfl : k = len:=qqd1
   have hp : pl Kd.n xs t = xs.length:=pl_end (fun j y hy => HE.out j y qqd11 hy);have hh : hit Kd.n xs t = false:=by unfold hit;rw [hp,List.getElem?_eq_none (Nat.le_refl _)]
   have HP:=hidK hp;have HH:=hidK hh;clear hp hh;go_wp2;exact bodyPost_ret (v:=.tuple #[.int .i64 k,.bool false]) (by simp [results,Tryz.results160,go_sem]) rfl ⟨by rw [HP.out,HH.out,hxl],HB.out⟩

def Fndkd (xs : List Kd) (t : ByteArray) (_r w : World) (e : Ending) (w' : World) : Prop :=
 Below w.heap.size w w' ∧ ((hit Kd.n xs t = true ∧ ∃ (x : Kd),xs[pl Kd.n xs t]? = some x ∧ x.n = t ∧ e = .returned (.tuple #[.agg #[.string x.n,.bool x.x,.bool x.y,.string x.z],.bool true]) ∧ x.n.size ≤ 9223372036854775807 ∧ x.z.size ≤ 9223372036854775807) ∨ (hit Kd.n xs t = false ∧ e = .returned (.tuple #[.agg #[.string ⟨#[]⟩,.bool false,.bool false,.string ⟨#[]⟩],.bool false])))

theorem findkd_any (a : Option Addr) (len cap : Nat) (xs : List Kd) (t : ByteArray) (r w : World) (hr : RRow r a len cap 4 (xs.map kdF)) (hrw : Below r.heap.size r w) :
  Calls Tryz.prog 155 #[.slice a len cap,.string t] w (Fndkd xs t r w):=by
 have HR:=hidK hr;have HRW:=hidK hrw;obtain ⟨hxl,hlc⟩:=qqb5;have HR1:=hidK ((hr.below hrw).below (below1 w (.cells #[.string ⟨#[]⟩,.bool false,.bool false,.string ⟨#[]⟩] 109)));have hsr:=hrw.size;clear hr hrw;go_enter Tryz.func155,Tryz.ntmps155;go_wp2_with fail;refine (placekd_any a len cap xs t _ HR1.out).mono ?_;rintro e w1 ⟨rfl,hb⟩;obtain ⟨g1,hb1,-⟩:=slotK hb;have d0 : w1.cell? ⟨w.heap.size,0,none⟩ = some (.string ⟨#[]⟩):=cellK g1 0;have f0:=froK g1 0;have d1 : w1.cell? ⟨w.heap.size,1,none⟩ = some (.bool false):=cellK g1 1;have f1:=froK g1 1;have d2 : w1.cell? ⟨w.heap.size,2,none⟩ = some (.bool false):=cellK g1 2;have f2:=froK g1 2;have d3 : w1.cell? ⟨w.heap.size,3,none⟩ = some (.string ⟨#[]⟩):=cellK g1 3;have f3:=froK g1 3;have HB:=hidK hb1;have hs1:=hb.size;rw [show (w.alloc (.cells #[.string ⟨#[]⟩,.bool false,.bool false,.string ⟨#[]⟩] 109)).heap.size = w.heap.size + 1 from by simp] at hs1;have hlt1 : w.heap.size < w1.heap.size:=qqd1
 clear hb g1 HR1 hs1;cases hh : hit Kd.n xs t
 ·generalize pl Kd.n xs t = j;have HH:=hidK hh;clear hh hb1 HR hxl hlc;go_wp2;refine bodyPost_ret (v:=.tuple #[.agg #[.string ⟨#[]⟩,.bool false,.bool false,.string ⟨#[]⟩],.bool false]) (by simp [results,Tryz.results155,go_sem, *]) rfl ⟨?_,.inr ⟨HH.out,rfl⟩⟩;exact Below.alloc (set_below (Nat.le_refl _) (set_below (Nat.le_refl _) (set_below (Nat.le_refl _) (set_below (Nat.le_refl _) (HB.out))))) qqd13 _
 ·obtain ⟨x,hx,hn⟩:=hit_yes hh;have hj : pl Kd.n xs t < len:=by have:=(List.getElem?_eq_some_iff.1 hx).1;omega
  obtain ⟨b,o,y,rfl,hbl,hy,hat⟩:=kd_at HR.out hj;rw [hx] at hy;obtain rfl:=Option.some.inj hy;obtain ⟨z0,z3,c0,c1,c2,c3⟩:=kd_cells hat;obtain ⟨hbw,e0,e1,e2,e3⟩:=qqb6;have HI : Hid (Fndkd xs t r w (.returned (.tuple #[.agg #[.string x.n,.bool x.x,.bool x.y,.string x.z],.bool true])) w):=⟨Below.refl _ _,.inl ⟨hh,x,hx,hn,rfl,z0,z3⟩⟩;clear c0 c1 c2 c3 hat hx hn hy hh z0 z3 HR HRW hb1 hsr;have hne : ¬ b = w.heap.size:=qqd1
  obtain ⟨j,hjj⟩ : ∃ j,pl Kd.n xs t = j:=⟨_,rfl⟩;rw [hjj] at hj;simp only [hjj] at *;clear hjj;go_wp2;refine bodyPost_ret (v:=.tuple #[.agg #[.string x.n,.bool x.x,.bool x.y,.string x.z],.bool true]) (by simp [results,Tryz.results155,go_sem, *]) rfl ⟨?_,HI.out.2⟩;exact set_below (Nat.le_refl _) (set_below (Nat.le_refl _) (set_below (Nat.le_refl _) (set_below (Nat.le_refl _) (HB.out))))

theorem thekd_any (d : Ad) (now : Int) (xs : List Kd) (t : ByteArray) (r w : World) (hr : RRow r d.a2 d.l2 d.c2 4 (xs.map kdF)) (hrw : Below r.heap.size r w) :
  Calls Tryz.prog 149 #[.agg #[.slice d.a1 d.l1 d.c1,.slice d.a2 d.l2 d.c2,.slice d.a3 d.l3 d.c3,.slice d.a4 d.l4 d.c4,.slice d.a5 d.l5 d.c5,.int .i64 now],.string t] w (Fndkd xs t r w):=by
 have HR:=hidK hr;have HRW:=hidK (hrw.trans ((below2 w (.cells #[.slice d.a1 d.l1 d.c1,.slice d.a2 d.l2 d.c2,.slice d.a3 d.l3 d.c3,.slice d.a4 d.l4 d.c4,.slice d.a5 d.l5 d.c5,.int .i64 now] 36) (.cells #[.string ⟨#[]⟩,.bool false,.bool false,.string ⟨#[]⟩] 109)).mono hrw.size));clear hr hrw;go_enter Tryz.func149,Tryz.ntmps149;go_wp2_with fail;refine (findkd_any _ _ _ xs t r _ HR.out HRW.out).mono ?_;rintro e w1 ⟨hb,hf⟩;obtain ⟨g1,d0,f0⟩:=qqb29;have d1 : w1.cell? ⟨w.heap.size + 1,1,none⟩ = some (.bool false):=cellK g1 1;have f1:=froK g1 1;have d2 : w1.cell? ⟨w.heap.size + 1,2,none⟩ = some (.bool false):=cellK g1 2;have f2:=froK g1 2;have d3 : w1.cell? ⟨w.heap.size + 1,3,none⟩ = some (.string ⟨#[]⟩):=cellK g1 3;have f3:=froK g1 3;have HB : Hid (Below w.heap.size w w1):=(below2 _ _ _).trans (hb.mono qqd7);clear g1 hb HR HRW;rcases hf with ⟨hh,x,hx,hn,rfl,z0,z3⟩ | ⟨hh,rfl⟩
 ·have HI : Hid (Fndkd xs t r w (.returned (.tuple #[.agg #[.string x.n,.bool x.x,.bool x.y,.string x.z],.bool true])) w):=⟨Below.refl _ _,.inl ⟨hh,x,hx,hn,rfl,z0,z3⟩⟩;clear hx hn hh z0 z3;go_wp2;refine bodyPost_ret (v:=.tuple #[.agg #[.string x.n,.bool x.x,.bool x.y,.string x.z],.bool true]) (by simp [results,Tryz.results149,go_sem, *]) rfl ⟨?_,HI.out.2⟩;exact qqa101
 ·have HH:=hidK hh;clear hh;go_wp2;refine bodyPost_ret (v:=.tuple #[.agg #[.string ⟨#[]⟩,.bool false,.bool false,.string ⟨#[]⟩],.bool false]) (by simp [results,Tryz.results149,go_sem, *]) rfl ⟨?_,.inr ⟨HH.out,rfl⟩⟩;exact qqa101

theorem rowrkd_any (a : Option Addr) (len cap : Nat) (xs : List Kd) (most : Int) (w : World) (hr : RRow w a len cap 4 (xs.map kdF)) :
  Calls Tryz.prog 127 #[.slice a len cap,.int .i64 most] w (BoolB (RowOk kdOk Kd.n xs most) w):=by
 have HR:=hidK hr;obtain ⟨hxl,hlc⟩:=qqb5;clear hr;have hmcalled : ∀ (v : Value) (w : World),(method 335 109 v "loop.example/g00571/impl.called").run Tryz.prog w = .ok (195,v) w:=fun _ _ => by kernel_rfl
 have hmright : ∀ (v : Value) (w : World),(method 335 109 v "loop.example/g00571/impl.right").run Tryz.prog w = .ok (196,v) w:=fun _ _ => by kernel_rfl
 by_cases hmo : most < (len : Int)
 ·go_enter Tryz.func127,Tryz.ntmps127;exact qqa63
 go_enter Tryz.func127,Tryz.ntmps127;go_wp2;go_loopw [5,14] (fun q i wr => ∃ (k : Nat) (y : ByteArray),k ≤ len ∧ q = .string y ∧ i = .int .i64 k ∧ Hid (k = 0 → y = ⟨#[]⟩) ∧ Hid (∀ z,0 < k → xs[k - 1]? = some z → z.n = y) ∧ Hid (∀ (j : Nat) z,j < k → xs[j]? = some z → kdOk z) ∧ Hid (∀ (j : Nat) z u,j + 1 < k → xs[j + 1]? = some z → xs[j]? = some u → Op.bytesLess u.n.toList z.n.toList = true) ∧ Hid (Below w.heap.size w wr)) (fun _ i _ => len - (intOf i).toNat);case atStart => exact ⟨0,_,by omega,rfl,rfl,fun _ => rfl,fun _ h => absurd h qqd1,fun _ _ h => absurd h qqd1,fun _ _ _ h => absurd h qqd1,Below.refl _ _⟩
 case round =>
  obtain ⟨k,y,hk,rfl,rfl,H0,H1,HE,HO,HB⟩:=hrel;by_cases hlt : k < len
  ·obtain ⟨b,o,x,rfl,hb,hx,hat⟩:=kd_at (HR.out.below HB.out) hlt;obtain ⟨z0,z3,c0,c1,c2,c3⟩:=kd_cells hat;have HX:=hidK hx;have HC:=hidK (fun v : World => calledkd_any x v);have HB1:=hidK (HB.out.alloc HB.out.size (.cells #[.string x.n,.bool x.x,.bool x.y,.string x.z] 109));have HRt:=hidK (rightkd_any x (wr.alloc (.cells #[.string x.n,.bool x.x,.bool x.y,.string x.z] 109)) z0 z3);clear hat hx z0 z3;go_wp2_with fail;refine HRt.out.mono ?_;rintro e w1 ⟨r,rfl,hrt,hb1⟩;obtain ⟨g1,-,-⟩:=slotK hb1;have hs1:=hb1.size;rw [show (wr.alloc (.cells #[.string x.n,.bool x.x,.bool x.y,.string x.z] 109)).heap.size = wr.heap.size + 1 from by simp] at hs1;obtain ⟨HB2,d0⟩:=qqb12;obtain ⟨d1,d2,d3⟩:=qqb73;have HG:=hidK g1;have HI:=hidK hrt;clear g1 hb1 HB1 HRt hrt c0 c1 c2 c3;cases r
   ·exact qqa51
   have HOK:=hidK (HI.out.1 rfl);clear HI;go_wp2_with fail;refine (HC.out _).mono ?_;rintro e w2 ⟨rfl,hb2⟩;obtain ⟨HB3,g2,hs2,htri⟩:=qqb11;clear HG hb2 HB2 d0 d1 d2 d3;have d0 : w2.cell? ⟨wr.heap.size,0,none⟩ = some (.string x.n):=cellK g2 0;have d1 : w2.cell? ⟨wr.heap.size,1,none⟩ = some (.bool x.x):=cellK g2 1;have d2 : w2.cell? ⟨wr.heap.size,2,none⟩ = some (.bool x.y):=cellK g2 2;have d3 : w2.cell? ⟨wr.heap.size,3,none⟩ = some (.string x.z):=cellK g2 3;clear g2;cases hless : Op.bytesLess y.toList x.n.toList
   ·exact qqa10
   ·rw [hless] at htri;go_wp2_with fail;refine (HC.out _).mono ?_;rintro e w3 ⟨rfl,hb3⟩;have HB4:=hidK (HB3.out.trans (hb3.mono (Nat.le_trans HB.out.size qqd1)));clear hb3 d0 d1 d2 d3;exact qqa5
  ·exact qqa18

def Sxkd (xs : List Kd) (t : ByteArray) (w : World) (e : Ending) (w' : World) : Prop :=
 Below w.heap.size w w' ∧ ((∃ (j : Nat) (x : Kd),xs[j]? = some x ∧ x.n = t ∧ e = .returned (.int .i64 j)) ∨ ((∀ (j : Nat) x,xs[j]? = some x → ¬ x.n = t) ∧ e = .returned (.int .i64 (-1))))

theorem sxkd_any (d : Ad) (now : Int) (xs : List Kd) (t : ByteArray) (w : World) (hr : RRow w d.a2 d.l2 d.c2 4 (xs.map kdF)) :
  Calls Tryz.prog 118 #[.agg #[.slice d.a1 d.l1 d.c1,.slice d.a2 d.l2 d.c2,.slice d.a3 d.l3 d.c3,.slice d.a4 d.l4 d.c4,.slice d.a5 d.l5 d.c5,.int .i64 now],.string t] w (Sxkd xs t w):=by
 have HR:=hidK hr;have hxl : xs.length = d.l2:=qqd8
 have hlc : d.l2 ≤ 9223372036854775807:=Nat.le_trans hr.2.1 hr.2.2.1;clear hr;go_enter Tryz.func118,Tryz.ntmps118;go_wp2;go_loopw [5] (fun i wr => ∃ k : Nat,k ≤ d.l2 ∧ i = .int .i64 k ∧ wr = w.alloc (.cells #[.slice d.a1 d.l1 d.c1,.slice d.a2 d.l2 d.c2,.slice d.a3 d.l3 d.c3,.slice d.a4 d.l4 d.c4,.slice d.a5 d.l5 d.c5,.int .i64 now] 36) ∧ Hid (∀ (j : Nat) z,j < k → xs[j]? = some z → ¬ z.n = t)) (fun i _ => d.l2 - (intOf i).toNat);case atStart => exact ⟨0,by omega,rfl,rfl,fun _ _ h => absurd h qqd1⟩
 case round =>
  obtain ⟨k,hk,rfl,rfl,HE⟩:=hrel;by_cases hlt : k < d.l2
  ·obtain ⟨b,o,x,ha,hb,hx,hat⟩:=kd_at HR.out hlt;obtain ⟨-,-,c0,-,-,-⟩:=kd_cells hat;have HX:=hidK hx;clear hat hx;exact qqa11
  ·obtain rfl : k = d.l2:=qqd1
   exact qqa37

theorem calledvd_any (x : Vd) (va : Option Addr) (vl vc : Nat) (w : World) :
  Calls Tryz.prog 191 #[.agg #[.string x.n,.int .i64 x.c,.string x.z,.string x.k,.bool x.x,.string x.m,.bool x.y,.slice va vl vc]] w fun e w' => e = .returned (.string x.n) ∧ Below w.heap.size w w':=by
 go_enter Tryz.func191,Tryz.ntmps191;go_wp2;go_ret;exact ⟨rfl,below1 _ _⟩

theorem rightvd_any (x : Vd) (va : Option Addr) (vl vc : Nat) (w : World) (hn : x.n.size ≤ 9223372036854775807) (hz : x.z.size ≤ 9223372036854775807) (hk : x.k.size ≤ 9223372036854775807) (hm : x.m.size ≤ 9223372036854775807) (hr : TxRow w va vl vc x.zs) :
  Calls Tryz.prog 192 #[.agg #[.string x.n,.int .i64 x.c,.string x.z,.string x.k,.bool x.x,.string x.m,.bool x.y,.slice va vl vc]] w (BoolB (vdOk x) w):=by
 have HR:=hidK (hr.below (below1 w (.cells #[.string x.n,.int .i64 x.c,.string x.z,.string x.k,.bool x.x,.string x.m,.bool x.y,.slice va vl vc] 106)));clear hr;go_enter Tryz.func192,Tryz.ntmps192;go_wp2_with fail;refine (ivol_any x.n x.c x.z x.k x.x x.m x.y va vl vc x.zs _ hn hz hk hm HR.out).mono ?_;exact qqa32

theorem placevd_any (a : Option Addr) (len cap : Nat) (xs : List Vd) (t : ByteArray) (w : World) (hr : RRow w a len cap 8 (xs.map vdF)) :
  Calls Tryz.prog 162 #[.slice a len cap,.string t] w fun e w' => e = .returned (.tuple #[.int .i64 (pl Vd.n xs t : Nat),.bool (hit Vd.n xs t)]) ∧ Below w.heap.size w w':=by
 have HR:=hidK hr;obtain ⟨hxl,hlc⟩:=qqb5;clear hr;have hmcalled : ∀ (v : Value) (w : World),(method 335 106 v "loop.example/g00571/impl.called").run Tryz.prog w = .ok (191,v) w:=fun _ _ => by kernel_rfl
 go_enter Tryz.func162,Tryz.ntmps162;go_wp2;go_loopw [10] (fun i wr => ∃ k : Nat,k ≤ len ∧ i = .int .i64 k ∧ Hid (∀ (j : Nat) y,j < k → xs[j]? = some y → Op.bytesLess y.n.toList t.toList = true) ∧ Hid (Below w.heap.size w wr)) (fun i _ => len - (intOf i).toNat);case atStart => exact ⟨0,by omega,rfl,fun j y hj => by omega,Below.refl _ _⟩
 case round =>
  obtain ⟨k,hk,rfl,HE,HB⟩:=hrel;by_cases hlt : k < len
  ·obtain ⟨b,o,x,rfl,hb,hx,hat⟩:=vd_at (HR.out.below HB.out) hlt;obtain ⟨va,vl,vc,hvr,z0,z2,z3,z5,c0,c1,c2,c3,c4,c5,c6,c7⟩:=vd_cells hat;have HX:=hidK hx;clear hat hx z0 z2 z3 z5 hvr;obtain ⟨HC,HB1⟩:=qqb75;go_wp2_with fail;refine (HC.out _).mono ?_;rintro e w1 ⟨rfl,hb1⟩;obtain ⟨g1,-,-⟩:=slotK hb1;have hs1:=hb1.size;rw [show (wr.alloc (.cells #[.string x.n,.int .i64 x.c,.string x.z,.string x.k,.bool x.x,.string x.m,.bool x.y,.slice va vl vc] 106)).heap.size = wr.heap.size + 1 from by simp] at hs1;obtain ⟨HB2,d0⟩:=qqb12;obtain ⟨d1,d2,d3,d4,d5,d6,d7⟩:=qqb24;clear g1 hb1 c0 c1 c2 c3 c4 c5 c6 c7 HB1;cases hless : Op.bytesLess x.n.toList t.toList
   ·go_wp2_with fail;refine (HC.out _).mono ?_;rintro e w2 ⟨rfl,hb2⟩;obtain ⟨HB3,hp⟩:=qqb27;clear hb2;go_wp2_with fail;refine bodyPost_ret (v:=.tuple #[.int .i64 k,.bool (x.n.toList == t.toList)]) (by simp [results,Tryz.results162,go_sem]) rfl ⟨?_,HB3.out⟩;unfold hit;rw [hp,HX.out]
   ·exact qqa20
  ·obtain rfl : k = len:=qqd1
   have hp : pl Vd.n xs t = xs.length:=pl_end (fun j y hy => HE.out j y qqd11 hy);have hh : hit Vd.n xs t = false:=by unfold hit;rw [hp,List.getElem?_eq_none (Nat.le_refl _)]
   have HP:=hidK hp;have HH:=hidK hh;clear hp hh;go_wp2;exact bodyPost_ret (v:=.tuple #[.int .i64 k,.bool false]) (by simp [results,Tryz.results162,go_sem]) rfl ⟨by rw [HP.out,HH.out,hxl],HB.out⟩

def Fndvd (xs : List Vd) (t : ByteArray) (r w : World) (e : Ending) (w' : World) : Prop :=
 Below w.heap.size w w' ∧ ((hit Vd.n xs t = true ∧ ∃ (x : Vd) (va : Option Addr) (vl vc : Nat),xs[pl Vd.n xs t]? = some x ∧ x.n = t ∧ e = .returned (.tuple #[.agg #[.string x.n,.int .i64 x.c,.string x.z,.string x.k,.bool x.x,.string x.m,.bool x.y,.slice va vl vc],.bool true]) ∧ x.n.size ≤ 9223372036854775807 ∧ x.z.size ≤ 9223372036854775807 ∧ x.k.size ≤ 9223372036854775807 ∧ x.m.size ≤ 9223372036854775807 ∧ TxRow r va vl vc x.zs) ∨ (hit Vd.n xs t = false ∧ e = .returned (.tuple #[.agg #[.string ⟨#[]⟩,.int .i64 0,.string ⟨#[]⟩,.string ⟨#[]⟩,.bool false,.string ⟨#[]⟩,.bool false,.slice none 0 0],.bool false])))

theorem findvd_any (a : Option Addr) (len cap : Nat) (xs : List Vd) (t : ByteArray) (r w : World) (hr : RRow r a len cap 8 (xs.map vdF)) (hrw : Below r.heap.size r w) :
  Calls Tryz.prog 157 #[.slice a len cap,.string t] w (Fndvd xs t r w):=by
 have HR:=hidK hr;have HRW:=hidK hrw;obtain ⟨hxl,hlc⟩:=qqb5;have HR1:=hidK ((hr.below hrw).below (below1 w (.cells #[.string ⟨#[]⟩,.int .i64 0,.string ⟨#[]⟩,.string ⟨#[]⟩,.bool false,.string ⟨#[]⟩,.bool false,.slice none 0 0] 106)));have hsr:=hrw.size;clear hr hrw;go_enter Tryz.func157,Tryz.ntmps157;go_wp2_with fail;refine (placevd_any a len cap xs t _ HR1.out).mono ?_;rintro e w1 ⟨rfl,hb⟩;obtain ⟨g1,hb1,-⟩:=slotK hb;obtain ⟨d0,f0,d1,f1,d2,f2⟩:=qqb21;have d3 : w1.cell? ⟨w.heap.size,3,none⟩ = some (.string ⟨#[]⟩):=cellK g1 3;have f3:=froK g1 3;have d4 : w1.cell? ⟨w.heap.size,4,none⟩ = some (.bool false):=cellK g1 4;have f4:=froK g1 4;have d5 : w1.cell? ⟨w.heap.size,5,none⟩ = some (.string ⟨#[]⟩):=cellK g1 5;have f5:=froK g1 5;have d6 : w1.cell? ⟨w.heap.size,6,none⟩ = some (.bool false):=cellK g1 6;have f6:=froK g1 6;have d7 : w1.cell? ⟨w.heap.size,7,none⟩ = some (.slice none 0 0):=cellK g1 7;have f7:=froK g1 7;have HB:=hidK hb1;have hs1:=hb.size;rw [show (w.alloc (.cells #[.string ⟨#[]⟩,.int .i64 0,.string ⟨#[]⟩,.string ⟨#[]⟩,.bool false,.string ⟨#[]⟩,.bool false,.slice none 0 0] 106)).heap.size = w.heap.size + 1 from by simp] at hs1;have hlt1 : w.heap.size < w1.heap.size:=qqd1
 clear hb g1 HR1 hs1;cases hh : hit Vd.n xs t
 ·generalize pl Vd.n xs t = j;have HH:=hidK hh;clear hh hb1 HR hxl hlc;go_wp2;refine bodyPost_ret (v:=.tuple #[.agg #[.string ⟨#[]⟩,.int .i64 0,.string ⟨#[]⟩,.string ⟨#[]⟩,.bool false,.string ⟨#[]⟩,.bool false,.slice none 0 0],.bool false]) (by simp [results,Tryz.results157,go_sem, *]) rfl ⟨?_,.inr ⟨HH.out,rfl⟩⟩;exact Below.alloc (set_below (Nat.le_refl _) (set_below (Nat.le_refl _) (set_below (Nat.le_refl _) (set_below (Nat.le_refl _) (set_below (Nat.le_refl _) (set_below (Nat.le_refl _) (set_below (Nat.le_refl _) (set_below (Nat.le_refl _) (HB.out))))))))) qqd13 _
 ·obtain ⟨x,hx,hn⟩:=hit_yes hh;have hj : pl Vd.n xs t < len:=by have:=(List.getElem?_eq_some_iff.1 hx).1;omega
  obtain ⟨b,o,y,rfl,hbl,hy,hat⟩:=vd_at HR.out hj;rw [hx] at hy;obtain rfl:=Option.some.inj hy;obtain ⟨va,vl,vc,hvr,z0,z2,z3,z5,c0,c1,c2,c3,c4,c5,c6,c7⟩:=vd_cells hat;obtain ⟨hbw,e0,e1,e2,e3⟩:=qqb6;obtain ⟨e4,e5⟩:=qqb56;have e6:=(cell_below hb1 hbw).trans ((cell_below HRW.out hbl).trans c6);have e7:=(cell_below hb1 hbw).trans ((cell_below HRW.out hbl).trans c7);have HI : Hid (Fndvd xs t r w (.returned (.tuple #[.agg #[.string x.n,.int .i64 x.c,.string x.z,.string x.k,.bool x.x,.string x.m,.bool x.y,.slice va vl vc],.bool true])) w):=⟨Below.refl _ _,.inl ⟨hh,x,va,vl,vc,hx,hn,rfl,z0,z2,z3,z5,hvr⟩⟩;clear c0 c1 c2 c3 c4 c5 c6 c7 hat hx hn hy hh z0 z2 z3 z5 hvr HR HRW hb1 hsr;have hne : ¬ b = w.heap.size:=qqd1
  obtain ⟨j,hjj⟩ : ∃ j,pl Vd.n xs t = j:=⟨_,rfl⟩;rw [hjj] at hj;simp only [hjj] at *;clear hjj;go_wp2;refine bodyPost_ret (v:=.tuple #[.agg #[.string x.n,.int .i64 x.c,.string x.z,.string x.k,.bool x.x,.string x.m,.bool x.y,.slice va vl vc],.bool true]) (by simp [results,Tryz.results157,go_sem, *]) rfl ⟨?_,HI.out.2⟩;exact set_below (Nat.le_refl _) (set_below (Nat.le_refl _) (set_below (Nat.le_refl _) (set_below (Nat.le_refl _) (set_below (Nat.le_refl _) (set_below (Nat.le_refl _) (set_below (Nat.le_refl _) (set_below (Nat.le_refl _) (HB.out))))))))

theorem thevd_any (d : Ad) (now : Int) (xs : List Vd) (t : ByteArray) (r w : World) (hr : RRow r d.a3 d.l3 d.c3 8 (xs.map vdF)) (hrw : Below r.heap.size r w) :
  Calls Tryz.prog 151 #[.agg #[.slice d.a1 d.l1 d.c1,.slice d.a2 d.l2 d.c2,.slice d.a3 d.l3 d.c3,.slice d.a4 d.l4 d.c4,.slice d.a5 d.l5 d.c5,.int .i64 now],.string t] w (Fndvd xs t r w):=by
 have HR:=hidK hr;have HRW:=hidK (hrw.trans ((below2 w (.cells #[.slice d.a1 d.l1 d.c1,.slice d.a2 d.l2 d.c2,.slice d.a3 d.l3 d.c3,.slice d.a4 d.l4 d.c4,.slice d.a5 d.l5 d.c5,.int .i64 now] 36) (.cells #[.string ⟨#[]⟩,.int .i64 0,.string ⟨#[]⟩,.string ⟨#[]⟩,.bool false,.string ⟨#[]⟩,.bool false,.slice none 0 0] 106)).mono hrw.size));clear hr hrw;go_enter Tryz.func151,Tryz.ntmps151;go_wp2_with fail;refine (findvd_any _ _ _ xs t r _ HR.out HRW.out).mono ?_;rintro e w1 ⟨hb,hf⟩;obtain ⟨g1,d0,f0⟩:=qqb29;obtain ⟨d1,f1,d2,f2⟩:=qqb86;have d3 : w1.cell? ⟨w.heap.size + 1,3,none⟩ = some (.string ⟨#[]⟩):=cellK g1 3;have f3:=froK g1 3;have d4 : w1.cell? ⟨w.heap.size + 1,4,none⟩ = some (.bool false):=cellK g1 4;have f4:=froK g1 4;have d5 : w1.cell? ⟨w.heap.size + 1,5,none⟩ = some (.string ⟨#[]⟩):=cellK g1 5;have f5:=froK g1 5;have d6 : w1.cell? ⟨w.heap.size + 1,6,none⟩ = some (.bool false):=cellK g1 6;have f6:=froK g1 6;have d7 : w1.cell? ⟨w.heap.size + 1,7,none⟩ = some (.slice none 0 0):=cellK g1 7;have f7:=froK g1 7;have HB : Hid (Below w.heap.size w w1):=(below2 _ _ _).trans (hb.mono qqd7);clear g1 hb HR HRW;rcases hf with ⟨hh,x,va,vl,vc,hx,hn,rfl,z0,z2,z3,z5,hvr⟩ | ⟨hh,rfl⟩
 ·have HI : Hid (Fndvd xs t r w (.returned (.tuple #[.agg #[.string x.n,.int .i64 x.c,.string x.z,.string x.k,.bool x.x,.string x.m,.bool x.y,.slice va vl vc],.bool true])) w):=⟨Below.refl _ _,.inl ⟨hh,x,va,vl,vc,hx,hn,rfl,z0,z2,z3,z5,hvr⟩⟩;clear hx hn hh z0 z2 z3 z5 hvr;go_wp2;refine bodyPost_ret (v:=.tuple #[.agg #[.string x.n,.int .i64 x.c,.string x.z,.string x.k,.bool x.x,.string x.m,.bool x.y,.slice va vl vc],.bool true]) (by simp [results,Tryz.results151,go_sem, *]) rfl ⟨?_,HI.out.2⟩;exact qqa72
 ·have HH:=hidK hh;clear hh;go_wp2;refine bodyPost_ret (v:=.tuple #[.agg #[.string ⟨#[]⟩,.int .i64 0,.string ⟨#[]⟩,.string ⟨#[]⟩,.bool false,.string ⟨#[]⟩,.bool false,.slice none 0 0],.bool false]) (by simp [results,Tryz.results151,go_sem, *]) rfl ⟨?_,.inr ⟨HH.out,rfl⟩⟩;exact qqa72

theorem rowrvd_any (a : Option Addr) (len cap : Nat) (xs : List Vd) (most : Int) (w : World) (hr : RRow w a len cap 8 (xs.map vdF)) :
  Calls Tryz.prog 128 #[.slice a len cap,.int .i64 most] w (BoolB (RowOk vdOk Vd.n xs most) w):=by
 have HR:=hidK hr;obtain ⟨hxl,hlc⟩:=qqb5;clear hr;have hmcalled : ∀ (v : Value) (w : World),(method 335 106 v "loop.example/g00571/impl.called").run Tryz.prog w = .ok (191,v) w:=fun _ _ => by kernel_rfl
 have hmright : ∀ (v : Value) (w : World),(method 335 106 v "loop.example/g00571/impl.right").run Tryz.prog w = .ok (192,v) w:=fun _ _ => by kernel_rfl
 by_cases hmo : most < (len : Int)
 ·go_enter Tryz.func128,Tryz.ntmps128;exact qqa63
 go_enter Tryz.func128,Tryz.ntmps128;go_wp2;go_loopw [5,14] (fun q i wr => ∃ (k : Nat) (y : ByteArray),k ≤ len ∧ q = .string y ∧ i = .int .i64 k ∧ Hid (k = 0 → y = ⟨#[]⟩) ∧ Hid (∀ z,0 < k → xs[k - 1]? = some z → z.n = y) ∧ Hid (∀ (j : Nat) z,j < k → xs[j]? = some z → vdOk z) ∧ Hid (∀ (j : Nat) z u,j + 1 < k → xs[j + 1]? = some z → xs[j]? = some u → Op.bytesLess u.n.toList z.n.toList = true) ∧ Hid (Below w.heap.size w wr)) (fun _ i _ => len - (intOf i).toNat);case atStart => exact ⟨0,_,by omega,rfl,rfl,fun _ => rfl,fun _ h => absurd h qqd1,fun _ _ h => absurd h qqd1,fun _ _ _ h => absurd h qqd1,Below.refl _ _⟩
 case round =>
  obtain ⟨k,y,hk,rfl,rfl,H0,H1,HE,HO,HB⟩:=hrel;by_cases hlt : k < len
  ·obtain ⟨b,o,x,rfl,hb,hx,hat⟩:=vd_at (HR.out.below HB.out) hlt;obtain ⟨va,vl,vc,hvr,z0,z2,z3,z5,c0,c1,c2,c3,c4,c5,c6,c7⟩:=vd_cells hat;have HX:=hidK hx;obtain ⟨HC,HB1⟩:=qqb75;have HRt:=hidK (rightvd_any x va vl vc (wr.alloc (.cells #[.string x.n,.int .i64 x.c,.string x.z,.string x.k,.bool x.x,.string x.m,.bool x.y,.slice va vl vc] 106)) z0 z2 z3 z5 (hvr.below (below1 _ _)));clear hat hx z0 z2 z3 z5 hvr;go_wp2_with fail;refine HRt.out.mono ?_;rintro e w1 ⟨r,rfl,hrt,hb1⟩;obtain ⟨g1,-,-⟩:=slotK hb1;have hs1:=hb1.size;rw [show (wr.alloc (.cells #[.string x.n,.int .i64 x.c,.string x.z,.string x.k,.bool x.x,.string x.m,.bool x.y,.slice va vl vc] 106)).heap.size = wr.heap.size + 1 from by simp] at hs1;obtain ⟨HB2,d0⟩:=qqb12;obtain ⟨d1,d2,d3,d4,d5,d6,d7⟩:=qqb24;have HG:=hidK g1;have HI:=hidK hrt;clear g1 hb1 HB1 HRt hrt c0 c1 c2 c3 c4 c5 c6 c7;cases r
   ·exact qqa51
   have HOK:=hidK (HI.out.1 rfl);clear HI;go_wp2_with fail;refine (HC.out _).mono ?_;rintro e w2 ⟨rfl,hb2⟩;obtain ⟨HB3,g2,hs2,htri⟩:=qqb11;clear HG hb2 HB2 d0 d1 d2 d3 d4 d5 d6 d7;obtain ⟨d0,d1,d2⟩:=qqb71;have d3 : w2.cell? ⟨wr.heap.size,3,none⟩ = some (.string x.k):=cellK g2 3;have d4 : w2.cell? ⟨wr.heap.size,4,none⟩ = some (.bool x.x):=cellK g2 4;have d5 : w2.cell? ⟨wr.heap.size,5,none⟩ = some (.string x.m):=cellK g2 5;have d6 : w2.cell? ⟨wr.heap.size,6,none⟩ = some (.bool x.y):=cellK g2 6;have d7 : w2.cell? ⟨wr.heap.size,7,none⟩ = some (.slice va vl vc):=cellK g2 7;clear g2;cases hless : Op.bytesLess y.toList x.n.toList
   ·exact qqa10
   ·rw [hless] at htri;go_wp2_with fail;refine (HC.out _).mono ?_;rintro e w3 ⟨rfl,hb3⟩;have HB4:=hidK (HB3.out.trans (hb3.mono (Nat.le_trans HB.out.size qqd1)));clear hb3 d0 d1 d2 d3 d4 d5 d6 d7;exact qqa5
  ·exact qqa18

def Sxvd (xs : List Vd) (t : ByteArray) (w : World) (e : Ending) (w' : World) : Prop :=
 Below w.heap.size w w' ∧ ((∃ (j : Nat) (x : Vd),xs[j]? = some x ∧ x.n = t ∧ e = .returned (.int .i64 j)) ∨ ((∀ (j : Nat) x,xs[j]? = some x → ¬ x.n = t) ∧ e = .returned (.int .i64 (-1))))

theorem sxvd_any (d : Ad) (now : Int) (xs : List Vd) (t : ByteArray) (w : World) (hr : RRow w d.a3 d.l3 d.c3 8 (xs.map vdF)) :
  Calls Tryz.prog 119 #[.agg #[.slice d.a1 d.l1 d.c1,.slice d.a2 d.l2 d.c2,.slice d.a3 d.l3 d.c3,.slice d.a4 d.l4 d.c4,.slice d.a5 d.l5 d.c5,.int .i64 now],.string t] w (Sxvd xs t w):=by
 have HR:=hidK hr;have hxl : xs.length = d.l3:=qqd8
 have hlc : d.l3 ≤ 9223372036854775807:=Nat.le_trans hr.2.1 hr.2.2.1;clear hr;go_enter Tryz.func119,Tryz.ntmps119;go_wp2;go_loopw [5] (fun i wr => ∃ k : Nat,k ≤ d.l3 ∧ i = .int .i64 k ∧ wr = w.alloc (.cells #[.slice d.a1 d.l1 d.c1,.slice d.a2 d.l2 d.c2,.slice d.a3 d.l3 d.c3,.slice d.a4 d.l4 d.c4,.slice d.a5 d.l5 d.c5,.int .i64 now] 36) ∧ Hid (∀ (j : Nat) z,j < k → xs[j]? = some z → ¬ z.n = t)) (fun i _ => d.l3 - (intOf i).toNat);case atStart => exact ⟨0,by omega,rfl,rfl,fun _ _ h => absurd h qqd1⟩
 case round =>
  obtain ⟨k,hk,rfl,rfl,HE⟩:=hrel;by_cases hlt : k < d.l3
  ·obtain ⟨b,o,x,ha,hb,hx,hat⟩:=vd_at HR.out hlt;obtain ⟨va,vl,vc,hvr,-,-,-,-,c0,-,-,-,-,-,-,-⟩:=vd_cells hat;have HX:=hidK hx;clear hat hx hvr;exact qqa11
  ·obtain rfl : k = d.l3:=qqd1
   exact qqa37

theorem calledxd_any (x : Xd)  (w : World) :
  Calls Tryz.prog 198 #[.agg #[.string x.n,.int .i64 x.z,.string x.k,.bool x.x,.string x.v]] w fun e w' => e = .returned (.string x.n) ∧ Below w.heap.size w w':=by
 go_enter Tryz.func198,Tryz.ntmps198;go_wp2;go_ret;exact ⟨rfl,below1 _ _⟩

theorem rightxd_any (x : Xd)  (w : World) (hn : x.n.size ≤ 9223372036854775807) (hk : x.k.size ≤ 9223372036854775807) (hv : x.v.size ≤ 9223372036854775807) :
  Calls Tryz.prog 199 #[.agg #[.string x.n,.int .i64 x.z,.string x.k,.bool x.x,.string x.v]] w (BoolB (xdOk x) w):=by
 skip;skip;go_enter Tryz.func199,Tryz.ntmps199;go_wp2_with fail;refine (iclaim_any x.n x.z x.k x.x x.v _ hn hk hv).mono ?_;exact qqa32

theorem placexd_any (a : Option Addr) (len cap : Nat) (xs : List Xd) (t : ByteArray) (w : World) (hr : RRow w a len cap 5 (xs.map xdF)) :
  Calls Tryz.prog 161 #[.slice a len cap,.string t] w fun e w' => e = .returned (.tuple #[.int .i64 (pl Xd.n xs t : Nat),.bool (hit Xd.n xs t)]) ∧ Below w.heap.size w w':=by
 have HR:=hidK hr;obtain ⟨hxl,hlc⟩:=qqb5;clear hr;have hmcalled : ∀ (v : Value) (w : World),(method 335 112 v "loop.example/g00571/impl.called").run Tryz.prog w = .ok (198,v) w:=fun _ _ => by kernel_rfl
 go_enter Tryz.func161,Tryz.ntmps161;go_wp2;go_loopw [10] (fun i wr => ∃ k : Nat,k ≤ len ∧ i = .int .i64 k ∧ Hid (∀ (j : Nat) y,j < k → xs[j]? = some y → Op.bytesLess y.n.toList t.toList = true) ∧ Hid (Below w.heap.size w wr)) (fun i _ => len - (intOf i).toNat);case atStart => exact ⟨0,by omega,rfl,fun j y hj => by omega,Below.refl _ _⟩
 case round =>
  obtain ⟨k,hk,rfl,HE,HB⟩:=hrel;by_cases hlt : k < len
  ·obtain ⟨b,o,x,rfl,hb,hx,hat⟩:=xd_at (HR.out.below HB.out) hlt;obtain ⟨z0,z2,z4,c0,c1,c2,c3,c4⟩:=xd_cells hat;have HX:=hidK hx;clear hat hx z0 z2 z4;have HC:=hidK (fun v : World => calledxd_any x v);have HB1:=hidK (HB.out.alloc HB.out.size (.cells #[.string x.n,.int .i64 x.z,.string x.k,.bool x.x,.string x.v] 112));go_wp2_with fail;refine (HC.out _).mono ?_;rintro e w1 ⟨rfl,hb1⟩;obtain ⟨g1,-,-⟩:=slotK hb1;have hs1:=hb1.size;rw [show (wr.alloc (.cells #[.string x.n,.int .i64 x.z,.string x.k,.bool x.x,.string x.v] 112)).heap.size = wr.heap.size + 1 from by simp] at hs1;obtain ⟨HB2,d0⟩:=qqb12;obtain ⟨d1,d2,d3,d4⟩:=qqb47;clear g1 hb1 c0 c1 c2 c3 c4 HB1;cases hless : Op.bytesLess x.n.toList t.toList
   ·go_wp2_with fail;refine (HC.out _).mono ?_;rintro e w2 ⟨rfl,hb2⟩;obtain ⟨HB3,hp⟩:=qqb27;clear hb2;go_wp2_with fail;refine bodyPost_ret (v:=.tuple #[.int .i64 k,.bool (x.n.toList == t.toList)]) (by simp [results,Tryz.results161,go_sem]) rfl ⟨?_,HB3.out⟩;unfold hit;rw [hp,HX.out]
   ·exact qqa20
  ·obtain rfl : k = len:=qqd1
   have hp : pl Xd.n xs t = xs.length:=pl_end (fun j y hy => HE.out j y qqd11 hy);have hh : hit Xd.n xs t = false:=by unfold hit;rw [hp,List.getElem?_eq_none (Nat.le_refl _)]
   have HP:=hidK hp;have HH:=hidK hh;clear hp hh;go_wp2;exact bodyPost_ret (v:=.tuple #[.int .i64 k,.bool false]) (by simp [results,Tryz.results161,go_sem]) rfl ⟨by rw [HP.out,HH.out,hxl],HB.out⟩

def Fndxd (xs : List Xd) (t : ByteArray) (_r w : World) (e : Ending) (w' : World) : Prop :=
 Below w.heap.size w w' ∧ ((hit Xd.n xs t = true ∧ ∃ (x : Xd),xs[pl Xd.n xs t]? = some x ∧ x.n = t ∧ e = .returned (.tuple #[.agg #[.string x.n,.int .i64 x.z,.string x.k,.bool x.x,.string x.v],.bool true]) ∧ x.n.size ≤ 9223372036854775807 ∧ x.k.size ≤ 9223372036854775807 ∧ x.v.size ≤ 9223372036854775807) ∨ (hit Xd.n xs t = false ∧ e = .returned (.tuple #[.agg #[.string ⟨#[]⟩,.int .i64 0,.string ⟨#[]⟩,.bool false,.string ⟨#[]⟩],.bool false])))

theorem findxd_any (a : Option Addr) (len cap : Nat) (xs : List Xd) (t : ByteArray) (r w : World) (hr : RRow r a len cap 5 (xs.map xdF)) (hrw : Below r.heap.size r w) :
  Calls Tryz.prog 156 #[.slice a len cap,.string t] w (Fndxd xs t r w):=by
 have HR:=hidK hr;have HRW:=hidK hrw;obtain ⟨hxl,hlc⟩:=qqb5;have HR1:=hidK ((hr.below hrw).below (below1 w (.cells #[.string ⟨#[]⟩,.int .i64 0,.string ⟨#[]⟩,.bool false,.string ⟨#[]⟩] 112)));have hsr:=hrw.size;clear hr hrw;go_enter Tryz.func156,Tryz.ntmps156;go_wp2_with fail;refine (placexd_any a len cap xs t _ HR1.out).mono ?_;rintro e w1 ⟨rfl,hb⟩;obtain ⟨g1,hb1,-⟩:=slotK hb;obtain ⟨d0,f0,d1,f1,d2,f2⟩:=qqb21;have d3 : w1.cell? ⟨w.heap.size,3,none⟩ = some (.bool false):=cellK g1 3;have f3:=froK g1 3;have d4 : w1.cell? ⟨w.heap.size,4,none⟩ = some (.string ⟨#[]⟩):=cellK g1 4;have f4:=froK g1 4;have HB:=hidK hb1;have hs1:=hb.size;rw [show (w.alloc (.cells #[.string ⟨#[]⟩,.int .i64 0,.string ⟨#[]⟩,.bool false,.string ⟨#[]⟩] 112)).heap.size = w.heap.size + 1 from by simp] at hs1;have hlt1 : w.heap.size < w1.heap.size:=qqd1
 clear hb g1 HR1 hs1;cases hh : hit Xd.n xs t
 ·generalize pl Xd.n xs t = j;have HH:=hidK hh;clear hh hb1 HR hxl hlc;go_wp2;refine bodyPost_ret (v:=.tuple #[.agg #[.string ⟨#[]⟩,.int .i64 0,.string ⟨#[]⟩,.bool false,.string ⟨#[]⟩],.bool false]) (by simp [results,Tryz.results156,go_sem, *]) rfl ⟨?_,.inr ⟨HH.out,rfl⟩⟩;exact Below.alloc (set_below (Nat.le_refl _) (set_below (Nat.le_refl _) (set_below (Nat.le_refl _) (set_below (Nat.le_refl _) (set_below (Nat.le_refl _) (HB.out)))))) qqd13 _
 ·obtain ⟨x,hx,hn⟩:=hit_yes hh;have hj : pl Xd.n xs t < len:=by have:=(List.getElem?_eq_some_iff.1 hx).1;omega
  obtain ⟨b,o,y,rfl,hbl,hy,hat⟩:=xd_at HR.out hj;rw [hx] at hy;obtain rfl:=Option.some.inj hy;obtain ⟨z0,z2,z4,c0,c1,c2,c3,c4⟩:=xd_cells hat;obtain ⟨hbw,e0,e1,e2,e3⟩:=qqb6;have e4:=(cell_below hb1 hbw).trans ((cell_below HRW.out hbl).trans c4);have HI : Hid (Fndxd xs t r w (.returned (.tuple #[.agg #[.string x.n,.int .i64 x.z,.string x.k,.bool x.x,.string x.v],.bool true])) w):=⟨Below.refl _ _,.inl ⟨hh,x,hx,hn,rfl,z0,z2,z4⟩⟩;clear c0 c1 c2 c3 c4 hat hx hn hy hh z0 z2 z4 HR HRW hb1 hsr;have hne : ¬ b = w.heap.size:=qqd1
  obtain ⟨j,hjj⟩ : ∃ j,pl Xd.n xs t = j:=⟨_,rfl⟩;rw [hjj] at hj;simp only [hjj] at *;clear hjj;go_wp2;refine bodyPost_ret (v:=.tuple #[.agg #[.string x.n,.int .i64 x.z,.string x.k,.bool x.x,.string x.v],.bool true]) (by simp [results,Tryz.results156,go_sem, *]) rfl ⟨?_,HI.out.2⟩;exact set_below (Nat.le_refl _) (set_below (Nat.le_refl _) (set_below (Nat.le_refl _) (set_below (Nat.le_refl _) (set_below (Nat.le_refl _) (HB.out)))))

theorem thexd_any (d : Ad) (now : Int) (xs : List Xd) (t : ByteArray) (r w : World) (hr : RRow r d.a4 d.l4 d.c4 5 (xs.map xdF)) (hrw : Below r.heap.size r w) :
  Calls Tryz.prog 150 #[.agg #[.slice d.a1 d.l1 d.c1,.slice d.a2 d.l2 d.c2,.slice d.a3 d.l3 d.c3,.slice d.a4 d.l4 d.c4,.slice d.a5 d.l5 d.c5,.int .i64 now],.string t] w (Fndxd xs t r w):=by
 have HR:=hidK hr;have HRW:=hidK (hrw.trans ((below2 w (.cells #[.slice d.a1 d.l1 d.c1,.slice d.a2 d.l2 d.c2,.slice d.a3 d.l3 d.c3,.slice d.a4 d.l4 d.c4,.slice d.a5 d.l5 d.c5,.int .i64 now] 36) (.cells #[.string ⟨#[]⟩,.int .i64 0,.string ⟨#[]⟩,.bool false,.string ⟨#[]⟩] 112)).mono hrw.size));clear hr hrw;go_enter Tryz.func150,Tryz.ntmps150;go_wp2_with fail;refine (findxd_any _ _ _ xs t r _ HR.out HRW.out).mono ?_;rintro e w1 ⟨hb,hf⟩;obtain ⟨g1,d0,f0⟩:=qqb29;obtain ⟨d1,f1,d2,f2⟩:=qqb86;have d3 : w1.cell? ⟨w.heap.size + 1,3,none⟩ = some (.bool false):=cellK g1 3;have f3:=froK g1 3;have d4 : w1.cell? ⟨w.heap.size + 1,4,none⟩ = some (.string ⟨#[]⟩):=cellK g1 4;have f4:=froK g1 4;have HB : Hid (Below w.heap.size w w1):=(below2 _ _ _).trans (hb.mono qqd7);clear g1 hb HR HRW;rcases hf with ⟨hh,x,hx,hn,rfl,z0,z2,z4⟩ | ⟨hh,rfl⟩
 ·have HI : Hid (Fndxd xs t r w (.returned (.tuple #[.agg #[.string x.n,.int .i64 x.z,.string x.k,.bool x.x,.string x.v],.bool true])) w):=⟨Below.refl _ _,.inl ⟨hh,x,hx,hn,rfl,z0,z2,z4⟩⟩;clear hx hn hh z0 z2 z4;go_wp2;refine bodyPost_ret (v:=.tuple #[.agg #[.string x.n,.int .i64 x.z,.string x.k,.bool x.x,.string x.v],.bool true]) (by simp [results,Tryz.results150,go_sem, *]) rfl ⟨?_,HI.out.2⟩;exact qqa94
 ·have HH:=hidK hh;clear hh;go_wp2;refine bodyPost_ret (v:=.tuple #[.agg #[.string ⟨#[]⟩,.int .i64 0,.string ⟨#[]⟩,.bool false,.string ⟨#[]⟩],.bool false]) (by simp [results,Tryz.results150,go_sem, *]) rfl ⟨?_,.inr ⟨HH.out,rfl⟩⟩;exact qqa94

theorem rowrxd_any (a : Option Addr) (len cap : Nat) (xs : List Xd) (most : Int) (w : World) (hr : RRow w a len cap 5 (xs.map xdF)) :
  Calls Tryz.prog 129 #[.slice a len cap,.int .i64 most] w (BoolB (RowOk xdOk Xd.n xs most) w):=by
 have HR:=hidK hr;obtain ⟨hxl,hlc⟩:=qqb5;clear hr;have hmcalled : ∀ (v : Value) (w : World),(method 335 112 v "loop.example/g00571/impl.called").run Tryz.prog w = .ok (198,v) w:=fun _ _ => by kernel_rfl
 have hmright : ∀ (v : Value) (w : World),(method 335 112 v "loop.example/g00571/impl.right").run Tryz.prog w = .ok (199,v) w:=fun _ _ => by kernel_rfl
 by_cases hmo : most < (len : Int)
 ·go_enter Tryz.func129,Tryz.ntmps129;exact qqa63
 go_enter Tryz.func129,Tryz.ntmps129;go_wp2;go_loopw [5,14] (fun q i wr => ∃ (k : Nat) (y : ByteArray),k ≤ len ∧ q = .string y ∧ i = .int .i64 k ∧ Hid (k = 0 → y = ⟨#[]⟩) ∧ Hid (∀ z,0 < k → xs[k - 1]? = some z → z.n = y) ∧ Hid (∀ (j : Nat) z,j < k → xs[j]? = some z → xdOk z) ∧ Hid (∀ (j : Nat) z u,j + 1 < k → xs[j + 1]? = some z → xs[j]? = some u → Op.bytesLess u.n.toList z.n.toList = true) ∧ Hid (Below w.heap.size w wr)) (fun _ i _ => len - (intOf i).toNat);case atStart => exact ⟨0,_,by omega,rfl,rfl,fun _ => rfl,fun _ h => absurd h qqd1,fun _ _ h => absurd h qqd1,fun _ _ _ h => absurd h qqd1,Below.refl _ _⟩
 case round =>
  obtain ⟨k,y,hk,rfl,rfl,H0,H1,HE,HO,HB⟩:=hrel;by_cases hlt : k < len
  ·obtain ⟨b,o,x,rfl,hb,hx,hat⟩:=xd_at (HR.out.below HB.out) hlt;obtain ⟨z0,z2,z4,c0,c1,c2,c3,c4⟩:=xd_cells hat;have HX:=hidK hx;have HC:=hidK (fun v : World => calledxd_any x v);have HB1:=hidK (HB.out.alloc HB.out.size (.cells #[.string x.n,.int .i64 x.z,.string x.k,.bool x.x,.string x.v] 112));have HRt:=hidK (rightxd_any x (wr.alloc (.cells #[.string x.n,.int .i64 x.z,.string x.k,.bool x.x,.string x.v] 112)) z0 z2 z4);clear hat hx z0 z2 z4;go_wp2_with fail;refine HRt.out.mono ?_;rintro e w1 ⟨r,rfl,hrt,hb1⟩;obtain ⟨g1,-,-⟩:=slotK hb1;have hs1:=hb1.size;rw [show (wr.alloc (.cells #[.string x.n,.int .i64 x.z,.string x.k,.bool x.x,.string x.v] 112)).heap.size = wr.heap.size + 1 from by simp] at hs1;obtain ⟨HB2,d0⟩:=qqb12;obtain ⟨d1,d2,d3,d4⟩:=qqb47;have HG:=hidK g1;have HI:=hidK hrt;clear g1 hb1 HB1 HRt hrt c0 c1 c2 c3 c4;cases r
   ·exact qqa51
   have HOK:=hidK (HI.out.1 rfl);clear HI;go_wp2_with fail;refine (HC.out _).mono ?_;rintro e w2 ⟨rfl,hb2⟩;obtain ⟨HB3,g2,hs2,htri⟩:=qqb11;clear HG hb2 HB2 d0 d1 d2 d3 d4;have d0 : w2.cell? ⟨wr.heap.size,0,none⟩ = some (.string x.n):=cellK g2 0;have d1 : w2.cell? ⟨wr.heap.size,1,none⟩ = some (.int .i64 x.z):=cellK g2 1;have d2 : w2.cell? ⟨wr.heap.size,2,none⟩ = some (.string x.k):=cellK g2 2;have d3 : w2.cell? ⟨wr.heap.size,3,none⟩ = some (.bool x.x):=cellK g2 3;have d4 : w2.cell? ⟨wr.heap.size,4,none⟩ = some (.string x.v):=cellK g2 4;clear g2;cases hless : Op.bytesLess y.toList x.n.toList
   ·exact qqa10
   ·rw [hless] at htri;go_wp2_with fail;refine (HC.out _).mono ?_;rintro e w3 ⟨rfl,hb3⟩;have HB4:=hidK (HB3.out.trans (hb3.mono (Nat.le_trans HB.out.size qqd1)));clear hb3 d0 d1 d2 d3 d4;exact qqa5
  ·exact qqa18

def Sxxd (xs : List Xd) (t : ByteArray) (w : World) (e : Ending) (w' : World) : Prop :=
 Below w.heap.size w w' ∧ ((∃ (j : Nat) (x : Xd),xs[j]? = some x ∧ x.n = t ∧ e = .returned (.int .i64 j)) ∨ ((∀ (j : Nat) x,xs[j]? = some x → ¬ x.n = t) ∧ e = .returned (.int .i64 (-1))))

theorem sxxd_any (d : Ad) (now : Int) (xs : List Xd) (t : ByteArray) (w : World) (hr : RRow w d.a4 d.l4 d.c4 5 (xs.map xdF)) :
  Calls Tryz.prog 117 #[.agg #[.slice d.a1 d.l1 d.c1,.slice d.a2 d.l2 d.c2,.slice d.a3 d.l3 d.c3,.slice d.a4 d.l4 d.c4,.slice d.a5 d.l5 d.c5,.int .i64 now],.string t] w (Sxxd xs t w):=by
 have HR:=hidK hr;have hxl : xs.length = d.l4:=qqd8
 have hlc : d.l4 ≤ 9223372036854775807:=Nat.le_trans hr.2.1 hr.2.2.1;clear hr;go_enter Tryz.func117,Tryz.ntmps117;go_wp2;go_loopw [5] (fun i wr => ∃ k : Nat,k ≤ d.l4 ∧ i = .int .i64 k ∧ wr = w.alloc (.cells #[.slice d.a1 d.l1 d.c1,.slice d.a2 d.l2 d.c2,.slice d.a3 d.l3 d.c3,.slice d.a4 d.l4 d.c4,.slice d.a5 d.l5 d.c5,.int .i64 now] 36) ∧ Hid (∀ (j : Nat) z,j < k → xs[j]? = some z → ¬ z.n = t)) (fun i _ => d.l4 - (intOf i).toNat);case atStart => exact ⟨0,by omega,rfl,rfl,fun _ _ h => absurd h qqd1⟩
 case round =>
  obtain ⟨k,hk,rfl,rfl,HE⟩:=hrel;by_cases hlt : k < d.l4
  ·obtain ⟨b,o,x,ha,hb,hx,hat⟩:=xd_at HR.out hlt;obtain ⟨-,-,-,c0,-,-,-,-⟩:=xd_cells hat;have HX:=hidK hx;clear hat hx;exact qqa11
  ·obtain rfl : k = d.l4:=qqd1
   exact qqa37

theorem calledpd_any (x : Pd) (va : Option Addr) (vl vc : Nat) (w : World) :
  Calls Tryz.prog 178 #[.agg #[.string x.n,.int .i64 x.c,.string x.z,.slice va vl vc,.string x.d,.int .i64 x.p]] w fun e w' => e = .returned (.string x.n) ∧ Below w.heap.size w w':=by
 go_enter Tryz.func178,Tryz.ntmps178;go_wp2;go_ret;exact ⟨rfl,below1 _ _⟩

theorem rightpd_any (x : Pd) (va : Option Addr) (vl vc : Nat) (w : World) (hn : x.n.size ≤ 9223372036854775807) (hz : x.z.size ≤ 9223372036854775807) (hd : x.d.size ≤ 9223372036854775807) (hr : TxRow w va vl vc x.zs) :
  Calls Tryz.prog 179 #[.agg #[.string x.n,.int .i64 x.c,.string x.z,.slice va vl vc,.string x.d,.int .i64 x.p]] w (BoolB (pdOk x) w):=by
 have HR:=hidK (hr.below (below1 w (.cells #[.string x.n,.int .i64 x.c,.string x.z,.slice va vl vc,.string x.d,.int .i64 x.p] 69)));clear hr;go_enter Tryz.func179,Tryz.ntmps179;go_wp2_with fail;refine (ipod_any x.n x.c x.z va vl vc x.zs x.d x.p _ hn hz hd HR.out).mono ?_;exact qqa32

theorem placepd_any (a : Option Addr) (len cap : Nat) (xs : List Pd) (t : ByteArray) (w : World) (hr : RRow w a len cap 6 (xs.map pdF)) :
  Calls Tryz.prog 103 #[.slice a len cap,.string t] w fun e w' => e = .returned (.tuple #[.int .i64 (pl Pd.n xs t : Nat),.bool (hit Pd.n xs t)]) ∧ Below w.heap.size w w':=by
 have HR:=hidK hr;obtain ⟨hxl,hlc⟩:=qqb5;clear hr;have hmcalled : ∀ (v : Value) (w : World),(method 335 69 v "loop.example/g00571/impl.called").run Tryz.prog w = .ok (178,v) w:=fun _ _ => by kernel_rfl
 go_enter Tryz.func103,Tryz.ntmps103;go_wp2;go_loopw [10] (fun i wr => ∃ k : Nat,k ≤ len ∧ i = .int .i64 k ∧ Hid (∀ (j : Nat) y,j < k → xs[j]? = some y → Op.bytesLess y.n.toList t.toList = true) ∧ Hid (Below w.heap.size w wr)) (fun i _ => len - (intOf i).toNat);case atStart => exact ⟨0,by omega,rfl,fun j y hj => by omega,Below.refl _ _⟩
 case round =>
  obtain ⟨k,hk,rfl,HE,HB⟩:=hrel;by_cases hlt : k < len
  ·obtain ⟨b,o,x,rfl,hb,hx,hat⟩:=pd_at (HR.out.below HB.out) hlt;obtain ⟨va,vl,vc,hvr,z0,z2,z4,c0,c1,c2,c3,c4,c5⟩:=pd_cells hat;have HX:=hidK hx;clear hat hx z0 z2 z4 hvr;obtain ⟨HC,HB1⟩:=qqb84;go_wp2_with fail;refine (HC.out _).mono ?_;rintro e w1 ⟨rfl,hb1⟩;obtain ⟨g1,-,-⟩:=slotK hb1;have hs1:=hb1.size;rw [show (wr.alloc (.cells #[.string x.n,.int .i64 x.c,.string x.z,.slice va vl vc,.string x.d,.int .i64 x.p] 69)).heap.size = wr.heap.size + 1 from by simp] at hs1;obtain ⟨HB2,d0⟩:=qqb12;obtain ⟨d1,d2,d3,d4,d5⟩:=qqb39;clear g1 hb1 c0 c1 c2 c3 c4 c5 HB1;cases hless : Op.bytesLess x.n.toList t.toList
   ·go_wp2_with fail;refine (HC.out _).mono ?_;rintro e w2 ⟨rfl,hb2⟩;obtain ⟨HB3,hp⟩:=qqb27;clear hb2;go_wp2_with fail;refine bodyPost_ret (v:=.tuple #[.int .i64 k,.bool (x.n.toList == t.toList)]) (by simp [results,Tryz.results103,go_sem]) rfl ⟨?_,HB3.out⟩;unfold hit;rw [hp,HX.out]
   ·exact qqa20
  ·obtain rfl : k = len:=qqd1
   have hp : pl Pd.n xs t = xs.length:=pl_end (fun j y hy => HE.out j y qqd11 hy);have hh : hit Pd.n xs t = false:=by unfold hit;rw [hp,List.getElem?_eq_none (Nat.le_refl _)]
   have HP:=hidK hp;have HH:=hidK hh;clear hp hh;go_wp2;exact bodyPost_ret (v:=.tuple #[.int .i64 k,.bool false]) (by simp [results,Tryz.results103,go_sem]) rfl ⟨by rw [HP.out,HH.out,hxl],HB.out⟩

def Fndpd (xs : List Pd) (t : ByteArray) (r w : World) (e : Ending) (w' : World) : Prop :=
 Below w.heap.size w w' ∧ ((hit Pd.n xs t = true ∧ ∃ (x : Pd) (va : Option Addr) (vl vc : Nat),xs[pl Pd.n xs t]? = some x ∧ x.n = t ∧ e = .returned (.tuple #[.agg #[.string x.n,.int .i64 x.c,.string x.z,.slice va vl vc,.string x.d,.int .i64 x.p],.bool true]) ∧ x.n.size ≤ 9223372036854775807 ∧ x.z.size ≤ 9223372036854775807 ∧ x.d.size ≤ 9223372036854775807 ∧ TxRow r va vl vc x.zs) ∨ (hit Pd.n xs t = false ∧ e = .returned (.tuple #[.agg #[.string ⟨#[]⟩,.int .i64 0,.string ⟨#[]⟩,.slice none 0 0,.string ⟨#[]⟩,.int .i64 0],.bool false])))

theorem findpd_any (a : Option Addr) (len cap : Nat) (xs : List Pd) (t : ByteArray) (r w : World) (hr : RRow r a len cap 6 (xs.map pdF)) (hrw : Below r.heap.size r w) :
  Calls Tryz.prog 67 #[.slice a len cap,.string t] w (Fndpd xs t r w):=by
 have HR:=hidK hr;have HRW:=hidK hrw;obtain ⟨hxl,hlc⟩:=qqb5;have HR1:=hidK ((hr.below hrw).below (below1 w (.cells #[.string ⟨#[]⟩,.int .i64 0,.string ⟨#[]⟩,.slice none 0 0,.string ⟨#[]⟩,.int .i64 0] 69)));have hsr:=hrw.size;clear hr hrw;go_enter Tryz.func67,Tryz.ntmps67;go_wp2_with fail;refine (placepd_any a len cap xs t _ HR1.out).mono ?_;rintro e w1 ⟨rfl,hb⟩;obtain ⟨g1,hb1,-⟩:=slotK hb;obtain ⟨d0,f0,d1,f1,d2,f2⟩:=qqb21;have d3 : w1.cell? ⟨w.heap.size,3,none⟩ = some (.slice none 0 0):=cellK g1 3;have f3:=froK g1 3;have d4 : w1.cell? ⟨w.heap.size,4,none⟩ = some (.string ⟨#[]⟩):=cellK g1 4;have f4:=froK g1 4;have d5 : w1.cell? ⟨w.heap.size,5,none⟩ = some (.int .i64 0):=cellK g1 5;have f5:=froK g1 5;have HB:=hidK hb1;have hs1:=hb.size;rw [show (w.alloc (.cells #[.string ⟨#[]⟩,.int .i64 0,.string ⟨#[]⟩,.slice none 0 0,.string ⟨#[]⟩,.int .i64 0] 69)).heap.size = w.heap.size + 1 from by simp] at hs1;have hlt1 : w.heap.size < w1.heap.size:=qqd1
 clear hb g1 HR1 hs1;cases hh : hit Pd.n xs t
 ·generalize pl Pd.n xs t = j;have HH:=hidK hh;clear hh hb1 HR hxl hlc;go_wp2;refine bodyPost_ret (v:=.tuple #[.agg #[.string ⟨#[]⟩,.int .i64 0,.string ⟨#[]⟩,.slice none 0 0,.string ⟨#[]⟩,.int .i64 0],.bool false]) (by simp [results,Tryz.results67,go_sem, *]) rfl ⟨?_,.inr ⟨HH.out,rfl⟩⟩;exact Below.alloc (set_below (Nat.le_refl _) (set_below (Nat.le_refl _) (set_below (Nat.le_refl _) (set_below (Nat.le_refl _) (set_below (Nat.le_refl _) (set_below (Nat.le_refl _) (HB.out))))))) qqd13 _
 ·obtain ⟨x,hx,hn⟩:=hit_yes hh;have hj : pl Pd.n xs t < len:=by have:=(List.getElem?_eq_some_iff.1 hx).1;omega
  obtain ⟨b,o,y,rfl,hbl,hy,hat⟩:=pd_at HR.out hj;rw [hx] at hy;obtain rfl:=Option.some.inj hy;obtain ⟨va,vl,vc,hvr,z0,z2,z4,c0,c1,c2,c3,c4,c5⟩:=pd_cells hat;obtain ⟨hbw,e0,e1,e2,e3⟩:=qqb6;obtain ⟨e4,e5⟩:=qqb56;have HI : Hid (Fndpd xs t r w (.returned (.tuple #[.agg #[.string x.n,.int .i64 x.c,.string x.z,.slice va vl vc,.string x.d,.int .i64 x.p],.bool true])) w):=⟨Below.refl _ _,.inl ⟨hh,x,va,vl,vc,hx,hn,rfl,z0,z2,z4,hvr⟩⟩;clear c0 c1 c2 c3 c4 c5 hat hx hn hy hh z0 z2 z4 hvr HR HRW hb1 hsr;have hne : ¬ b = w.heap.size:=qqd1
  obtain ⟨j,hjj⟩ : ∃ j,pl Pd.n xs t = j:=⟨_,rfl⟩;rw [hjj] at hj;simp only [hjj] at *;clear hjj;go_wp2;refine bodyPost_ret (v:=.tuple #[.agg #[.string x.n,.int .i64 x.c,.string x.z,.slice va vl vc,.string x.d,.int .i64 x.p],.bool true]) (by simp [results,Tryz.results67,go_sem, *]) rfl ⟨?_,HI.out.2⟩;exact set_below (Nat.le_refl _) (set_below (Nat.le_refl _) (set_below (Nat.le_refl _) (set_below (Nat.le_refl _) (set_below (Nat.le_refl _) (set_below (Nat.le_refl _) (HB.out))))))

theorem rowrpd_any (a : Option Addr) (len cap : Nat) (xs : List Pd) (most : Int) (w : World) (hr : RRow w a len cap 6 (xs.map pdF)) :
  Calls Tryz.prog 130 #[.slice a len cap,.int .i64 most] w (BoolB (RowOk pdOk Pd.n xs most) w):=by
 have HR:=hidK hr;obtain ⟨hxl,hlc⟩:=qqb5;clear hr;have hmcalled : ∀ (v : Value) (w : World),(method 335 69 v "loop.example/g00571/impl.called").run Tryz.prog w = .ok (178,v) w:=fun _ _ => by kernel_rfl
 have hmright : ∀ (v : Value) (w : World),(method 335 69 v "loop.example/g00571/impl.right").run Tryz.prog w = .ok (179,v) w:=fun _ _ => by kernel_rfl
 by_cases hmo : most < (len : Int)
 ·go_enter Tryz.func130,Tryz.ntmps130;exact qqa63
 go_enter Tryz.func130,Tryz.ntmps130;go_wp2;go_loopw [5,14] (fun q i wr => ∃ (k : Nat) (y : ByteArray),k ≤ len ∧ q = .string y ∧ i = .int .i64 k ∧ Hid (k = 0 → y = ⟨#[]⟩) ∧ Hid (∀ z,0 < k → xs[k - 1]? = some z → z.n = y) ∧ Hid (∀ (j : Nat) z,j < k → xs[j]? = some z → pdOk z) ∧ Hid (∀ (j : Nat) z u,j + 1 < k → xs[j + 1]? = some z → xs[j]? = some u → Op.bytesLess u.n.toList z.n.toList = true) ∧ Hid (Below w.heap.size w wr)) (fun _ i _ => len - (intOf i).toNat);case atStart => exact ⟨0,_,by omega,rfl,rfl,fun _ => rfl,fun _ h => absurd h qqd1,fun _ _ h => absurd h qqd1,fun _ _ _ h => absurd h qqd1,Below.refl _ _⟩
 case round =>
  obtain ⟨k,y,hk,rfl,rfl,H0,H1,HE,HO,HB⟩:=hrel;by_cases hlt : k < len
  ·obtain ⟨b,o,x,rfl,hb,hx,hat⟩:=pd_at (HR.out.below HB.out) hlt;obtain ⟨va,vl,vc,hvr,z0,z2,z4,c0,c1,c2,c3,c4,c5⟩:=pd_cells hat;have HX:=hidK hx;obtain ⟨HC,HB1⟩:=qqb84;have HRt:=hidK (rightpd_any x va vl vc (wr.alloc (.cells #[.string x.n,.int .i64 x.c,.string x.z,.slice va vl vc,.string x.d,.int .i64 x.p] 69)) z0 z2 z4 (hvr.below (below1 _ _)));clear hat hx z0 z2 z4 hvr;go_wp2_with fail;refine HRt.out.mono ?_;rintro e w1 ⟨r,rfl,hrt,hb1⟩;obtain ⟨g1,-,-⟩:=slotK hb1;have hs1:=hb1.size;rw [show (wr.alloc (.cells #[.string x.n,.int .i64 x.c,.string x.z,.slice va vl vc,.string x.d,.int .i64 x.p] 69)).heap.size = wr.heap.size + 1 from by simp] at hs1;obtain ⟨HB2,d0⟩:=qqb12;obtain ⟨d1,d2,d3,d4,d5⟩:=qqb39;have HG:=hidK g1;have HI:=hidK hrt;clear g1 hb1 HB1 HRt hrt c0 c1 c2 c3 c4 c5;cases r
   ·exact qqa51
   have HOK:=hidK (HI.out.1 rfl);clear HI;go_wp2_with fail;refine (HC.out _).mono ?_;rintro e w2 ⟨rfl,hb2⟩;obtain ⟨HB3,g2,hs2,htri⟩:=qqb11;clear HG hb2 HB2 d0 d1 d2 d3 d4 d5;obtain ⟨d0,d1,d2⟩:=qqb71;have d3 : w2.cell? ⟨wr.heap.size,3,none⟩ = some (.slice va vl vc):=cellK g2 3;have d4 : w2.cell? ⟨wr.heap.size,4,none⟩ = some (.string x.d):=cellK g2 4;have d5 : w2.cell? ⟨wr.heap.size,5,none⟩ = some (.int .i64 x.p):=cellK g2 5;clear g2;cases hless : Op.bytesLess y.toList x.n.toList
   ·exact qqa10
   ·rw [hless] at htri;go_wp2_with fail;refine (HC.out _).mono ?_;rintro e w3 ⟨rfl,hb3⟩;have HB4:=hidK (HB3.out.trans (hb3.mono (Nat.le_trans HB.out.size qqd1)));clear hb3 d0 d1 d2 d3 d4 d5;exact qqa5
  ·exact qqa18

def Sxpd (xs : List Pd) (t : ByteArray) (w : World) (e : Ending) (w' : World) : Prop :=
 Below w.heap.size w w' ∧ ((∃ (j : Nat) (x : Pd),xs[j]? = some x ∧ x.n = t ∧ e = .returned (.int .i64 j)) ∨ ((∀ (j : Nat) x,xs[j]? = some x → ¬ x.n = t) ∧ e = .returned (.int .i64 (-1))))

theorem sxpd_any (d : Ad) (now : Int) (xs : List Pd) (t : ByteArray) (w : World) (hr : RRow w d.a5 d.l5 d.c5 6 (xs.map pdF)) :
  Calls Tryz.prog 23 #[.agg #[.slice d.a1 d.l1 d.c1,.slice d.a2 d.l2 d.c2,.slice d.a3 d.l3 d.c3,.slice d.a4 d.l4 d.c4,.slice d.a5 d.l5 d.c5,.int .i64 now],.string t] w (Sxpd xs t w):=by
 have HR:=hidK hr;have hxl : xs.length = d.l5:=qqd8
 have hlc : d.l5 ≤ 9223372036854775807:=Nat.le_trans hr.2.1 hr.2.2.1;clear hr;go_enter Tryz.func23,Tryz.ntmps23;go_wp2;go_loopw [5] (fun i wr => ∃ k : Nat,k ≤ d.l5 ∧ i = .int .i64 k ∧ wr = w.alloc (.cells #[.slice d.a1 d.l1 d.c1,.slice d.a2 d.l2 d.c2,.slice d.a3 d.l3 d.c3,.slice d.a4 d.l4 d.c4,.slice d.a5 d.l5 d.c5,.int .i64 now] 36) ∧ Hid (∀ (j : Nat) z,j < k → xs[j]? = some z → ¬ z.n = t)) (fun i _ => d.l5 - (intOf i).toNat);case atStart => exact ⟨0,by omega,rfl,rfl,fun _ _ h => absurd h qqd1⟩
 case round =>
  obtain ⟨k,hk,rfl,rfl,HE⟩:=hrel;by_cases hlt : k < d.l5
  ·obtain ⟨b,o,x,ha,hb,hx,hat⟩:=pd_at HR.out hlt;obtain ⟨va,vl,vc,hvr,-,-,-,c0,-,-,-,-,-⟩:=pd_cells hat;have HX:=hidK hx;clear hat hx hvr;exact qqa11
  ·obtain rfl : k = d.l5:=qqd1
   exact qqa37

def ens (w : World) : Prop:=∃ T v,w.cell? ⟨4,0,none⟩ = some (.iface T v)
theorem ens.lt {w : World} (h : ens w) : 4 < w.heap.size:=by
 obtain ⟨T,v,h⟩:=h;rcases Nat.lt_or_ge (4) w.heap.size with h1 | h1
 ·exact h1
 ·simp [World.cell?,Array.getElem?_eq_none h1] at h
theorem ens.below {w w' : World} (h : ens w) (hb : Below w.heap.size w w') : ens w':=by
 have hl:=h.lt;obtain ⟨T,v,h⟩:=h;exact ⟨T,v,(cell_below hb hl).trans h⟩
theorem isE_y {s : ByteArray} (h : s = ⟨#[]⟩) : s.toList.isEmpty = true:=by rw [h];exact isE_yes
def WhyB (p : Prop) (w : World) (e : Ending) (w' : World) : Prop:=Below w.heap.size w w' ∧ ((p ∧ e = .returned .nilIface) ∨ (¬ p ∧ ∃ T v,e = .returned (.iface T v)))

theorem iclassWhy_any (d : Ad) (now : Int) (xs : List Kd) (t : ByteArray) (w : World) (hr : RRow w d.a2 d.l2 d.c2 4 (xs.map kdF)) (hG : ens w) :
  Calls Tryz.prog 131 #[.agg #[.slice d.a1 d.l1 d.c1,.slice d.a2 d.l2 d.c2,.slice d.a3 d.l3 d.c3,.slice d.a4 d.l4 d.c4,.slice d.a5 d.l5 d.c5,.int .i64 now],.string t] w (WhyB (hit Kd.n xs t = true) w):=by
 obtain ⟨HR,HE,HB⟩:=qqb74;clear hr hG;go_enter Tryz.func131,Tryz.ntmps131;go_wp2_with fail;refine (thekd_any d now xs t w _ HR.out (below1 _ _)).mono ?_;rintro e w1 ⟨hb,hf⟩;obtain ⟨HA0,hbx⟩:=slots1 hb;have Bk:=hidK HA0;replace HB:=upB HB hbx;clear hb hbx HA0;obtain ⟨T,v,hv⟩:=HE.out.below HB.out;have hl:=(HE.out.below HB.out).lt;clear HE HR;rcases hf with ⟨hh,x,hx,hn,rfl,z0,z3⟩ | ⟨hh,rfl⟩
 ·have HH:=hidK hh;clear hh hx hn z0 z3;go_wp2;go_ret;exact ⟨(HB.out.alloc HB.out.size _),.inl ⟨HH.out,rfl⟩⟩
 ·have HH:=hidK hh;clear hh;go_wp2;go_ret;exact ⟨(HB.out.alloc HB.out.size _),.inr ⟨by rw [HH.out];decide,T,v,rfl⟩⟩

def Bond (c : Cl) (t s : ByteArray) : Prop:=∃ (i j : Nat) (x : Xd) (v : Vd),c.xs[i]? = some x ∧ x.n = t ∧ c.vs[j]? = some v ∧ v.n = s ∧ x.v = s ∧ v.m = t ∧ x.z ≤ v.c ∧ v.k = x.k ∧ v.x = x.x

theorem ibond_any (d : Ad) (c : Cl) (t s : ByteArray) (w : World) (hr : ClRow w d c.raw) (hx : RisBy Xd.n c.xs) (hv : RisBy Vd.n c.vs) :
  Calls Tryz.prog 132 #[.agg #[.slice d.a1 d.l1 d.c1,.slice d.a2 d.l2 d.c2,.slice d.a3 d.l3 d.c3,.slice d.a4 d.l4 d.c4,.slice d.a5 d.l5 d.c5,.int .i64 c.now],.string t,.string s] w (BoolB (Bond c t s) w):=by
 obtain ⟨HR,HB⟩:=qqb70;have HX:=hidK hx;have HV:=hidK hv;clear hr hx hv;go_enter Tryz.func132,Tryz.ntmps132;go_wp2_with fail;refine (thexd_any d c.now c.xs t w _ HR.out.x (below1 _ _)).mono ?_;rintro e w1 ⟨hb,hf⟩;obtain ⟨HA0,hbx⟩:=slots1 hb;have Bk:=hidK HA0;replace HB:=upB HB hbx;clear hb hbx HA0;rcases hf with ⟨hh,x,hx,hn,rfl,z0,z2,z4⟩ | ⟨hh,rfl⟩
 ·have HX1:=hidK hx;have HN1:=hidK hn;clear hx hn hh z0 z2 z4;obtain ⟨k0,k1,k2,k3,k4,k5⟩:=cs6 Bk.out;have ltk_1:=lt_of_some Bk.out;go_wp2_with fail;refine (thevd_any d c.now c.vs s w _ HR.out.v (HB.out.trans ((below1 _ _).mono HB.out.size))).mono ?_;rintro e w2 ⟨hb,hf⟩;clear k0 k1 k2 k3 k4 k5 ltk_1;obtain ⟨HA0,hbx⟩:=slots1 hb;replace Bk:=upK Bk hbx;have Bx:=hidK HA0;replace HB:=upB HB hbx;clear hb hbx HA0;rcases hf with ⟨hh,v,va,vl,vc,hx,hn,rfl,z0,z2,z3,z5,hvr⟩ | ⟨hh,rfl⟩
  ·have HX2:=hidK hx;have HN2:=hidK hn;clear hx hn hh z0 z2 z3 z5 hvr;obtain ⟨x0,x1,x2,x3,x4⟩:=cs5 Bx.out;have ltx_2:=lt_of_some Bx.out;cases q1 : (x.v.toList == s.toList)
   ·go_wp2;go_ret;refine BoolB.f (fun ⟨i,j,x',v',e1,e2,e3,e4,e5,_⟩ => ?_) (HB.out.alloc HB.out.size _);obtain ⟨_,rfl⟩:=HX.out.inj e1 HX1.out (e2.trans HN1.out.symm);rw [tl_yes e5] at q1;cases q1
   cases q2 : (v.m.toList == t.toList)
   ·go_wp2;go_ret;refine BoolB.f (fun ⟨i,j,x',v',e1,e2,e3,e4,e5,e6,_⟩ => ?_) (HB.out.alloc HB.out.size _);obtain ⟨_,rfl⟩:=HV.out.inj e3 HX2.out (e4.trans HN2.out.symm);rw [tl_yes e6] at q2;cases q2
   by_cases q3 : x.z ≤ v.c;rotate_left
   ·go_wp2;go_ret;refine BoolB.f (fun ⟨i,j,x',v',e1,e2,e3,e4,e5,e6,e7,_⟩ => ?_) (HB.out.alloc HB.out.size _);obtain ⟨_,rfl⟩:=HX.out.inj e1 HX1.out (e2.trans HN1.out.symm);obtain ⟨_,rfl⟩:=HV.out.inj e3 HX2.out (e4.trans HN2.out.symm);omega
   cases q4 : (v.k.toList == x.k.toList)
   ·go_wp2;go_ret;refine BoolB.f (fun ⟨i,j,x',v',e1,e2,e3,e4,e5,e6,e7,e8,_⟩ => ?_) (HB.out.alloc HB.out.size _);obtain ⟨_,rfl⟩:=HX.out.inj e1 HX1.out (e2.trans HN1.out.symm);obtain ⟨_,rfl⟩:=HV.out.inj e3 HX2.out (e4.trans HN2.out.symm);rw [tl_yes e8] at q4;cases q4
   cases q5 : (v.x == x.x)
   ·go_wp2;go_ret;refine BoolB.f (fun ⟨i,j,x',v',e1,e2,e3,e4,e5,e6,e7,e8,e9⟩ => ?_) (HB.out.alloc HB.out.size _);obtain ⟨_,rfl⟩:=HX.out.inj e1 HX1.out (e2.trans HN1.out.symm);obtain ⟨_,rfl⟩:=HV.out.inj e3 HX2.out (e4.trans HN2.out.symm);rw [e9] at q5;simp at q5
   ·go_wp2;go_ret;exact BoolB.t ⟨_,_,x,v,HX1.out,HN1.out,HX2.out,HN2.out,tl_inj q1,tl_inj q2,q3,tl_inj q4,by simpa using q5⟩ (HB.out.alloc HB.out.size _)
  ·have HH2:=hidK hh;clear hh;obtain ⟨x0,x1,x2,x3,x4⟩:=cs5 Bx.out;have ltx_2:=lt_of_some Bx.out;go_wp2;go_ret;refine BoolB.f (fun ⟨i,j,x',v',e1,e2,e3,e4,_⟩ => ?_) (HB.out.alloc HB.out.size _);have:=(hit_at HV.out e3 e4).2;rw [HH2.out] at this;cases this
 ·have HH1:=hidK hh;clear hh;obtain ⟨k0,k1,k2,k3,k4,k5⟩:=cs6 Bk.out;have ltk_1:=lt_of_some Bk.out;go_wp2_with fail;refine (thevd_any d c.now c.vs s w _ HR.out.v (HB.out.trans ((below1 _ _).mono HB.out.size))).mono ?_;rintro e w2 ⟨hb,hf⟩;clear k0 k1 k2 k3 k4 k5 ltk_1;obtain ⟨HA0,hbx⟩:=slots1 hb;replace Bk:=upK Bk hbx;have Bx:=hidK HA0;replace HB:=upB HB hbx;clear hb hbx HA0;rcases hf with ⟨hh,v,va,vl,vc,hx,hn,rfl,z0,z2,z3,z5,hvr⟩ | ⟨hh,rfl⟩
  ·have HX2:=hidK hx;have HN2:=hidK hn;clear hx hn hh z0 z2 z3 z5 hvr;exact qqa70
  ·have HH2:=hidK hh;clear hh;exact qqa70

def QV (c : Cl) (v : Vd) : Prop:=hit Kd.n c.ks v.k = true ∧ (v.m = ⟨#[]⟩ ∨ Bond c v.m v.n)
def QX (c : Cl) (x : Xd) : Prop:=hit Kd.n c.ks x.k = true ∧ (x.v = ⟨#[]⟩ ∨ Bond c x.n x.v)
def BoundI (c : Cl) : Prop:=(∀ (j : Nat) v,c.vs[j]? = some v → QV c v) ∧ (∀ (j : Nat) x,c.xs[j]? = some x → QX c x)

theorem ibound_any (d : Ad) (c : Cl) (w : World) (hr : ClRow w d c.raw) (hxr : RisBy Xd.n c.xs) (hvr : RisBy Vd.n c.vs) (hG : ens w) :
  Calls Tryz.prog 99 #[.agg #[.slice d.a1 d.l1 d.c1,.slice d.a2 d.l2 d.c2,.slice d.a3 d.l3 d.c3,.slice d.a4 d.l4 d.c4,.slice d.a5 d.l5 d.c5,.int .i64 c.now]] w (BoolB (BoundI c) w):=by
 obtain ⟨a1,l1,y1,a2,l2,y2,a3,l3,y3,a4,l4,y4,a5,l5,y5⟩:=d;dsimp only;obtain ⟨HR,hl1,hm1,hl2,hm2,hl3,hm3,hl4,hm4,hl5,hm5⟩:=qqb1;clear hr;have HE:=hidK hG;have HXR:=hidK hxr;have HVR:=hidK hvr;clear hG hxr hvr;go_enter Tryz.func99,Tryz.ntmps99;go_wp2;go_loopw [10] (fun i wr => ∃ k : Nat,k ≤ l3 ∧ i = .int .i64 k ∧ Hid (∀ (j : Nat) z,j < k → c.vs[j]? = some z → QV c z) ∧ Hid (Below w.heap.size w wr) ∧ Hid (wr.heap[w.heap.size]? = some (.cells #[.slice a1 l1 y1,.slice a2 l2 y2,.slice a3 l3 y3,.slice a4 l4 y4,.slice a5 l5 y5,.int .i64 c.now] 36 (0,0)))) (fun i _ => l3 - (intOf i).toNat);case atStart => exact ⟨0,by omega,rfl,fun _ _ h => absurd h qqd1,below1 _ _,Array.getElem?_push_size⟩
 case round =>
  obtain ⟨k,hk,rfl,HQ,HB,Bk⟩:=hrel;by_cases hlt : k < l3
  ·obtain ⟨b,o,v,rfl,hb,hx,hat⟩:=vd_at (HR.out.v.below HB.out) hlt;obtain ⟨va,vl,vc,hvr,z0,z2,z3,z5,c0,c1,c2,c3,c4,c5,c6,c7⟩:=vd_cells hat;obtain ⟨HXv,HTv,HZv0,HZv2,HZv3,HZv5⟩:=qqb59;clear hat hx z0 z2 z3 z5 hvr;obtain ⟨k0,k1,k2,k3,k4,k5⟩:=cs6 Bk.out;have ltk_0:=lt_of_some Bk.out;go_wp2_with fail;refine (iclassWhy_any ⟨a1,l1,y1,a2,l2,y2,(some ⟨b,o,none⟩),l3,y3,a4,l4,y4,a5,l5,y5⟩ c.now c.ks v.k _ (HR.out.k.below (HB.out.trans ((below1 _ _).mono HB.out.size))) (HE.out.below (HB.out.trans ((below1 _ _).mono HB.out.size)))).mono ?_;rintro e w1 ⟨hb2,hf⟩;clear k0 k1 k2 k3 k4 k5 ltk_0;obtain ⟨HA0,hbx⟩:=slots1 hb2;replace Bk:=upK Bk hbx;have Br:=hidK HA0;replace HB:=upB HB hbx;clear hb2 hbx HA0;clear hb c0 c1 c2 c3 c4 c5 c6 c7;rcases hf with ⟨hh,rfl⟩ | ⟨hh,T,q,rfl⟩;rotate_left
   ·have HH:=hidK hh;clear hh;obtain ⟨k0,k1,k2,k3,k4,k5⟩:=cs6 Bk.out;have ltk_1:=lt_of_some Bk.out;obtain ⟨r0,r1,r2,r3,r4,r5,r6,r7⟩:=cs8 Br.out;have ltr_1:=lt_of_some Br.out;go_wp2;go_ret;exact BoolB.f (fun h => HH.out (h.1 k v HXv.out).1) HB.out
   have HH:=hidK hh;clear hh;by_cases he : v.m = ⟨#[]⟩
   ·have hq:=isE_y he;have HEm:=hidK he;clear he;obtain ⟨k0,k1,k2,k3,k4,k5⟩:=cs6 Bk.out;have ltk_1:=lt_of_some Bk.out;obtain ⟨r0,r1,r2,r3,r4,r5,r6,r7⟩:=cs8 Br.out;have ltr_1:=lt_of_some Br.out;go_wp2_with fail;refine ⟨⟨k + 1,by omega,by go_num,fun j z hj hz => ?_,HB.out,Bk.out⟩,by simp [intOf];omega⟩;by_cases e : j = k
    ·subst e;rw [HXv.out] at hz;exact qqa102
    ·exact HQ.out j z qqd1 hz
   ·have hq:=isE_no he;have HEm:=hidK he;clear he;obtain ⟨k0,k1,k2,k3,k4,k5⟩:=cs6 Bk.out;have ltk_1:=lt_of_some Bk.out;obtain ⟨r0,r1,r2,r3,r4,r5,r6,r7⟩:=cs8 Br.out;have ltr_1:=lt_of_some Br.out;go_wp2_with fail;refine (ibond_any ⟨a1,l1,y1,a2,l2,y2,(some ⟨b,o,none⟩),l3,y3,a4,l4,y4,a5,l5,y5⟩ c v.m v.n _ (HR.out.below HB.out) HXR.out HVR.out).mono ?_;rintro e w2 ⟨r,rfl,hi,hb3⟩;clear k0 k1 k2 k3 k4 k5 ltk_1 r0 r1 r2 r3 r4 r5 r6 r7 ltr_1;replace Bk:=upK Bk hb3;replace Br:=upK Br hb3;replace HB:=upB HB hb3;clear hb3;have HI:=hidK hi;clear hi;cases r
    ·go_wp2;go_ret;refine BoolB.f (fun h => ?_) HB.out;rcases (h.1 k v HXv.out).2 with h2 | h2
     ·exact HEm.out h2
     ·have:=HI.out.2 h2;cases this
    ·go_wp2_with fail;refine ⟨⟨k + 1,by omega,by go_num,fun j z hj hz => ?_,HB.out,Bk.out⟩,by simp [intOf];omega⟩;by_cases e : j = k
     ·subst e;rw [HXv.out] at hz;exact qqa85
     ·exact HQ.out j z qqd1 hz
  ·obtain rfl : l3 = k:=qqd1
   have HQ1 : Hid (∀ (j : Nat) z,c.vs[j]? = some z → QV c z):=fun j z hz => HQ.out j z qqd4 hz;clear HQ;have k3 : wr.cell? ⟨w.heap.size,3,none⟩ = some (.slice a4 l4 y4):=cellK Bk.out 3;have kl : w.heap.size < wr.heap.size:=lt_of_some Bk.out;go_wp2;go_loopw [37] (fun i wr => ∃ k : Nat,k ≤ l4 ∧ i = .int .i64 k ∧ Hid (∀ (j : Nat) z,j < k → c.xs[j]? = some z → QX c z) ∧ Hid (Below w.heap.size w wr) ∧ Hid (wr.heap[w.heap.size]? = some (.cells #[.slice a1 l1 y1,.slice a2 l2 y2,.slice a3 l3 y3,.slice a4 l4 y4,.slice a5 l5 y5,.int .i64 c.now] 36 (0,0)))) (fun i _ => l4 - (intOf i).toNat);case atStart => exact ⟨0,by omega,rfl,fun _ _ h => absurd h qqd1,HB.out,Bk.out⟩
   case round =>
    obtain ⟨k,hk,rfl,HQ,HB,Bk⟩:=hrel;by_cases hlt : k < l4
    ·obtain ⟨b,o,x,rfl,hb,hx,hat⟩:=xd_at (HR.out.x.below HB.out) hlt;obtain ⟨z0,z2,z4,c0,c1,c2,c3,c4⟩:=xd_cells hat;have HXx:=hidK hx;have HZx0:=hidK z0;have HZx2:=hidK z2;have HZx4:=hidK z4;clear hat hx z0 z2 z4;obtain ⟨k0,k1,k2,k3,k4,k5⟩:=cs6 Bk.out;have ltk_0:=lt_of_some Bk.out;go_wp2_with fail;refine (iclassWhy_any ⟨a1,l1,y1,a2,l2,y2,a3,l3,y3,(some ⟨b,o,none⟩),l4,y4,a5,l5,y5⟩ c.now c.ks x.k _ (HR.out.k.below (HB.out.trans ((below1 _ _).mono HB.out.size))) (HE.out.below (HB.out.trans ((below1 _ _).mono HB.out.size)))).mono ?_;rintro e w1 ⟨hb2,hf⟩;clear k0 k1 k2 k3 k4 k5 ltk_0;obtain ⟨HA0,hbx⟩:=slots1 hb2;replace Bk:=upK Bk hbx;have Br:=hidK HA0;replace HB:=upB HB hbx;clear hb2 hbx HA0;clear hb c0 c1 c2 c3 c4;rcases hf with ⟨hh,rfl⟩ | ⟨hh,T,q,rfl⟩;rotate_left
     ·have HH:=hidK hh;clear hh;obtain ⟨k0,k1,k2,k3,k4,k5⟩:=cs6 Bk.out;have ltk_1:=lt_of_some Bk.out;obtain ⟨r0,r1,r2,r3,r4⟩:=cs5 Br.out;have ltr_1:=lt_of_some Br.out;go_wp2;go_ret;exact BoolB.f (fun h => HH.out (h.2 k x HXx.out).1) HB.out
     have HH:=hidK hh;clear hh;by_cases he : x.v = ⟨#[]⟩
     ·have hq:=isE_y he;have HEm:=hidK he;clear he;obtain ⟨k0,k1,k2,k3,k4,k5⟩:=cs6 Bk.out;have ltk_1:=lt_of_some Bk.out;obtain ⟨r0,r1,r2,r3,r4⟩:=cs5 Br.out;have ltr_1:=lt_of_some Br.out;go_wp2_with fail;refine ⟨⟨k + 1,by omega,by go_num,fun j z hj hz => ?_,HB.out,Bk.out⟩,by simp [intOf];omega⟩;by_cases e : j = k
      ·subst e;rw [HXx.out] at hz;exact qqa102
      ·exact HQ.out j z qqd1 hz
     ·have hq:=isE_no he;have HEm:=hidK he;clear he;obtain ⟨k0,k1,k2,k3,k4,k5⟩:=cs6 Bk.out;have ltk_1:=lt_of_some Bk.out;obtain ⟨r0,r1,r2,r3,r4⟩:=cs5 Br.out;have ltr_1:=lt_of_some Br.out;go_wp2_with fail;refine (ibond_any ⟨a1,l1,y1,a2,l2,y2,a3,l3,y3,(some ⟨b,o,none⟩),l4,y4,a5,l5,y5⟩ c x.n x.v _ (HR.out.below HB.out) HXR.out HVR.out).mono ?_;rintro e w2 ⟨r,rfl,hi,hb3⟩;clear k0 k1 k2 k3 k4 k5 ltk_1 r0 r1 r2 r3 r4 ltr_1;replace Bk:=upK Bk hb3;replace Br:=upK Br hb3;replace HB:=upB HB hb3;clear hb3;have HI:=hidK hi;clear hi;cases r
      ·go_wp2;go_ret;refine BoolB.f (fun h => ?_) HB.out;rcases (h.2 k x HXx.out).2 with h2 | h2
       ·exact HEm.out h2
       ·have:=HI.out.2 h2;cases this
      ·go_wp2_with fail;refine ⟨⟨k + 1,by omega,by go_num,fun j z hj hz => ?_,HB.out,Bk.out⟩,by simp [intOf];omega⟩;by_cases e : j = k
       ·subst e;rw [HXx.out] at hz;exact qqa85
       ·exact HQ.out j z qqd1 hz
    ·obtain rfl : l4 = k:=qqd1
     have HQ2 : Hid (∀ (j : Nat) z,c.xs[j]? = some z → QX c z):=fun j z hz => HQ.out j z qqd4 hz;exact qqa84

def InL (zs : List ByteArray) (t : ByteArray) : Prop:=∃ j : Nat,zs[j]? = some t

theorem iindex_any (a : Option Addr) (len cap : Nat) (zs : List ByteArray) (t : ByteArray) (w : World) (hr : TxRow w a len cap zs) :
  Calls Tryz.prog 158 #[.slice a len cap,.string t] w fun e w' => (∃ r : Int,e = .returned (.int .i64 r) ∧ ((0 ≤ r ∧ InL zs t) ∨ (r = -1 ∧ ¬ InL zs t))) ∧ w' = w:=by
 have HR:=hidK hr;obtain ⟨hlc,hzl⟩:=qqb63;clear hr;go_enter Tryz.func158,Tryz.ntmps158;go_wp2;go_loop [8] (fun i => ∃ k : Nat,k ≤ len ∧ i = .int .i64 k ∧ Hid (∀ (j : Nat) x,j < k → zs[j]? = some x → ¬ x = t)) (fun i => len - (intOf i).toNat);case atStart => exact ⟨0,by omega,rfl,fun _ _ h => absurd h qqd1⟩
 case round =>
  obtain ⟨k,hk,rfl,HE⟩:=hrel;by_cases hlt : k < len
  ·obtain ⟨b,o,x,rfl,hb,hx,hc,hsz⟩:=HR.out.at hlt;have HX:=hidK hx;clear hx;by_cases hn : t = x
   ·have hq:=tl_yes hn;have HN:=hidK hn;clear hn;go_wp2;go_ret;exact ⟨⟨k,rfl,.inl ⟨by omega,k,by rw [HX.out,HN.out]⟩⟩,rfl⟩
   ·have hq:=tl_no hn;have HN:=hidK hn;clear hn;go_wp2;refine ⟨⟨k + 1,by omega,by go_num,fun j z hj hz => ?_⟩,by simp [intOf];omega⟩;by_cases e : j = k
    ·subst e;rw [HX.out] at hz;obtain rfl:=Option.some.inj hz;exact fun q => HN.out q.symm
    ·exact HE.out j z qqd1 hz
  ·obtain rfl : len = k:=qqd1
   go_wp2;go_ret;exact ⟨⟨-1,rfl,.inr ⟨rfl,fun ⟨j,hj⟩ => HE.out j t qqd19 hj rfl⟩⟩,rfl⟩

theorem icontains_any (a : Option Addr) (len cap : Nat) (zs : List ByteArray) (t : ByteArray) (w : World) (hr : TxRow w a len cap zs) :
  Calls Tryz.prog 153 #[.slice a len cap,.string t] w (BoolB (InL zs t) w):=by
 have HR:=hidK hr;clear hr;go_enter Tryz.func153,Tryz.ntmps153;go_wp2_with fail;refine (iindex_any a len cap zs t _ HR.out).mono ?_;rintro e w1 ⟨⟨r,rfl,hr⟩,rfl⟩;rcases hr with ⟨h0,hi⟩ | ⟨rfl,hi⟩
 ·go_wp2;go_ret;exact BoolB.t hi (Below.refl _ _)
 ·go_wp2;go_ret;exact BoolB.f hi (Below.refl _ _)

theorem iclaimsWhy_any (d : Ad) (now : Int) (xs : List Xd) (a : Option Addr) (len cap : Nat) (zs : List ByteArray) (w : World) (hr : RRow w d.a4 d.l4 d.c4 5 (xs.map xdF)) (hz : TxRow w a len cap zs) (hG : ens w) :
  Calls Tryz.prog 133 #[.agg #[.slice d.a1 d.l1 d.c1,.slice d.a2 d.l2 d.c2,.slice d.a3 d.l3 d.c3,.slice d.a4 d.l4 d.c4,.slice d.a5 d.l5 d.c5,.int .i64 now],.slice a len cap] w (WhyB (∀ (j : Nat) t,zs[j]? = some t → hit Xd.n xs t = true) w):=by
 have HR:=hidK hr;have HE:=hidK hG;have HZ:=hidK hz;have hlc : len ≤ 9223372036854775807:=Nat.le_trans hz.2.1 hz.2.2.1;have hzl : zs.length = len:=hz.1;clear hr hG hz;go_enter Tryz.func133,Tryz.ntmps133;go_wp2;go_loopw [11] (fun i wr => ∃ k : Nat,k ≤ len ∧ i = .int .i64 k ∧ Hid (∀ (j : Nat) t,j < k → zs[j]? = some t → hit Xd.n xs t = true) ∧ Hid (Below w.heap.size w wr) ∧ Hid (wr.heap[w.heap.size]? = some (.cells #[.slice d.a1 d.l1 d.c1,.slice d.a2 d.l2 d.c2,.slice d.a3 d.l3 d.c3,.slice d.a4 d.l4 d.c4,.slice d.a5 d.l5 d.c5,.int .i64 now] 36 (0,0)))) (fun i _ => len - (intOf i).toNat);case atStart => exact ⟨0,by omega,rfl,fun _ _ h => absurd h qqd1,below1 _ _,Array.getElem?_push_size⟩
 case round =>
  obtain ⟨k,hk,rfl,HQ,HB,Bk⟩:=hrel;by_cases hlt : k < len
  ·obtain ⟨b,o,t,rfl,hb,hx,hc,hsz⟩:=(HZ.out.below HB.out).at hlt;have HX:=hidK hx;clear hx;obtain ⟨k0,k1,k2,k3,k4,k5⟩:=cs6 Bk.out;have ltk_0:=lt_of_some Bk.out;go_wp2_with fail;refine (thexd_any d now xs t w _ HR.out HB.out).mono ?_;rintro e w1 ⟨hb2,hf⟩;clear k0 k1 k2 k3 k4 k5 ltk_0;replace Bk:=upK Bk hb2;replace HB:=upB HB hb2;clear hb2;clear hb hc hsz;obtain ⟨T,q,hv⟩:=HE.out.below HB.out;have hl:=(HE.out.below HB.out).lt;rcases hf with ⟨hh,x,hx,hn,rfl,z0,z2,z4⟩ | ⟨hh,rfl⟩
   ·have HH:=hidK hh;clear hh hx hn z0 z2 z4 hv hl;go_wp2;refine ⟨⟨k + 1,by omega,by go_num,fun j z hj hz => ?_,HB.out.alloc HB.out.size _,(Below.heap_alloc _ _ _ (lt_of_some Bk.out)).trans Bk.out⟩,by simp [intOf];omega⟩;by_cases e : j = k
    ·subst e;rw [HX.out] at hz;obtain rfl:=Option.some.inj hz;exact HH.out
    ·exact HQ.out j z qqd1 hz
   ·have HH:=hidK hh;clear hh;go_wp2;go_ret;exact ⟨HB.out.alloc HB.out.size _,.inr ⟨fun h => (by have:=h k t HX.out;rw [HH.out] at this;cases this),T,q,rfl⟩⟩
  ·obtain rfl : len = k:=qqd1
   go_wp2;go_ret;exact ⟨HB.out,.inl ⟨fun j t ht => HQ.out j t qqd15 ht,rfl⟩⟩

def IsBd (c : Cl) (t : ByteArray) (v : Vd) : Prop:=∃ (i j : Nat) (x : Xd),c.xs[i]? = some x ∧ x.n = t ∧ c.vs[j]? = some v ∧ v.n = x.v
def BdAns (c : Cl) (t : ByteArray) (r w : World) (e : Ending) (w' : World) : Prop :=
 Below w.heap.size w w' ∧ ((∃ (v : Vd) (va : Option Addr) (vl vc : Nat),IsBd c t v ∧ e = .returned (.tuple #[.agg #[.string v.n,.int .i64 v.c,.string v.z,.string v.k,.bool v.x,.string v.m,.bool v.y,.slice va vl vc],.bool true]) ∧ v.n.size ≤ 9223372036854775807 ∧ v.z.size ≤ 9223372036854775807 ∧ TxRow r va vl vc v.zs) ∨ ((∀ v,¬ IsBd c t v) ∧ e = .returned (.tuple #[.agg #[.string ⟨#[]⟩,.int .i64 0,.string ⟨#[]⟩,.string ⟨#[]⟩,.bool false,.string ⟨#[]⟩,.bool false,.slice none 0 0],.bool false])))

theorem ibd_any (d : Ad) (c : Cl) (t : ByteArray) (r : World) (w : World) (hr : ClRow r d c.raw) (hrw : Below r.heap.size r w) (hx : RisBy Xd.n c.xs) (hv : RisBy Vd.n c.vs) (hne : ∀ (j : Nat) v,c.vs[j]? = some v → ¬ v.n = ⟨#[]⟩) :
  Calls Tryz.prog 152 #[.agg #[.slice d.a1 d.l1 d.c1,.slice d.a2 d.l2 d.c2,.slice d.a3 d.l3 d.c3,.slice d.a4 d.l4 d.c4,.slice d.a5 d.l5 d.c5,.int .i64 c.now],.string t] w (BdAns c t r w):=by
 have HR:=hidK hr;have HRW:=hidK hrw;obtain ⟨HX,HV,HNE⟩:=qqb78;have HB:=hidK (Below.refl w.heap.size w);clear hr hx hv hrw hne;go_enter Tryz.func152,Tryz.ntmps152;go_wp2_with fail;refine (thexd_any d c.now c.xs t r _ HR.out.x (HRW.out.trans ((below2 _ _ _).mono HRW.out.size))).mono ?_;rintro e w1 ⟨hb,hf⟩;obtain ⟨HA0,HA1,hbx⟩:=slots2 hb;have Bk:=hidK HA0;have Bs:=hidK HA1;replace HB:=upB HB hbx;clear hb hbx HA0 HA1;rcases hf with ⟨hh,x,hx,hn,rfl,z0,z2,z4⟩ | ⟨hh,rfl⟩
 ·have HX1:=hidK hx;have HN1:=hidK hn;clear hx hn hh z0 z2 z4;obtain ⟨k0,k1,k2,k3,k4,k5⟩:=cs6 Bk.out;have ltk_1:=lt_of_some Bk.out;go_wp2_with fail;refine (thevd_any d c.now c.vs x.v r _ HR.out.v (HRW.out.trans ((HB.out.trans ((below1 _ _).mono HB.out.size)).mono HRW.out.size))).mono ?_;rintro e w2 ⟨hb,hf⟩;clear k0 k1 k2 k3 k4 k5 ltk_1;obtain ⟨HA0,hbx⟩:=slots1 hb;replace Bk:=upK Bk hbx;replace Bs:=upK Bs hbx;have Bx:=hidK HA0;replace HB:=upB HB hbx;clear hb hbx HA0;rcases hf with ⟨hh,v,va,vl,vc,hx,hn,rfl,z0,z2,z3,z5,hvr⟩ | ⟨hh,rfl⟩
  ·have HX2:=hidK hx;have HN2:=hidK hn;have HT:=hidK hvr;have HZ0:=hidK z0;have HZ2:=hidK z2;clear hx hn hh z0 z2 z3 z5 hvr;obtain ⟨s0,s1,s2,s3,s4,s5,s6,s7⟩:=cs8 Bs.out;obtain ⟨lts_2,fr0,fr1,fr2,fr3,fr4,fr5,fr6,fr7⟩:=qqb48;go_wp2;refine bodyPost_ret (v:=.tuple #[.agg #[.string v.n,.int .i64 v.c,.string v.z,.string v.k,.bool v.x,.string v.m,.bool v.y,.slice va vl vc],.bool true]) qqd21 rfl ⟨set_below (Nat.le_succ _) (set_below (Nat.le_succ _) (set_below (Nat.le_succ _) (set_below (Nat.le_succ _) (set_below (Nat.le_succ _) (set_below (Nat.le_succ _) (set_below (Nat.le_succ _) (set_below (Nat.le_succ _) (HB.out)))))))),.inl ⟨v,va,vl,vc,⟨_,_,x,HX1.out,HN1.out,HX2.out,HN2.out⟩,rfl,HZ0.out,HZ2.out,HT.out⟩⟩
  ·have HH2:=hidK hh;clear hh;obtain ⟨s0,s1,s2,s3,s4,s5,s6,s7⟩:=cs8 Bs.out;obtain ⟨lts_2,fr0,fr1,fr2,fr3,fr4,fr5,fr6,fr7⟩:=qqb48;go_wp2;refine bodyPost_ret (v:=.tuple #[.agg #[.string ⟨#[]⟩,.int .i64 0,.string ⟨#[]⟩,.string ⟨#[]⟩,.bool false,.string ⟨#[]⟩,.bool false,.slice none 0 0],.bool false]) qqd21 rfl ⟨set_below (Nat.le_succ _) (set_below (Nat.le_succ _) (set_below (Nat.le_succ _) (set_below (Nat.le_succ _) (set_below (Nat.le_succ _) (set_below (Nat.le_succ _) (set_below (Nat.le_succ _) (set_below (Nat.le_succ _) (HB.out)))))))),.inr ⟨fun v ⟨i,j,x2,e1,e2,e3,e4⟩ => (by obtain ⟨_,rfl⟩:=HX.out.inj e1 HX1.out (e2.trans HN1.out.symm);have:=(hit_at HV.out e3 e4).2;rw [HH2.out] at this;cases this),rfl⟩⟩
 ·have HH1:=hidK hh;clear hh;obtain ⟨k0,k1,k2,k3,k4,k5⟩:=cs6 Bk.out;have ltk_1:=lt_of_some Bk.out;go_wp2_with fail;refine (thevd_any d c.now c.vs ⟨#[]⟩ r _ HR.out.v (HRW.out.trans ((HB.out.trans ((below1 _ _).mono HB.out.size)).mono HRW.out.size))).mono ?_;rintro e w2 ⟨hb,hf⟩;clear k0 k1 k2 k3 k4 k5 ltk_1;obtain ⟨HA0,hbx⟩:=slots1 hb;replace Bk:=upK Bk hbx;replace Bs:=upK Bs hbx;have Bx:=hidK HA0;replace HB:=upB HB hbx;clear hb hbx HA0;rcases hf with ⟨hh,v,va,vl,vc,hx,hn,rfl,z0,z2,z3,z5,hvr⟩ | ⟨hh,rfl⟩
  ·have HX2:=hidK hx;have HN2:=hidK hn;have HT:=hidK hvr;have HZ0:=hidK z0;have HZ2:=hidK z2;clear hx hn hh z0 z2 z3 z5 hvr;exact absurd HN2.out (HNE.out _ _ HX2.out)
  ·have HH2:=hidK hh;clear hh;obtain ⟨s0,s1,s2,s3,s4,s5,s6,s7⟩:=cs8 Bs.out;obtain ⟨lts_2,fr0,fr1,fr2,fr3,fr4,fr5,fr6,fr7⟩:=qqb48;go_wp2;refine bodyPost_ret (v:=.tuple #[.agg #[.string ⟨#[]⟩,.int .i64 0,.string ⟨#[]⟩,.string ⟨#[]⟩,.bool false,.string ⟨#[]⟩,.bool false,.slice none 0 0],.bool false]) qqd21 rfl ⟨set_below (Nat.le_succ _) (set_below (Nat.le_succ _) (set_below (Nat.le_succ _) (set_below (Nat.le_succ _) (set_below (Nat.le_succ _) (set_below (Nat.le_succ _) (set_below (Nat.le_succ _) (set_below (Nat.le_succ _) (HB.out)))))))),.inr ⟨fun v ⟨i,j,x2,e1,e2,e3,e4⟩ => (by have:=(hit_at HX.out e1 e2).2;rw [HH1.out] at this;cases this),rfl⟩⟩

def cpuOf (t : ByteArray) : List Pd → Int
 | [] => 0
 | p :: ps => (if p.d = t then p.c else 0) + cpuOf t ps
theorem cpuOf_append (t : ByteArray) : ∀ ps qs : List Pd,cpuOf t (ps ++ qs) = cpuOf t ps + cpuOf t qs
 | [],qs => by simp [cpuOf]
 | p :: ps,qs => by simp [cpuOf,cpuOf_append t ps];omega
theorem cpuOf_step {t : ByteArray} {ps : List Pd} {k : Nat} {p : Pd} (h : ps[k]? = some p) : cpuOf t (ps.take (k + 1)) = cpuOf t (ps.take k) + (if p.d = t then p.c else 0):=by
 rw [List.take_add_one,h,cpuOf_append];simp [cpuOf]

theorem iusedCpu_any (d : Ad) (now : Int) (ps : List Pd) (t : ByteArray) (w : World) (hr : RRow w d.a5 d.l5 d.c5 6 (ps.map pdF)) (hl : ps.length ≤ 8) (hp : ∀ (j : Nat) p,ps[j]? = some p → 0 ≤ p.c ∧ p.c ≤ 1000000) :
  Calls Tryz.prog 135 #[.agg #[.slice d.a1 d.l1 d.c1,.slice d.a2 d.l2 d.c2,.slice d.a3 d.l3 d.c3,.slice d.a4 d.l4 d.c4,.slice d.a5 d.l5 d.c5,.int .i64 now],.string t] w fun e w' => e = .returned (.int .i64 (cpuOf t ps)) ∧ Below w.heap.size w w':=by
 obtain ⟨a1,l1,y1,a2,l2,y2,a3,l3,y3,a4,l4,y4,a5,l5,y5⟩:=d;dsimp only at hr ⊢;have HR:=hidK hr;have hxl : ps.length = l5:=qqd8
 have hlc : l5 ≤ 9223372036854775807:=Nat.le_trans hr.2.1 hr.2.2.1;have HP:=hidK hp;clear hr hp;go_enter Tryz.func135,Tryz.ntmps135;go_wp2;go_loopw [5,11] (fun q i wr => ∃ (k : Nat) (s : Int),k ≤ l5 ∧ q = .int .i64 s ∧ i = .int .i64 k ∧ Hid (s = cpuOf t (ps.take k)) ∧ 0 ≤ s ∧ s ≤ k * 1000000 ∧ Hid (Below w.heap.size w wr)) (fun _ i _ => l5 - (intOf i).toNat);case atStart => exact ⟨0,0,by omega,rfl,rfl,rfl,by omega,by omega,below1 _ _⟩
 case round =>
  obtain ⟨k,s,hk,rfl,rfl,HS,hs0,hs1,HB⟩:=hrel;by_cases hlt : k < l5
  ·obtain ⟨b,o,p,rfl,hb,hx,hat⟩:=pd_at (HR.out.below HB.out) hlt;obtain ⟨va,vl,vc,hvr,z0,z2,z4,c0,c1,c2,c3,c4,c5⟩:=pd_cells hat;have HX:=hidK hx;have hpc:=HP.out k p hx;clear hat hx z0 z2 z4 hvr;by_cases hn : p.d = t
   ·have hq:=tl_yes hn;have HN:=hidK hn;clear hn;go_wp2;refine ⟨⟨k + 1,s + p.c,by omega,by go_num,by go_num,?_,by omega,by omega,HB.out.alloc HB.out.size _⟩,by simp [intOf];omega⟩;show _ = _;rw [cpuOf_step HX.out,if_pos HN.out,← HS.out]
   ·have hq:=tl_no hn;have HN:=hidK hn;clear hn;go_wp2;refine ⟨⟨k + 1,s,by omega,rfl,by go_num,?_,by omega,by omega,HB.out.alloc HB.out.size _⟩,by simp [intOf];omega⟩;show _ = _;rw [cpuOf_step HX.out,if_neg HN.out,← HS.out,Int.add_zero]
  ·obtain rfl : l5 = k:=qqd1
   exact qqa62

def OneNode (c : Cl) (t : ByteArray) : Prop:=∀ (i j : Nat) p q,c.ps[i]? = some p → c.ps[j]? = some q → ¬ p.d = ⟨#[]⟩ → ¬ q.d = ⟨#[]⟩ → InL p.zs t → InL q.zs t → p.d = q.d

theorem ione_any (d : Ad) (c : Cl) (t : ByteArray) (w : World) (hr : ClRow w d c.raw) :
  Calls Tryz.prog 136 #[.agg #[.slice d.a1 d.l1 d.c1,.slice d.a2 d.l2 d.c2,.slice d.a3 d.l3 d.c3,.slice d.a4 d.l4 d.c4,.slice d.a5 d.l5 d.c5,.int .i64 c.now],.string t] w (BoolB (OneNode c t) w):=by
 obtain ⟨a1,l1,y1,a2,l2,y2,a3,l3,y3,a4,l4,y4,a5,l5,y5⟩:=d;dsimp only;obtain ⟨HR,hl1,hm1,hl2,hm2,hl3,hm3,hl4,hm4,hl5,hm5⟩:=qqb1;clear hr;go_enter Tryz.func136,Tryz.ntmps136;go_wp2;go_loopw [5,11] (fun q i wr => ∃ (k : Nat) (s : ByteArray),k ≤ l5 ∧ q = .string s ∧ i = .int .i64 k ∧ Hid (∀ (j : Nat) p,j < k → c.ps[j]? = some p → ¬ p.d = ⟨#[]⟩ → InL p.zs t → p.d = s) ∧ Hid (s = ⟨#[]⟩ ∨ ∃ (j : Nat) (p : Pd),j < k ∧ c.ps[j]? = some p ∧ ¬ p.d = ⟨#[]⟩ ∧ InL p.zs t ∧ p.d = s) ∧ Hid (Below w.heap.size w wr)) (fun _ i _ => l5 - (intOf i).toNat);case atStart => exact ⟨0,_,by omega,rfl,rfl,fun _ _ h => absurd h qqd1,.inl rfl,below1 _ _⟩
 case round =>
  obtain ⟨k,s,hk,rfl,rfl,HQ,HS,HB⟩:=hrel;by_cases hlt : k < l5
  ·obtain ⟨b,o,p,rfl,hb,hx,hat⟩:=pd_at (HR.out.p.below HB.out) hlt;obtain ⟨va,vl,vc,hvr,z0,z2,z4,c0,c1,c2,c3,c4,c5⟩:=pd_cells hat;have HX:=hidK hx;have HT:=hidK hvr;clear hat hx z0 z2 z4 hvr;have skip : (p.d = ⟨#[]⟩ ∨ ¬ InL p.zs t) → ∀ (j : Nat) q,j < k + 1 → c.ps[j]? = some q → ¬ q.d = ⟨#[]⟩ → InL q.zs t → q.d = s:=by
    intro h j q hj hq h1 h2;by_cases e : j = k
    ·subst e;rw [HX.out] at hq;obtain rfl:=Option.some.inj hq;rcases h with h | h
     ·exact absurd h h1
     ·exact absurd h2 h
    ·exact HQ.out j q qqd1 hq h1 h2
   have SK:=hidK skip;clear skip;have keepS : s = ⟨#[]⟩ ∨ ∃ (j : Nat) (p : Pd),j < k + 1 ∧ c.ps[j]? = some p ∧ ¬ p.d = ⟨#[]⟩ ∧ InL p.zs t ∧ p.d = s:=HS.out.imp id (fun ⟨j,p,h1,h2⟩ => ⟨j,p,by omega,h2⟩);have KS:=hidK keepS;clear keepS;by_cases he : p.d = ⟨#[]⟩
   ·have hq:=isE_y he;have HEm:=hidK he;clear he;go_wp2;exact ⟨⟨k + 1,s,by omega,rfl,by go_num,SK.out (.inl HEm.out),KS.out,HB.out.alloc HB.out.size _⟩,by simp [intOf];omega⟩
   ·have hq:=isE_no he;have HEm:=hidK he;clear he;go_wp2_with fail;refine (icontains_any va vl vc p.zs t _ (HT.out.below (below1 _ _))).mono ?_;rintro e w1 ⟨r,rfl,hi,hb2⟩;obtain ⟨HA0,hbx⟩:=slots1 hb2;have Br:=hidK HA0;replace HB:=upB HB hbx;clear hb2 hbx HA0;have HI:=hidK hi;clear hi c0 c1 c2 c3 c4 c5 hb;cases r
    ·obtain ⟨r0,r1,r2,r3,r4,r5⟩:=cs6 Br.out;have ltr_1:=lt_of_some Br.out;go_wp2;exact ⟨⟨k + 1,s,by omega,rfl,by go_num,SK.out (.inr (fun h => by have:=HI.out.2 h;cases this)),KS.out,HB.out⟩,by simp [intOf];omega⟩
    ·have HIn:=hidK (HI.out.1 qqd5);clear HI;by_cases hs : s = ⟨#[]⟩
     ·have hq2:=isE_y hs;have HSe:=hidK hs;clear hs;obtain ⟨r0,r1,r2,r3,r4,r5⟩:=cs6 Br.out;have ltr_1:=lt_of_some Br.out;go_wp2_with fail;refine ⟨⟨k + 1,p.d,by omega,rfl,by go_num,fun j q hj hq h1 h2 => ?_,.inr ⟨k,p,by omega,HX.out,HEm.out,HIn.out,rfl⟩,HB.out⟩,by simp [intOf];omega⟩;by_cases e : j = k
      ·subst e;rw [HX.out] at hq;obtain rfl:=Option.some.inj hq;rfl
      ·exact absurd (HSe.out ▸ HQ.out j q qqd1 hq h1 h2) h1
     ·have hq2:=isE_no hs;have HSe:=hidK hs;clear hs;by_cases hd : p.d = s
      ·have hq3:=tl_yes hd;have HD:=hidK hd;clear hd;obtain ⟨r0,r1,r2,r3,r4,r5⟩:=cs6 Br.out;have ltr_1:=lt_of_some Br.out;go_wp2_with fail;refine ⟨⟨k + 1,p.d,by omega,rfl,by go_num,fun j q hj hq h1 h2 => ?_,.inr ⟨k,p,by omega,HX.out,HEm.out,HIn.out,rfl⟩,HB.out⟩,by simp [intOf];omega⟩;by_cases e : j = k
       ·subst e;rw [HX.out] at hq;obtain rfl:=Option.some.inj hq;rfl
       ·exact (HQ.out j q qqd1 hq h1 h2).trans HD.out.symm
      ·have hq3:=tl_no hd;have HD:=hidK hd;clear hd;obtain ⟨r0,r1,r2,r3,r4,r5⟩:=cs6 Br.out;have ltr_1:=lt_of_some Br.out;go_wp2;go_ret;refine BoolB.f (fun h => ?_) HB.out;rcases HS.out with h1 | ⟨j,q,h1,h2,h3,h4,h5⟩
       ·exact HSe.out h1
       ·exact HD.out ((h k j p q HX.out h2 HEm.out h3 HIn.out h4).trans h5)
  ·obtain rfl : l5 = k:=qqd1
   go_wp2;go_ret;refine BoolB.t (fun i j p q hi hj h1 h2 h3 h4 => ?_) HB.out;rw [HQ.out i p (by have:=(List.getElem?_eq_some_iff.1 hi).1;omega) hi h1 h3,HQ.out j q qqd19 hj h2 h4]

theorem IsBd.inj {c : Cl} {t : ByteArray} {v v' : Vd} (hx : RisBy Xd.n c.xs) (hv : RisBy Vd.n c.vs) (h : IsBd c t v) (h' : IsBd c t v') : v = v':=by
 obtain ⟨i,j,x,e1,e2,e3,e4⟩:=h;obtain ⟨i',j',x',f1,f2,f3,f4⟩:=h';obtain ⟨_,rfl⟩:=hx.inj e1 f1 (e2.trans f2.symm);exact (hv.inj e3 f3 (e4.trans f4.symm)).2
def SuitI (c : Cl) (p : Pd) : Prop:=∃ (i : Nat) (n : Nd),c.ns[i]? = some n ∧ n.n = p.d ∧ (p.z = ⟨#[]⟩ ∨ p.z = n.z) ∧ ∀ (j : Nat) t,p.zs[j]? = some t → ∃ v,IsBd c t v ∧ v.z = n.z
def RunI (c : Cl) (p : Pd) : Prop:=∃ (i : Nat) (n : Nd),c.ns[i]? = some n ∧ n.n = p.d ∧ n.d = false ∧ ∀ (j : Nat) t,p.zs[j]? = some t → ∃ v,IsBd c t v ∧ InL n.zs v.n
def MntI (c : Cl) (n : Nd) : Prop:=∀ (j : Nat) t,n.zs[j]? = some t → ∃ (i : Nat) (v : Vd),c.vs[i]? = some v ∧ v.n = t ∧ (n.d = true ∨ InL v.zs n.n)

theorem isuit_any (d : Ad) (c : Cl) (p : Pd) (pa : Option Addr) (pl pc : Nat) (w : World) (hr : ClRow w d c.raw) (hn : RisBy Nd.n c.ns) (hx : RisBy Xd.n c.xs) (hv : RisBy Vd.n c.vs) (hne : ∀ (j : Nat) v,c.vs[j]? = some v → ¬ v.n = ⟨#[]⟩) (hp : TxRow w pa pl pc p.zs) :
  Calls Tryz.prog 134 #[.agg #[.slice d.a1 d.l1 d.c1,.slice d.a2 d.l2 d.c2,.slice d.a3 d.l3 d.c3,.slice d.a4 d.l4 d.c4,.slice d.a5 d.l5 d.c5,.int .i64 c.now],.agg #[.string p.n,.int .i64 p.c,.string p.z,.slice pa pl pc,.string p.d,.int .i64 p.p]] w (BoolB (SuitI c p) w):=by
 have HR:=hidK hr;have HN:=hidK hn;obtain ⟨HX,HV,HNE⟩:=qqb78;have HP:=hidK hp;obtain ⟨hlc,hzl⟩:=qqb64;have HB:=hidK (Below.refl w.heap.size w);clear hr hn hx hv hne hp;go_enter Tryz.func134,Tryz.ntmps134;go_wp2_with fail;refine (thend_any d c.now c.ns p.d w _ HR.out.n (below2 _ _ _)).mono ?_;rintro e w1 ⟨hb,hf⟩;obtain ⟨HA0,HA1,hbx⟩:=slots2 hb;have Bk:=hidK HA0;have Bp:=hidK HA1;replace HB:=upB HB hbx;clear hb hbx HA0 HA1;rcases hf with ⟨hh,n,va,vl,vc,hx,hn,rfl,z0,z1,hvr⟩ | ⟨hh,rfl⟩;rotate_left
 ·exact qqa56
 have HX1:=hidK hx;have HN1:=hidK hn;have HT1:=hidK hvr;clear hx hn hh z0 z1 hvr;have hz : (p.z = ⟨#[]⟩ ∨ p.z = n.z) ∨ ¬ (p.z = ⟨#[]⟩ ∨ p.z = n.z):=Classical.em _;rcases hz with hz | hz;rotate_left
 ·have q1:=isE_no (fun e => hz (.inl e));have q2:=tl_no (fun e => hz (.inr e));have HC:=hidK hz;clear hz;obtain ⟨k0,k1,k2,k3,k4,k5⟩:=cs6 Bk.out;have ltk_1:=lt_of_some Bk.out;obtain ⟨p0,p1,p2,p3,p4,p5⟩:=cs6 Bp.out;have ltp_1:=lt_of_some Bp.out;go_wp2;go_ret;refine BoolB.f (fun ⟨i,m,e1,e2,e3,_⟩ => ?_) (HB.out.alloc HB.out.size _);obtain ⟨_,rfl⟩:=HN.out.inj e1 HX1.out (e2.trans HN1.out.symm);exact HC.out e3
 have HC:=hidK hz;have hq : (p.z.toList.isEmpty = true) ∨ (p.z.toList.isEmpty = false ∧ (p.z.toList == n.z.toList) = true):=by
  by_cases e : p.z = ⟨#[]⟩
  ·exact .inl (isE_y e)
  ·exact .inr ⟨isE_no e,tl_yes (HC.out.resolve_left e)⟩
 clear hz;rcases hq with hq | ⟨hq,hq2⟩
 ·exact qqa3
 ·exact qqa3

theorem irun_any (d : Ad) (c : Cl) (p : Pd) (pa : Option Addr) (pl pc : Nat) (w : World) (hr : ClRow w d c.raw) (hn : RisBy Nd.n c.ns) (hx : RisBy Xd.n c.xs) (hv : RisBy Vd.n c.vs) (hne : ∀ (j : Nat) v,c.vs[j]? = some v → ¬ v.n = ⟨#[]⟩) (hp : TxRow w pa pl pc p.zs) :
  Calls Tryz.prog 139 #[.agg #[.slice d.a1 d.l1 d.c1,.slice d.a2 d.l2 d.c2,.slice d.a3 d.l3 d.c3,.slice d.a4 d.l4 d.c4,.slice d.a5 d.l5 d.c5,.int .i64 c.now],.agg #[.string p.n,.int .i64 p.c,.string p.z,.slice pa pl pc,.string p.d,.int .i64 p.p]] w (BoolB (RunI c p) w):=by
 have HR:=hidK hr;have HN:=hidK hn;obtain ⟨HX,HV,HNE⟩:=qqb78;have HP:=hidK hp;obtain ⟨hlc,hzl⟩:=qqb64;have HB:=hidK (Below.refl w.heap.size w);clear hr hn hx hv hne hp;go_enter Tryz.func139,Tryz.ntmps139;go_wp2_with fail;refine (thend_any d c.now c.ns p.d w _ HR.out.n (below2 _ _ _)).mono ?_;rintro e w1 ⟨hb,hf⟩;obtain ⟨HA0,HA1,hbx⟩:=slots2 hb;have Bk:=hidK HA0;have Bp:=hidK HA1;replace HB:=upB HB hbx;clear hb hbx HA0 HA1;rcases hf with ⟨hh,n,va,vl,vc,hx,hn,rfl,z0,z1,hvr⟩ | ⟨hh,rfl⟩;rotate_left
 ·exact qqa56
 have HX1:=hidK hx;have HN1:=hidK hn;have HT1:=hidK hvr;clear hx hn hh z0 z1 hvr;cases hd : n.d;rotate_left
 ·obtain ⟨k0,k1,k2,k3,k4,k5⟩:=cs6 Bk.out;have ltk_1:=lt_of_some Bk.out;obtain ⟨p0,p1,p2,p3,p4,p5⟩:=cs6 Bp.out;have ltp_1:=lt_of_some Bp.out;go_wp2;go_ret;refine BoolB.f (fun ⟨i,m,e1,e2,e3,_⟩ => ?_) (HB.out.alloc HB.out.size _);obtain ⟨_,rfl⟩:=HN.out.inj e1 HX1.out (e2.trans HN1.out.symm);rw [hd] at e3;cases e3
 have HC:=hidK hd;clear hd;obtain ⟨k0,k1,k2,k3,k4,k5⟩:=cs6 Bk.out;have ltk_1:=lt_of_some Bk.out;obtain ⟨p0,p1,p2,p3,p4,p5⟩:=cs6 Bp.out;have ltp_1:=lt_of_some Bp.out;go_wp2;go_loopw [27] (fun i wr => ∃ k : Nat,k ≤ pl ∧ i = .int .i64 k ∧ Hid (∀ (j : Nat) t,j < k → p.zs[j]? = some t → ∃ v,IsBd c t v ∧ InL n.zs v.n) ∧ Hid (Below w.heap.size w wr) ∧ Hid (wr.heap[w.heap.size]? = some (.cells #[.slice d.a1 d.l1 d.c1,.slice d.a2 d.l2 d.c2,.slice d.a3 d.l3 d.c3,.slice d.a4 d.l4 d.c4,.slice d.a5 d.l5 d.c5,.int .i64 c.now] 36 (0,0))) ∧ Hid (wr.heap[w1.heap.size]? = some (.cells #[.string n.n,.string n.z,.int .i64 n.c,.int .i64 n.s,.int .i64 n.u,.bool false,.slice va vl vc] 82 (0,0)))) (fun i _ => pl - (intOf i).toNat);case atStart => exact ⟨0,by omega,rfl,fun _ _ h => absurd h qqd1,HB.out.alloc HB.out.size _,(Below.heap_alloc _ _ _ (lt_of_some Bk.out)).trans Bk.out,Array.getElem?_push_size⟩
 case round =>
  obtain ⟨k,hk,rfl,HQ,HB,Bk,Bn⟩:=hrel;by_cases hlt : k < pl
  ·obtain ⟨b,o,t,rfl,hb,hx,hc,hsz⟩:=(HP.out.below HB.out).at hlt;have HXt:=hidK hx;clear hx hsz;obtain ⟨k0,k1,k2,k3,k4,k5⟩:=cs6 Bk.out;have ltk_0:=lt_of_some Bk.out;obtain ⟨n0,n1,n2,n3,n4,n5,n6⟩:=cs7 Bn.out;have ltn_0:=lt_of_some Bn.out;go_wp2_with fail;refine (ibd_any d c t w _ HR.out HB.out HX.out HV.out HNE.out).mono ?_;rintro e w2 ⟨hb2,hf⟩;clear k0 k1 k2 k3 k4 k5 ltk_0 n0 n1 n2 n3 n4 n5 n6 ltn_0;replace Bk:=upK Bk hb2;replace Bn:=upK Bn hb2;replace HB:=upB HB hb2;clear hb2;clear hb hc;rcases hf with ⟨v,xa,xl,xc,hbd,rfl,z0,z2,hxr⟩ | ⟨hbd,rfl⟩;rotate_left
   ·exact qqa123
   have HD:=hidK hbd;have HTx:=hidK hxr;clear hbd hxr z0 z2;obtain ⟨k0,k1,k2,k3,k4,k5⟩:=cs6 Bk.out;have ltk_1:=lt_of_some Bk.out;obtain ⟨n0,n1,n2,n3,n4,n5,n6⟩:=cs7 Bn.out;have ltn_1:=lt_of_some Bn.out;go_wp2_with fail;refine (icontains_any va vl vc n.zs v.n _ (HT1.out.below (HB.out.trans ((below1 _ _).mono HB.out.size)))).mono ?_;rintro e w3 ⟨r,rfl,hi,hb3⟩;clear k0 k1 k2 k3 k4 k5 ltk_1 n0 n1 n2 n3 n4 n5 n6 ltn_1;obtain ⟨HA0,hbx⟩:=slots1 hb3;replace Bk:=upK Bk hbx;replace Bn:=upK Bn hbx;have Bv:=hidK HA0;replace HB:=upB HB hbx;clear hb3 hbx HA0;have HI:=hidK hi;clear hi;cases r
   ·go_wp2;go_ret;refine BoolB.f (fun ⟨i,m,e1,e2,e3,e4⟩ => ?_) HB.out;obtain ⟨_,rfl⟩:=HN.out.inj e1 HX1.out (e2.trans HN1.out.symm);obtain ⟨v',e5,e6⟩:=e4 k t HXt.out;obtain rfl:=IsBd.inj HX.out HV.out HD.out e5;have:=HI.out.2 e6;cases this
   ·go_wp2_with fail;refine ⟨⟨k + 1,by omega,by go_num,fun j s hj hs => ?_,HB.out,Bk.out,Bn.out⟩,by simp [intOf];omega⟩;by_cases e : j = k
    ·subst e;rw [HXt.out] at hs;obtain rfl:=Option.some.inj hs;exact ⟨v,HD.out,HI.out.1 qqd5⟩
    ·exact HQ.out j s qqd1 hs
  ·exact qqa133

theorem imnt_any (d : Ad) (c : Cl) (n : Nd) (pa : Option Addr) (pl pc : Nat) (w : World) (hr : ClRow w d c.raw) (hv : RisBy Vd.n c.vs) (hp : TxRow w pa pl pc n.zs) :
  Calls Tryz.prog 138 #[.agg #[.slice d.a1 d.l1 d.c1,.slice d.a2 d.l2 d.c2,.slice d.a3 d.l3 d.c3,.slice d.a4 d.l4 d.c4,.slice d.a5 d.l5 d.c5,.int .i64 c.now],.agg #[.string n.n,.string n.z,.int .i64 n.c,.int .i64 n.s,.int .i64 n.u,.bool n.d,.slice pa pl pc]] w (BoolB (MntI c n) w):=by
 have HR:=hidK hr;have HV:=hidK hv;have HP:=hidK hp;have hlc : pl ≤ 9223372036854775807:=Nat.le_trans hp.2.1 hp.2.2.1;have hzl : n.zs.length = pl:=hp.1;clear hr hv hp;go_enter Tryz.func138,Tryz.ntmps138;go_wp2;go_loopw [12] (fun i wr => ∃ k : Nat,k ≤ pl ∧ i = .int .i64 k ∧ Hid (∀ (j : Nat) t,j < k → n.zs[j]? = some t → ∃ (i : Nat) (v : Vd),c.vs[i]? = some v ∧ v.n = t ∧ (n.d = true ∨ InL v.zs n.n)) ∧ Hid (Below w.heap.size w wr) ∧ Hid (wr.heap[w.heap.size]? = some (.cells #[.slice d.a1 d.l1 d.c1,.slice d.a2 d.l2 d.c2,.slice d.a3 d.l3 d.c3,.slice d.a4 d.l4 d.c4,.slice d.a5 d.l5 d.c5,.int .i64 c.now] 36 (0,0))) ∧ Hid (wr.heap[w.heap.size + 1]? = some (.cells #[.string n.n,.string n.z,.int .i64 n.c,.int .i64 n.s,.int .i64 n.u,.bool n.d,.slice pa pl pc] 82 (0,0)))) (fun i _ => pl - (intOf i).toNat);case atStart => exact ⟨0,by omega,rfl,fun _ _ h => absurd h qqd1,below2 _ _ _,heap2_0 _ _ _,heap2_1 _ _ _⟩
 case round =>
  obtain ⟨k,hk,rfl,HQ,HB,Bk,Bn⟩:=hrel;by_cases hlt : k < pl
  ·obtain ⟨b,o,t,rfl,hb,hx,hc,hsz⟩:=(HP.out.below HB.out).at hlt;have HXt:=hidK hx;clear hx hsz;obtain ⟨k0,k1,k2,k3,k4,k5⟩:=cs6 Bk.out;have ltk_0:=lt_of_some Bk.out;obtain ⟨n0,n1,n2,n3,n4,n5,n6⟩:=cs7 Bn.out;have ltn_0:=lt_of_some Bn.out;go_wp2_with fail;refine (thevd_any d c.now c.vs t w _ HR.out.v HB.out).mono ?_;rintro e w2 ⟨hb2,hf⟩;clear k0 k1 k2 k3 k4 k5 ltk_0 n0 n1 n2 n3 n4 n5 n6 ltn_0;replace Bk:=upK Bk hb2;replace Bn:=upK Bn hb2;replace HB:=upB HB hb2;clear hb2;clear hb hc;rcases hf with ⟨hh,v,va,vl,vc,hx,hn,rfl,z0,z2,z3,z5,hvr⟩ | ⟨hh,rfl⟩;rotate_left
   ·have HH:=hidK hh;clear hh;obtain ⟨k0,k1,k2,k3,k4,k5⟩:=cs6 Bk.out;have ltk_1:=lt_of_some Bk.out;obtain ⟨n0,n1,n2,n3,n4,n5,n6⟩:=cs7 Bn.out;have ltn_1:=lt_of_some Bn.out;go_wp2;go_ret;refine BoolB.f (fun h => ?_) (HB.out.alloc HB.out.size _);obtain ⟨i,v,e1,e2,_⟩:=h k t HXt.out;have:=(hit_at HV.out e1 e2).2;rw [HH.out] at this;cases this
   have HXv:=hidK hx;have HNv:=hidK hn;have HTv:=hidK hvr;clear hx hn hh z0 z2 z3 z5 hvr;rcases Bool.eq_false_or_eq_true n.d with hd | hd
   ·have HD:=hidK hd;clear hd;obtain ⟨k0,k1,k2,k3,k4,k5⟩:=cs6 Bk.out;have ltk_1:=lt_of_some Bk.out;obtain ⟨n0,n1,n2,n3,n4,-,n6⟩:=cs7 Bn.out;have ltn_1:=lt_of_some Bn.out;have n5 : w2.cell? ⟨w.heap.size + 1,5,none⟩ = some (.bool true):=(cellK Bn.out 5).trans (congrArg (fun z => some (Value.bool z)) HD.out);go_wp2_with fail;refine ⟨⟨k + 1,by omega,by go_num,fun j s hj hs => ?_,(HB.out.alloc HB.out.size _),(Below.heap_alloc _ _ _ (lt_of_some Bk.out)).trans Bk.out,(Below.heap_alloc _ _ _ (lt_of_some Bn.out)).trans Bn.out⟩,by simp [intOf];omega⟩;by_cases e : j = k
    ·subst e;rw [HXt.out] at hs;obtain rfl:=Option.some.inj hs;exact ⟨_,v,HXv.out,HNv.out,.inl HD.out⟩
    ·exact HQ.out j s qqd1 hs
   ·have HD:=hidK hd;clear hd;obtain ⟨k0,k1,k2,k3,k4,k5⟩:=cs6 Bk.out;have ltk_1:=lt_of_some Bk.out;obtain ⟨n0,n1,n2,n3,n4,-,n6⟩:=cs7 Bn.out;have ltn_1:=lt_of_some Bn.out;have n5 : w2.cell? ⟨w.heap.size + 1,5,none⟩ = some (.bool false):=(cellK Bn.out 5).trans (congrArg (fun z => some (Value.bool z)) HD.out);go_wp2_with fail;refine (icontains_any va vl vc v.zs n.n _ (HTv.out.below (HB.out.trans ((below1 _ _).mono HB.out.size)))).mono ?_;rintro e w3 ⟨r,rfl,hi,hb3⟩;clear k0 k1 k2 k3 k4 k5 ltk_1 n0 n1 n2 n3 n4 n6 ltn_1 n5;obtain ⟨HA0,hbx⟩:=slots1 hb3;replace Bk:=upK Bk hbx;replace Bn:=upK Bn hbx;have Bv:=hidK HA0;replace HB:=upB HB hbx;clear hb3 hbx HA0;have HI:=hidK hi;clear hi;cases r
    ·go_wp2;go_ret;refine BoolB.f (fun h => ?_) HB.out;obtain ⟨i,v',e1,e2,e3⟩:=h k t HXt.out;obtain ⟨_,rfl⟩:=HV.out.inj e1 HXv.out (e2.trans HNv.out.symm);rcases e3 with e3 | e3
     ·rw [HD.out] at e3;cases e3
     ·have:=HI.out.2 e3;cases this
    ·go_wp2_with fail;refine ⟨⟨k + 1,by omega,by go_num,fun j s hj hs => ?_,HB.out,Bk.out,Bn.out⟩,by simp [intOf];omega⟩;by_cases e : j = k
     ·subst e;rw [HXt.out] at hs;obtain rfl:=Option.some.inj hs;exact ⟨_,v,HXv.out,HNv.out,.inr (HI.out.1 qqd5)⟩
     ·exact HQ.out j s qqd1 hs
  ·exact qqa95

open Classical in
noncomputable def onOf (t : ByteArray) : List Vd → Int
 | [] => 0
 | v :: vs => (if InL v.zs t then 1 else 0) + onOf t vs
theorem onOf_append (t : ByteArray) : ∀ vs us : List Vd,onOf t (vs ++ us) = onOf t vs + onOf t us
 | [],us => by simp [onOf]
 | v :: vs,us => by simp [onOf,onOf_append t vs];omega
open Classical in
theorem onOf_step {t : ByteArray} {vs : List Vd} {k : Nat} {v : Vd} (h : vs[k]? = some v) : onOf t (vs.take (k + 1)) = onOf t (vs.take k) + (if InL v.zs t then 1 else 0):=by
 rw [List.take_add_one,h,onOf_append];simp [onOf]

theorem iusedSlots_any (d : Ad) (now : Int) (vs : List Vd) (t : ByteArray) (w : World) (hr : RRow w d.a3 d.l3 d.c3 8 (vs.map vdF)) (hl : vs.length ≤ 8) :
  Calls Tryz.prog 137 #[.agg #[.slice d.a1 d.l1 d.c1,.slice d.a2 d.l2 d.c2,.slice d.a3 d.l3 d.c3,.slice d.a4 d.l4 d.c4,.slice d.a5 d.l5 d.c5,.int .i64 now],.string t] w fun e w' => e = .returned (.int .i64 (onOf t vs)) ∧ Below w.heap.size w w':=by
 obtain ⟨a1,l1,y1,a2,l2,y2,a3,l3,y3,a4,l4,y4,a5,l5,y5⟩:=d;dsimp only at hr ⊢;have HR:=hidK hr;have hxl : vs.length = l3:=qqd8
 clear hr;go_enter Tryz.func137,Tryz.ntmps137;go_wp2;go_loopw [5,11] (fun q i wr => ∃ (k : Nat) (s : Int),k ≤ l3 ∧ q = .int .i64 s ∧ i = .int .i64 k ∧ Hid (s = onOf t (vs.take k)) ∧ 0 ≤ s ∧ s ≤ k ∧ Hid (Below w.heap.size w wr)) (fun _ i _ => l3 - (intOf i).toNat);case atStart => exact ⟨0,0,by omega,rfl,rfl,rfl,by omega,by omega,below1 _ _⟩
 case round =>
  obtain ⟨k,s,hk,rfl,rfl,HS,hs0,hs1,HB⟩:=hrel;by_cases hlt : k < l3
  ·obtain ⟨b,o,v,rfl,hb,hx,hat⟩:=vd_at (HR.out.below HB.out) hlt;obtain ⟨va,vl,vc,hvr,z0,z2,z3,z5,c0,c1,c2,c3,c4,c5,c6,c7⟩:=vd_cells hat;have HX:=hidK hx;have HT:=hidK hvr;clear hat hx z0 z2 z3 z5 hvr;go_wp2_with fail;refine (icontains_any va vl vc v.zs t _ (HT.out.below (below1 _ _))).mono ?_;rintro e w1 ⟨r,rfl,hi,hb2⟩;obtain ⟨HA0,hbx⟩:=slots1 hb2;have Bv:=hidK HA0;replace HB:=upB HB hbx;clear hb2 hbx HA0;have HI:=hidK hi;clear hi hb c0 c1 c2 c3 c4 c5 c6 c7;cases r
   ·go_wp2;refine ⟨⟨k + 1,s,by omega,rfl,by go_num,?_,by omega,by omega,HB.out⟩,by simp [intOf];omega⟩;exact qqa106
   ·go_wp2;refine ⟨⟨k + 1,s + 1,by omega,by go_num,by go_num,?_,by omega,by omega,HB.out⟩,by simp [intOf];omega⟩;show _ = _;rw [onOf_step HX.out,if_pos (HI.out.1 qqd5),← HS.out]
  ·obtain rfl : l3 = k:=qqd1
   exact qqa62

def PQ1 (c : Cl) (p : Pd) : Prop:=(∀ (j : Nat) t,p.zs[j]? = some t → hit Xd.n c.xs t = true) ∧ (p.d = ⟨#[]⟩ ∨ SuitI c p)
def PQ2 (c : Cl) (n : Nd) : Prop:=cpuOf n.n c.ps ≤ n.c
def PQ3 (c : Cl) (v : Vd) : Prop:=v.x = true → ¬ v.m = ⟨#[]⟩ → OneNode c v.m
def PlacedI (c : Cl) : Prop:=(∀ (j : Nat) z,c.ps[j]? = some z → PQ1 c z) ∧ (∀ (j : Nat) z,c.ns[j]? = some z → PQ2 c z) ∧ (∀ (j : Nat) z,c.vs[j]? = some z → PQ3 c z)

theorem iplaced_any (d : Ad) (c : Cl) (w : World) (hr : ClRow w d c.raw) (hn : RisBy Nd.n c.ns) (hx : RisBy Xd.n c.xs) (hv : RisBy Vd.n c.vs) (hne : ∀ (j : Nat) v,c.vs[j]? = some v → ¬ v.n = ⟨#[]⟩) (hps8 : c.ps.length ≤ 8) (hpc : ∀ (j : Nat) p,c.ps[j]? = some p → 0 ≤ p.c ∧ p.c ≤ 1000000) (hG : ens w) :
  Calls Tryz.prog 100 #[.agg #[.slice d.a1 d.l1 d.c1,.slice d.a2 d.l2 d.c2,.slice d.a3 d.l3 d.c3,.slice d.a4 d.l4 d.c4,.slice d.a5 d.l5 d.c5,.int .i64 c.now]] w (BoolB (PlacedI c) w):=by
 obtain ⟨a1,l1,y1,a2,l2,y2,a3,l3,y3,a4,l4,y4,a5,l5,y5⟩:=d;dsimp only;obtain ⟨HR,hl1,hm1,hl2,hm2,hl3,hm3,hl4,hm4,hl5,hm5⟩:=qqb1;clear hr;have HE:=hidK hG;have HNR:=hidK hn;have HXR:=hidK hx;have HVR:=hidK hv;have HNE:=hidK hne;have HL5:=hidK hps8;have HPC:=hidK hpc;clear hn hx hv hne hps8 hpc hG;go_enter Tryz.func100,Tryz.ntmps100;go_wp2;go_loopw [12] (fun i wr => ∃ k : Nat,k ≤ l5 ∧ i = .int .i64 k ∧ Hid (∀ (j : Nat) z,j < k → c.ps[j]? = some z → PQ1 c z) ∧ Hid (Below w.heap.size w wr) ∧ Hid (wr.heap[w.heap.size]? = some (.cells #[.slice a1 l1 y1,.slice a2 l2 y2,.slice a3 l3 y3,.slice a4 l4 y4,.slice a5 l5 y5,.int .i64 c.now] 36 (0,0)))) (fun i _ => l5 - (intOf i).toNat);case atStart => exact ⟨0,by omega,rfl,fun _ _ h => absurd h qqd1,below1 _ _,Array.getElem?_push_size⟩
 case round =>
  obtain ⟨k,hk,rfl,HQ,HB,Bk⟩:=hrel;by_cases hlt : k < l5
  ·obtain ⟨b,o,p,rfl,hb,hx,hat⟩:=pd_at (HR.out.p.below HB.out) hlt;obtain ⟨va,vl,vc,hvr,z0,z2,z4,c0,c1,c2,c3,c4,c5⟩:=pd_cells hat;have HXp:=hidK hx;have HTp:=hidK hvr;have HZp0:=hidK z0;have HZp2:=hidK z2;have HZp4:=hidK z4;clear hat hx z0 z2 z4 hvr;obtain ⟨k0,k1,k2,k3,k4,k5⟩:=cs6 Bk.out;have ltk_0:=lt_of_some Bk.out;go_wp2_with fail;refine (iclaimsWhy_any ⟨a1,l1,y1,a2,l2,y2,a3,l3,y3,a4,l4,y4,(some ⟨b,o,none⟩),l5,y5⟩ c.now c.xs va vl vc p.zs _ (HR.out.x.below (HB.out.trans ((below1 _ _).mono HB.out.size))) (HTp.out.below (below1 _ _)) (HE.out.below (HB.out.trans ((below1 _ _).mono HB.out.size)))).mono ?_;rintro e w1 ⟨hb2,hf⟩;clear k0 k1 k2 k3 k4 k5 ltk_0;obtain ⟨HA0,hbx⟩:=slots1 hb2;replace Bk:=upK Bk hbx;have Br:=hidK HA0;replace HTp:=hidK (HTp.out.below hbx);replace HB:=upB HB hbx;clear hb2 hbx HA0;clear hb c0 c1 c2 c3 c4 c5;rcases hf with ⟨hh,rfl⟩ | ⟨hh,T,q,rfl⟩;rotate_left
   ·have HH:=hidK hh;clear hh;obtain ⟨k0,k1,k2,k3,k4,k5⟩:=cs6 Bk.out;have ltk_1:=lt_of_some Bk.out;obtain ⟨r0,r1,r2,r3,r4,r5⟩:=cs6 Br.out;have ltr_1:=lt_of_some Br.out;go_wp2;go_ret;exact BoolB.f (fun h => HH.out (h.1 k p HXp.out).1) HB.out
   have HH:=hidK hh;clear hh;by_cases he : p.d = ⟨#[]⟩
   ·have hq:=isE_y he;have HEm:=hidK he;clear he;obtain ⟨k0,k1,k2,k3,k4,k5⟩:=cs6 Bk.out;have ltk_1:=lt_of_some Bk.out;obtain ⟨r0,r1,r2,r3,r4,r5⟩:=cs6 Br.out;have ltr_1:=lt_of_some Br.out;go_wp2_with fail;refine ⟨⟨k + 1,by omega,by go_num,fun j z hj hz => ?_,HB.out,Bk.out⟩,by simp [intOf];omega⟩;by_cases e : j = k
    ·subst e;rw [HXp.out] at hz;exact qqa102
    ·exact HQ.out j z qqd1 hz
   ·have hq:=isE_no he;have HEm:=hidK he;clear he;obtain ⟨k0,k1,k2,k3,k4,k5⟩:=cs6 Bk.out;have ltk_1:=lt_of_some Bk.out;obtain ⟨r0,r1,r2,r3,r4,r5⟩:=cs6 Br.out;have ltr_1:=lt_of_some Br.out;go_wp2_with fail;refine (isuit_any ⟨a1,l1,y1,a2,l2,y2,a3,l3,y3,a4,l4,y4,(some ⟨b,o,none⟩),l5,y5⟩ c p va vl vc _ (HR.out.below HB.out) HNR.out HXR.out HVR.out HNE.out HTp.out).mono ?_;rintro e w2 ⟨r,rfl,hi,hb3⟩;clear k0 k1 k2 k3 k4 k5 ltk_1 r0 r1 r2 r3 r4 r5 ltr_1;replace Bk:=upK Bk hb3;replace Br:=upK Br hb3;replace HTp:=hidK (HTp.out.below hb3);replace HB:=upB HB hb3;clear hb3;have HI:=hidK hi;clear hi;cases r
    ·go_wp2;go_ret;refine BoolB.f (fun h => ?_) HB.out;rcases (h.1 k p HXp.out).2 with h2 | h2
     ·exact HEm.out h2
     ·have:=HI.out.2 h2;cases this
    ·go_wp2_with fail;refine ⟨⟨k + 1,by omega,by go_num,fun j z hj hz => ?_,HB.out,Bk.out⟩,by simp [intOf];omega⟩;by_cases e : j = k
     ·subst e;rw [HXp.out] at hz;exact qqa85
     ·exact HQ.out j z qqd1 hz
  ·obtain rfl : l5 = k:=qqd1
   have HQ1 : Hid (∀ (j : Nat) z,c.ps[j]? = some z → PQ1 c z):=fun j z hz => HQ.out j z qqd4 hz;clear HQ;have kc : wr.cell? ⟨w.heap.size,0,none⟩ = some (.slice a1 l1 y1):=cellK Bk.out 0;have kl : w.heap.size < wr.heap.size:=lt_of_some Bk.out;go_wp2;go_loopw [36] (fun i wr => ∃ k : Nat,k ≤ l1 ∧ i = .int .i64 k ∧ Hid (∀ (j : Nat) z,j < k → c.ns[j]? = some z → PQ2 c z) ∧ Hid (Below w.heap.size w wr) ∧ Hid (wr.heap[w.heap.size]? = some (.cells #[.slice a1 l1 y1,.slice a2 l2 y2,.slice a3 l3 y3,.slice a4 l4 y4,.slice a5 l5 y5,.int .i64 c.now] 36 (0,0)))) (fun i _ => l1 - (intOf i).toNat);case atStart => exact ⟨0,by omega,rfl,fun _ _ h => absurd h qqd1,HB.out,Bk.out⟩
   case round =>
    obtain ⟨k,hk,rfl,HQ,HB,Bk⟩:=hrel;by_cases hlt : k < l1
    ·obtain ⟨b,o,n,rfl,hb,hx,hat⟩:=nd_at (HR.out.n.below HB.out) hlt;obtain ⟨va,vl,vc,hvr,z0,z1,c0,c1,c2,c3,c4,c5,c6⟩:=nd_cells hat;obtain ⟨HXn,HTn,HZn0,HZn1⟩:=qqb79;clear hat hx z0 z1 hvr;obtain ⟨GK,GR,HW⟩:=qqb17;obtain ⟨k0,k1,k2,k3,k4,k5⟩:=sl6 GK;obtain ⟨r0,r1,r2,r3,r4,r5,r6⟩:=sl7 GR;have hne0:=Wd.ne (wr.alloc (.cells #[.string n.n,.string n.z,.int .i64 n.c,.int .i64 n.s,.int .i64 n.u,.bool n.d,.slice va vl vc] 82));have HC:=hidK (fun q : Wd (wr.alloc (.cells #[.string n.n,.string n.z,.int .i64 n.c,.int .i64 n.s,.int .i64 n.u,.bool n.d,.slice va vl vc] 82)) => iusedCpu_any ⟨(some ⟨b,o,none⟩),l1,y1,a2,l2,y2,a3,l3,y3,a4,l4,y4,a5,l5,y5⟩ c.now c.ps n.n q.w (HR.out.p.below (HW.out.trans (q.b.mono HW.out.size))) HL5.out HPC.out);go_wp2_with fail;refine wp_region_wide qqd2 qqd2 ?_;repeat (go_big_quiet_step (first | (go_at_call 135;exact Calls.wide (HC.out _)) | fail))
     refine wpQuiet_nil ?_;rintro _ ⟨q,rfl⟩;have HB2:=upB HW q.b;have Bk2:=upK GK q.b;clear HC hne0 k0 k1 k2 k3 k4 k5 r0 r1 r2 r3 r4 r5 r6 c0 c1 c2 c3 c4 c5 c6 hb HB Bk HW GK GR;have HB:=HB2;have Bk:=Bk2;clear HB2 Bk2;by_cases hq : cpuOf n.n c.ps ≤ n.c
     ·exact qqa69
     ·have HQ2:=hidK hq;go_wp2;go_ret;exact BoolB.f (fun h => by have h1 : cpuOf n.n c.ps ≤ n.c:=(h.2.1 k n HXn.out);have h2:=HQ2.out;omega) HB.out
    ·obtain rfl : l1 = k:=qqd1
     have HQ2 : Hid (∀ (j : Nat) z,c.ns[j]? = some z → PQ2 c z):=fun j z hz => HQ.out j z qqd4 hz;clear HQ;have kc : wr.cell? ⟨w.heap.size,2,none⟩ = some (.slice a3 l3 y3):=cellK Bk.out 2;have kl : w.heap.size < wr.heap.size:=lt_of_some Bk.out;go_wp2;go_loopw [51] (fun i wr => ∃ k : Nat,k ≤ l3 ∧ i = .int .i64 k ∧ Hid (∀ (j : Nat) z,j < k → c.vs[j]? = some z → PQ3 c z) ∧ Hid (Below w.heap.size w wr) ∧ Hid (wr.heap[w.heap.size]? = some (.cells #[.slice a1 l1 y1,.slice a2 l2 y2,.slice a3 l3 y3,.slice a4 l4 y4,.slice a5 l5 y5,.int .i64 c.now] 36 (0,0)))) (fun i _ => l3 - (intOf i).toNat);case atStart => exact ⟨0,by omega,rfl,fun _ _ h => absurd h qqd1,HB.out,Bk.out⟩
     case round =>
      obtain ⟨k,hk,rfl,HQ,HB,Bk⟩:=hrel;by_cases hlt : k < l3
      ·obtain ⟨b,o,v,rfl,hb,hx,hat⟩:=vd_at (HR.out.v.below HB.out) hlt;obtain ⟨va,vl,vc,hvr,z0,z2,z3,z5,c0,c1,c2,c3,c4,c5,c6,c7⟩:=vd_cells hat;obtain ⟨HXv,HTv,HZv0,HZv2,HZv3,HZv5⟩:=qqb59;clear hat hx z0 z2 z3 z5 hvr;have hcase : (v.x = false ∨ v.m = ⟨#[]⟩) ∨ (v.x = true ∧ ¬ v.m = ⟨#[]⟩):=by
        rcases Bool.eq_false_or_eq_true v.x with h | h
        ·by_cases e : v.m = ⟨#[]⟩
         ·exact .inl (.inr e)
         ·exact .inr ⟨h,e⟩
        ·exact .inl (.inl h)
       rcases hcase with hcase | ⟨hs,he⟩
       ·have HCs:=hidK hcase;rcases hcase with hs | he
        ·exact qqa19
        ·have hq:=isE_y he;clear he;rcases Bool.eq_false_or_eq_true v.x with hs | hs
         ·exact qqa19
         ·exact qqa19
       ·have hq:=isE_no he;have HEm:=hidK he;have HSi:=hidK hs;rw [hs] at c4;clear he hs;obtain ⟨k0,k1,k2,k3,k4,k5⟩:=cs6 Bk.out;have ltk_0:=lt_of_some Bk.out;go_wp2_with fail;refine (ione_any ⟨a1,l1,y1,a2,l2,y2,(some ⟨b,o,none⟩),l3,y3,a4,l4,y4,a5,l5,y5⟩ c v.m _ (HR.out.below (HB.out.trans ((below1 _ _).mono HB.out.size)))).mono ?_;rintro e w2 ⟨r,rfl,hi,hb3⟩;clear k0 k1 k2 k3 k4 k5 ltk_0;obtain ⟨HA0,hbx⟩:=slots1 hb3;replace Bk:=upK Bk hbx;have Br:=hidK HA0;replace HB:=upB HB hbx;clear hb3 hbx HA0;have HI:=hidK hi;clear hi hb c0 c1 c2 c3 c4 c5 c6 c7;cases r
        ·go_wp2;go_ret;exact BoolB.f (fun h => by have:=HI.out.2 ((h.2.2 k v HXv.out) HSi.out HEm.out);cases this) HB.out
        ·go_wp2_with fail;refine ⟨⟨k + 1,by omega,by go_num,fun j z hj hz => ?_,HB.out,Bk.out⟩,by simp [intOf];omega⟩;by_cases e : j = k
         ·subst e;rw [HXv.out] at hz;obtain rfl:=Option.some.inj hz;exact fun _ _ => HI.out.1 qqd5
         ·exact HQ.out j z qqd1 hz
      ·obtain rfl : l3 = k:=qqd1
       have HQ3 : Hid (∀ (j : Nat) z,c.vs[j]? = some z → PQ3 c z):=fun j z hz => HQ.out j z qqd4 hz;clear HQ;go_wp2;go_ret;exact BoolB.t ⟨HQ1.out,HQ2.out,HQ3.out⟩ HB.out

def AQ1 (c : Cl) (v : Vd) : Prop:=∀ (j : Nat) t,v.zs[j]? = some t → ∃ (i : Nat) (n : Nd),c.ns[i]? = some n ∧ n.n = t ∧ n.z = v.z
def AQ2 (c : Cl) (n : Nd) : Prop:=onOf n.n c.vs ≤ n.s
def AttachedI (c : Cl) : Prop:=(∀ (j : Nat) z,c.vs[j]? = some z → AQ1 c z) ∧ (∀ (j : Nat) z,c.ns[j]? = some z → AQ2 c z)

theorem iattached_any (d : Ad) (c : Cl) (w : World) (hr : ClRow w d c.raw) (hn : RisBy Nd.n c.ns) (hvs8 : c.vs.length ≤ 8) :
  Calls Tryz.prog 101 #[.agg #[.slice d.a1 d.l1 d.c1,.slice d.a2 d.l2 d.c2,.slice d.a3 d.l3 d.c3,.slice d.a4 d.l4 d.c4,.slice d.a5 d.l5 d.c5,.int .i64 c.now]] w (BoolB (AttachedI c) w):=by
 obtain ⟨a1,l1,y1,a2,l2,y2,a3,l3,y3,a4,l4,y4,a5,l5,y5⟩:=d;dsimp only;obtain ⟨HR,hl1,hm1,hl2,hm2,hl3,hm3,hl4,hm4,hl5,hm5⟩:=qqb1;clear hr;have HNR:=hidK hn;have HL3:=hidK hvs8;clear hn hvs8;go_enter Tryz.func101,Tryz.ntmps101;go_wp2;go_loopw [14] (fun i wr => ∃ k : Nat,k ≤ l3 ∧ i = .int .i64 k ∧ Hid (∀ (j : Nat) z,j < k → c.vs[j]? = some z → AQ1 c z) ∧ Hid (Below w.heap.size w wr) ∧ Hid (wr.heap[w.heap.size]? = some (.cells #[.slice a1 l1 y1,.slice a2 l2 y2,.slice a3 l3 y3,.slice a4 l4 y4,.slice a5 l5 y5,.int .i64 c.now] 36 (0,0)))) (fun i _ => l3 - (intOf i).toNat);case atStart => exact ⟨0,by omega,rfl,fun _ _ h => absurd h qqd1,below1 _ _,Array.getElem?_push_size⟩
 case round =>
  obtain ⟨k,hk,rfl,HQ,HB,Bk⟩:=hrel;by_cases hlt : k < l3
  ·obtain ⟨b,o,v,rfl,hb,hx,hat⟩:=vd_at (HR.out.v.below HB.out) hlt;obtain ⟨va,vl,vc,hvr,z0,z2,z3,z5,c0,c1,c2,c3,c4,c5,c6,c7⟩:=vd_cells hat;obtain ⟨HXv,HTv,HZv0,HZv2,HZv3,HZv5⟩:=qqb59;clear hat hx z0 z2 z3 z5 hvr;have hvl:=HTv.out.1;have hvc : vl ≤ 9223372036854775807:=Nat.le_trans HTv.out.2.1 HTv.out.2.2.1;have HVL:=hidK hvl;clear hvl;have KV:=hidK ((Below.heap_alloc wr (.cells #[.string v.n,.int .i64 v.c,.string v.z,.string v.k,.bool v.x,.string v.m,.bool v.y,.slice va vl vc] 106) _ (lt_of_some Bk.out)).trans Bk.out);obtain ⟨GV,BV⟩:=qqb26;have TV:=hidK (HTv.out.below (below1 wr (.cells #[.string v.n,.int .i64 v.c,.string v.z,.string v.k,.bool v.x,.string v.m,.bool v.y,.slice va vl vc] 106)));obtain ⟨W,hW⟩ : ∃ W,W = wr.alloc (.cells #[.string v.n,.int .i64 v.c,.string v.z,.string v.k,.bool v.x,.string v.m,.bool v.y,.slice va vl vc] 106):=⟨_,rfl⟩;obtain ⟨gb,hgb⟩ : ∃ gb,gb = wr.heap.size:=⟨_,rfl⟩;rw [← hW] at KV GV BV TV;rw [← hgb] at GV;go_wp2;rw [← hW,← hgb];clear hW hgb HB Bk HTv c0 c1 c2 c3 c4 c5 c6 c7 hb;go_loopw [21] (fun i wr => ∃ kq : Nat,kq ≤ vl ∧ i = .int .i64 kq ∧ Hid (∀ (j : Nat) t,j < kq → v.zs[j]? = some t → ∃ (i : Nat) (n : Nd),c.ns[i]? = some n ∧ n.n = t ∧ n.z = v.z) ∧ Hid (Below W.heap.size W wr)) (fun i _ => vl - (intOf i).toNat);case atStart => exact ⟨0,by omega,rfl,fun _ _ h => absurd h qqd1,Below.refl _ _⟩
   case round =>
    obtain ⟨kq,hkq,rfl,HQ2,HBW⟩:=hrel;obtain ⟨HB,Bk⟩:=qqb60;have Bv:=upK GV HBW.out;by_cases hlt2 : kq < vl
    ·obtain ⟨b2,o2,t,rfl,hb,hx,hc,hsz⟩:=(TV.out.below HBW.out).at hlt2;have HXt:=hidK hx;clear hx hsz;obtain ⟨k0,k1,k2,k3,k4,k5⟩:=cs6 Bk.out;have ltk_0:=lt_of_some Bk.out;obtain ⟨v0,v1,v2,v3,v4,v5,v6,v7⟩:=cs8 Bv.out;have ltv_0:=lt_of_some Bv.out;go_wp2_with fail;refine (thend_any ⟨a1,l1,y1,a2,l2,y2,(some ⟨b,o,none⟩),l3,y3,a4,l4,y4,a5,l5,y5⟩ c.now c.ns t w _ HR.out.n HB.out).mono ?_;rintro e w1 ⟨hb2,hf⟩;have HBW1:=upB HBW hb2;clear k0 k1 k2 k3 k4 k5 ltk_0 v0 v1 v2 v3 v4 v5 v6 v7 ltv_0;replace Bk:=upK Bk hb2;replace Bv:=upK Bv hb2;replace HB:=upB HB hb2;clear hb2;clear hb hc;rcases hf with ⟨hh,m,ma,ml,mc,hx,hn,rfl,z0,z1,hmr⟩ | ⟨hh,rfl⟩;rotate_left
     ·have HH:=hidK hh;clear hh;obtain ⟨k0,k1,k2,k3,k4,k5⟩:=cs6 Bk.out;have ltk_1:=lt_of_some Bk.out;obtain ⟨v0,v1,v2,v3,v4,v5,v6,v7⟩:=cs8 Bv.out;have ltv_1:=lt_of_some Bv.out;go_wp2;go_ret;refine BoolB.f (fun h => ?_) (HB.out.alloc HB.out.size _);obtain ⟨i,m,e1,e2,_⟩:=(h.1 k v HXv.out) kq t HXt.out;have:=(hit_at HNR.out e1 e2).2;rw [HH.out] at this;cases this
     have HXm:=hidK hx;have HNm:=hidK hn;clear hx hn hh z0 z1 hmr;by_cases hz : m.z = v.z
     ·have q1:=tl_yes hz;have HZ:=hidK hz;clear hz;obtain ⟨k0,k1,k2,k3,k4,k5⟩:=cs6 Bk.out;have ltk_1:=lt_of_some Bk.out;obtain ⟨v0,v1,v2,v3,v4,v5,v6,v7⟩:=cs8 Bv.out;have ltv_1:=lt_of_some Bv.out;go_wp2_with fail;refine ⟨⟨kq + 1,by omega,by go_num,fun j s hj hs => ?_,HBW1.out.alloc HBW1.out.size _⟩,by simp [intOf];omega⟩;by_cases e : j = kq
      ·subst e;rw [HXt.out] at hs;obtain rfl:=Option.some.inj hs;exact ⟨_,m,HXm.out,HNm.out,HZ.out⟩
      ·exact HQ2.out j s qqd1 hs
     ·have q1:=tl_no hz;have HZ:=hidK hz;clear hz;obtain ⟨k0,k1,k2,k3,k4,k5⟩:=cs6 Bk.out;have ltk_1:=lt_of_some Bk.out;obtain ⟨v0,v1,v2,v3,v4,v5,v6,v7⟩:=cs8 Bv.out;have ltv_1:=lt_of_some Bv.out;go_wp2;go_ret;refine BoolB.f (fun h => ?_) (HB.out.alloc HB.out.size _);obtain ⟨i,m2,e1,e2,e3⟩:=(h.1 k v HXv.out) kq t HXt.out;obtain ⟨_,rfl⟩:=HNR.out.inj e1 HXm.out (e2.trans HNm.out.symm);exact HZ.out e3
    ·exact qqa45
  ·obtain rfl : l3 = k:=qqd1
   have HQ1 : Hid (∀ (j : Nat) z,c.vs[j]? = some z → AQ1 c z):=fun j z hz => HQ.out j z qqd4 hz;clear HQ;have kc : wr.cell? ⟨w.heap.size,0,none⟩ = some (.slice a1 l1 y1):=cellK Bk.out 0;have kl : w.heap.size < wr.heap.size:=lt_of_some Bk.out;go_wp2;go_loopw [45] (fun i wr => ∃ k : Nat,k ≤ l1 ∧ i = .int .i64 k ∧ Hid (∀ (j : Nat) z,j < k → c.ns[j]? = some z → AQ2 c z) ∧ Hid (Below w.heap.size w wr) ∧ Hid (wr.heap[w.heap.size]? = some (.cells #[.slice a1 l1 y1,.slice a2 l2 y2,.slice a3 l3 y3,.slice a4 l4 y4,.slice a5 l5 y5,.int .i64 c.now] 36 (0,0)))) (fun i _ => l1 - (intOf i).toNat);case atStart => exact ⟨0,by omega,rfl,fun _ _ h => absurd h qqd1,HB.out,Bk.out⟩
   case round =>
    obtain ⟨k,hk,rfl,HQ,HB,Bk⟩:=hrel;by_cases hlt : k < l1
    ·obtain ⟨b,o,n,rfl,hb,hx,hat⟩:=nd_at (HR.out.n.below HB.out) hlt;obtain ⟨va,vl,vc,hvr,z0,z1,c0,c1,c2,c3,c4,c5,c6⟩:=nd_cells hat;obtain ⟨HXn,HTn,HZn0,HZn1⟩:=qqb79;clear hat hx z0 z1 hvr;obtain ⟨GK,GR,HW⟩:=qqb17;obtain ⟨k0,k1,k2,k3,k4,k5⟩:=sl6 GK;obtain ⟨r0,r1,r2,r3,r4,r5,r6⟩:=sl7 GR;have hne0:=Wd.ne (wr.alloc (.cells #[.string n.n,.string n.z,.int .i64 n.c,.int .i64 n.s,.int .i64 n.u,.bool n.d,.slice va vl vc] 82));have HC:=hidK (fun q : Wd (wr.alloc (.cells #[.string n.n,.string n.z,.int .i64 n.c,.int .i64 n.s,.int .i64 n.u,.bool n.d,.slice va vl vc] 82)) => iusedSlots_any ⟨(some ⟨b,o,none⟩),l1,y1,a2,l2,y2,a3,l3,y3,a4,l4,y4,a5,l5,y5⟩ c.now c.vs n.n q.w (HR.out.v.below (HW.out.trans (q.b.mono HW.out.size))) HL3.out);go_wp2_with fail;refine wp_region_wide qqd2 qqd2 ?_;repeat (go_big_quiet_step (first | (go_at_call 137;exact Calls.wide (HC.out _)) | fail))
     refine wpQuiet_nil ?_;rintro _ ⟨q,rfl⟩;have HB2:=upB HW q.b;have Bk2:=upK GK q.b;clear HC hne0 k0 k1 k2 k3 k4 k5 r0 r1 r2 r3 r4 r5 r6 c0 c1 c2 c3 c4 c5 c6 hb HB Bk HW GK GR;have HB:=HB2;have Bk:=Bk2;clear HB2 Bk2;by_cases hq : onOf n.n c.vs ≤ n.s
     ·exact qqa69
     ·have HQ2:=hidK hq;go_wp2;go_ret;exact BoolB.f (fun h => by have h1 : onOf n.n c.vs ≤ n.s:=(h.2 k n HXn.out);have h2:=HQ2.out;omega) HB.out
    ·obtain rfl : l1 = k:=qqd1
     have HQ2 : Hid (∀ (j : Nat) z,c.ns[j]? = some z → AQ2 c z):=fun j z hz => HQ.out j z qqd4 hz;exact qqa84

def MQ2 (c : Cl) (p : Pd) : Prop:=p.p = 2 → RunI c p
def MountedI (c : Cl) : Prop:=(∀ (j : Nat) z,c.ns[j]? = some z → MntI c z) ∧ (∀ (j : Nat) z,c.ps[j]? = some z → MQ2 c z)

theorem imounted_any (d : Ad) (c : Cl) (w : World) (hr : ClRow w d c.raw) (hn : RisBy Nd.n c.ns) (hx : RisBy Xd.n c.xs) (hv : RisBy Vd.n c.vs) (hne : ∀ (j : Nat) v,c.vs[j]? = some v → ¬ v.n = ⟨#[]⟩) :
  Calls Tryz.prog 102 #[.agg #[.slice d.a1 d.l1 d.c1,.slice d.a2 d.l2 d.c2,.slice d.a3 d.l3 d.c3,.slice d.a4 d.l4 d.c4,.slice d.a5 d.l5 d.c5,.int .i64 c.now]] w (BoolB (MountedI c) w):=by
 obtain ⟨a1,l1,y1,a2,l2,y2,a3,l3,y3,a4,l4,y4,a5,l5,y5⟩:=d;dsimp only;obtain ⟨HR,hl1,hm1,hl2,hm2,hl3,hm3,hl4,hm4,hl5,hm5⟩:=qqb1;clear hr;have HNR:=hidK hn;have HXR:=hidK hx;have HVR:=hidK hv;have HNE:=hidK hne;clear hn hx hv hne;go_enter Tryz.func102,Tryz.ntmps102;go_wp2;go_loopw [10] (fun i wr => ∃ k : Nat,k ≤ l1 ∧ i = .int .i64 k ∧ Hid (∀ (j : Nat) z,j < k → c.ns[j]? = some z → MntI c z) ∧ Hid (Below w.heap.size w wr) ∧ Hid (wr.heap[w.heap.size]? = some (.cells #[.slice a1 l1 y1,.slice a2 l2 y2,.slice a3 l3 y3,.slice a4 l4 y4,.slice a5 l5 y5,.int .i64 c.now] 36 (0,0)))) (fun i _ => l1 - (intOf i).toNat);case atStart => exact ⟨0,by omega,rfl,fun _ _ h => absurd h qqd1,below1 _ _,Array.getElem?_push_size⟩
 case round =>
  obtain ⟨k,hk,rfl,HQ,HB,Bk⟩:=hrel;by_cases hlt : k < l1
  ·obtain ⟨b,o,n,rfl,hb,hx,hat⟩:=nd_at (HR.out.n.below HB.out) hlt;obtain ⟨va,vl,vc,hvr,z0,z1,c0,c1,c2,c3,c4,c5,c6⟩:=nd_cells hat;obtain ⟨HXn,HTn,HZn0,HZn1⟩:=qqb79;clear hat hx z0 z1 hvr;obtain ⟨k0,k1,k2,k3,k4,k5⟩:=cs6 Bk.out;have ltk_0:=lt_of_some Bk.out;go_wp2_with fail;refine (imnt_any ⟨(some ⟨b,o,none⟩),l1,y1,a2,l2,y2,a3,l3,y3,a4,l4,y4,a5,l5,y5⟩ c n va vl vc _ (HR.out.below (HB.out.trans ((below1 _ _).mono HB.out.size))) HVR.out (HTn.out.below (below1 _ _))).mono ?_;rintro e w2 ⟨r,rfl,hi,hb3⟩;clear k0 k1 k2 k3 k4 k5 ltk_0;obtain ⟨HA0,hbx⟩:=slots1 hb3;replace Bk:=upK Bk hbx;have Br:=hidK HA0;replace HB:=upB HB hbx;clear hb3 hbx HA0;have HI:=hidK hi;clear hi hb c0 c1 c2 c3 c4 c5 c6;cases r
   ·go_wp2;go_ret;exact BoolB.f (fun h => by have:=HI.out.2 (h.1 k n HXn.out);cases this) HB.out
   ·go_wp2_with fail;refine ⟨⟨k + 1,by omega,by go_num,fun j z hj hz => ?_,HB.out,Bk.out⟩,by simp [intOf];omega⟩;by_cases e : j = k
    ·subst e;rw [HXn.out] at hz;obtain rfl:=Option.some.inj hz;exact HI.out.1 qqd5
    ·exact HQ.out j z qqd1 hz
  ·obtain rfl : l1 = k:=qqd1
   have HQ1 : Hid (∀ (j : Nat) z,c.ns[j]? = some z → MntI c z):=fun j z hz => HQ.out j z qqd4 hz;clear HQ;have kc : wr.cell? ⟨w.heap.size,4,none⟩ = some (.slice a5 l5 y5):=cellK Bk.out 4;have kl : w.heap.size < wr.heap.size:=lt_of_some Bk.out;go_wp2;go_loopw [22] (fun i wr => ∃ k : Nat,k ≤ l5 ∧ i = .int .i64 k ∧ Hid (∀ (j : Nat) z,j < k → c.ps[j]? = some z → MQ2 c z) ∧ Hid (Below w.heap.size w wr) ∧ Hid (wr.heap[w.heap.size]? = some (.cells #[.slice a1 l1 y1,.slice a2 l2 y2,.slice a3 l3 y3,.slice a4 l4 y4,.slice a5 l5 y5,.int .i64 c.now] 36 (0,0)))) (fun i _ => l5 - (intOf i).toNat);case atStart => exact ⟨0,by omega,rfl,fun _ _ h => absurd h qqd1,HB.out,Bk.out⟩
   case round =>
    obtain ⟨k,hk,rfl,HQ,HB,Bk⟩:=hrel;by_cases hlt : k < l5
    ·obtain ⟨b,o,p,rfl,hb,hx,hat⟩:=pd_at (HR.out.p.below HB.out) hlt;obtain ⟨va,vl,vc,hvr,z0,z2,z4,c0,c1,c2,c3,c4,c5⟩:=pd_cells hat;have HXp:=hidK hx;have HTp:=hidK hvr;have HZp0:=hidK z0;have HZp2:=hidK z2;have HZp4:=hidK z4;clear hat hx z0 z2 z4 hvr;by_cases hp2 : p.p = 2;rotate_left
     ·have HP2:=hidK hp2;obtain ⟨k0,k1,k2,k3,k4,k5⟩:=cs6 Bk.out;have ltk_0:=lt_of_some Bk.out;go_wp2;refine ⟨⟨k + 1,by omega,by go_num,fun j z hj hz => ?_,(HB.out.alloc HB.out.size _),(Below.heap_alloc _ _ _ (lt_of_some Bk.out)).trans Bk.out⟩,by simp [intOf];omega⟩;exact qqa96
     have HP2:=hidK hp2;rw [hp2] at c5;clear hp2;obtain ⟨k0,k1,k2,k3,k4,k5⟩:=cs6 Bk.out;have ltk_0:=lt_of_some Bk.out;go_wp2_with fail;have HCall:=hidK (irun_any ⟨a1,l1,y1,a2,l2,y2,a3,l3,y3,a4,l4,y4,(some ⟨b,o,none⟩),l5,y5⟩ c p va vl vc (wr.alloc (.cells #[.string p.n,.int .i64 p.c,.string p.z,.slice va vl vc,.string p.d,.int .i64 2] 69)) (HR.out.below (HB.out.trans ((below1 _ _).mono HB.out.size))) HNR.out HXR.out HVR.out HNE.out (HTp.out.below (below1 _ _)));rw [HP2.out] at HCall;refine (HCall.out).mono ?_;rintro e w2 ⟨r,rfl,hi,hb3⟩;clear k0 k1 k2 k3 k4 k5 ltk_0;obtain ⟨HA0,hbx⟩:=slots1 hb3;replace Bk:=upK Bk hbx;have Br:=hidK HA0;replace HB:=upB HB hbx;clear hb3 hbx HA0;have HI:=hidK hi;clear hi hb HCall c0 c1 c2 c3 c4 c5;cases r
     ·go_wp2;go_ret;exact BoolB.f (fun h => by have:=HI.out.2 ((h.2 k p HXp.out) HP2.out);cases this) HB.out
     ·go_wp2_with fail;refine ⟨⟨k + 1,by omega,by go_num,fun j z hj hz => ?_,HB.out,Bk.out⟩,by simp [intOf];omega⟩;by_cases e : j = k
      ·subst e;rw [HXp.out] at hz;obtain rfl:=Option.some.inj hz;exact fun _ => HI.out.1 qqd5
      ·exact HQ.out j z qqd1 hz
    ·obtain rfl : l5 = k:=qqd1
     have HQ2 : Hid (∀ (j : Nat) z,c.ps[j]? = some z → MQ2 c z):=fun j z hz => HQ.out j z qqd4 hz;exact qqa84

def RowsOk (c : Cl) : Prop:=RowOk ndOk Nd.n c.ns 6 ∧ RowOk kdOk Kd.n c.ks 8 ∧ RowOk vdOk Vd.n c.vs 8 ∧ RowOk xdOk Xd.n c.xs 8 ∧ RowOk pdOk Pd.n c.ps 8
def RightI (c : Cl) : Prop:=Inn c.now 0 1000000 ∧ RowsOk c ∧ BoundI c ∧ PlacedI c ∧ AttachedI c ∧ MountedI c

theorem irows_any (d : Ad) (c : Cl) (w : World) (hr : ClRow w d c.raw) :
  Calls Tryz.prog 98 #[.agg #[.slice d.a1 d.l1 d.c1,.slice d.a2 d.l2 d.c2,.slice d.a3 d.l3 d.c3,.slice d.a4 d.l4 d.c4,.slice d.a5 d.l5 d.c5,.int .i64 c.now]] w (BoolB (RowsOk c) w):=by
 obtain ⟨HR,HB⟩:=qqb70;clear hr;go_enter Tryz.func98,Tryz.ntmps98;go_wp2_with fail;refine (rowrnd_any _ _ _ c.ns 6 _ (HR.out.n.below (HB.out.trans ((below1 _ _).mono HB.out.size)))).mono ?_;rintro e w1 ⟨r,rfl,hi,hb⟩;obtain ⟨HA0,hbx⟩:=slots1 hb;have Bk:=hidK HA0;replace HB:=upB HB hbx;clear hb hbx HA0;have HI1:=hidK hi;clear hi;cases r
 ·exact qqa59
 obtain ⟨k0,k1,k2,k3,k4,k5⟩:=cs6 Bk.out;have ltk_1:=lt_of_some Bk.out;go_wp2_with fail;refine (rowrkd_any _ _ _ c.ks 8 _ (HR.out.k.below HB.out)).mono ?_;rintro e w2 ⟨r,rfl,hi,hb⟩;clear k0 k1 k2 k3 k4 k5 ltk_1;replace Bk:=upK Bk hb;replace HB:=upB HB hb;clear hb;have HI2:=hidK hi;clear hi;cases r
 ·exact qqa58
 obtain ⟨k0,k1,k2,k3,k4,k5⟩:=cs6 Bk.out;have ltk_2:=lt_of_some Bk.out;go_wp2_with fail;refine (rowrvd_any _ _ _ c.vs 8 _ (HR.out.v.below HB.out)).mono ?_;rintro e w3 ⟨r,rfl,hi,hb⟩;clear k0 k1 k2 k3 k4 k5 ltk_2;replace Bk:=upK Bk hb;replace HB:=upB HB hb;clear hb;have HI3:=hidK hi;clear hi;cases r
 ·exact qqa91
 obtain ⟨k0,k1,k2,k3,k4,k5⟩:=cs6 Bk.out;have ltk_3:=lt_of_some Bk.out;go_wp2_with fail;refine (rowrxd_any _ _ _ c.xs 8 _ (HR.out.x.below HB.out)).mono ?_;rintro e w4 ⟨r,rfl,hi,hb⟩;clear k0 k1 k2 k3 k4 k5 ltk_3;replace Bk:=upK Bk hb;replace HB:=upB HB hb;clear hb;have HI4:=hidK hi;clear hi;cases r
 ·exact qqa89
 obtain ⟨k0,k1,k2,k3,k4,k5⟩:=cs6 Bk.out;have ltk_4:=lt_of_some Bk.out;go_wp2_with fail;refine (rowrpd_any _ _ _ c.ps 8 _ (HR.out.p.below HB.out)).mono ?_;rintro e w5 ⟨r,rfl,hi,hb⟩;clear k0 k1 k2 k3 k4 k5 ltk_4;replace Bk:=upK Bk hb;replace HB:=upB HB hb;clear hb;have HI5:=hidK hi;clear hi;cases r
 ·obtain ⟨k0,k1,k2,k3,k4,k5⟩:=cs6 Bk.out;have ltk_5:=lt_of_some Bk.out;go_wp2;go_ret;exact BoolB.f (fun h => by have:=HI5.out.2 h.2.2.2.2;cases this) HB.out
 go_wp2;go_ret;exact BoolB.t ⟨HI1.out.1 qqd5,HI2.out.1 qqd5,HI3.out.1 qqd5,HI4.out.1 qqd5,HI5.out.1 qqd5⟩ HB.out

theorem RowsOk.ne {c : Cl} (h : RowsOk c) (j : Nat) (v : Vd) (hv : c.vs[j]? = some v) : ¬ v.n = ⟨#[]⟩:=fun e => by
 have h1:=(h.2.2.1.2.1 j v hv).1.1;rw [e] at h1;exact absurd h1 qqd3
theorem RowsOk.cpu {c : Cl} (h : RowsOk c) (j : Nat) (p : Pd) (hp : c.ps[j]? = some p) : 0 ≤ p.c ∧ p.c ≤ 1000000:=(h.2.2.2.2.2.1 j p hp).2.1

theorem iright_any (d : Ad) (c : Cl) (w : World) (hr : ClRow w d c.raw) (hG : ens w) :
  Calls Tryz.prog 66 #[.agg #[.slice d.a1 d.l1 d.c1,.slice d.a2 d.l2 d.c2,.slice d.a3 d.l3 d.c3,.slice d.a4 d.l4 d.c4,.slice d.a5 d.l5 d.c5,.int .i64 c.now]] w (BoolB (RightI c) w):=by
 obtain ⟨HR,HE,HB⟩:=qqb74;clear hr hG;go_enter Tryz.func66,Tryz.ntmps66;go_wp2_with fail;refine (kwithin_any c.now 0 1000000 _).mono ?_;rintro e w1 ⟨r,rfl,hi,hw⟩;have hb : Below (w.alloc (.cells #[.slice d.a1 d.l1 d.c1,.slice d.a2 d.l2 d.c2,.slice d.a3 d.l3 d.c3,.slice d.a4 d.l4 d.c4,.slice d.a5 d.l5 d.c5,.int .i64 c.now] 36)).heap.size (w.alloc (.cells #[.slice d.a1 d.l1 d.c1,.slice d.a2 d.l2 d.c2,.slice d.a3 d.l3 d.c3,.slice d.a4 d.l4 d.c4,.slice d.a5 d.l5 d.c5,.int .i64 c.now] 36)) w1:=by first | (rw [hw];exact Below.refl _ _) | (rw [← hw];exact Below.refl _ _)
 clear hw;obtain ⟨HA0,hbx⟩:=slots1 hb;have Bk:=hidK HA0;replace HB:=upB HB hbx;clear hb hbx HA0;have HI1:=hidK hi;clear hi;cases r
 ·exact qqa59
 obtain ⟨k0,k1,k2,k3,k4,k5⟩:=cs6 Bk.out;have ltk_1:=lt_of_some Bk.out;go_wp2_with fail;refine (irows_any d c _ (HR.out.below HB.out)).mono ?_;rintro e w2 ⟨r,rfl,hi,hb⟩;clear k0 k1 k2 k3 k4 k5 ltk_1;replace Bk:=upK Bk hb;replace HB:=upB HB hb;clear hb;have HI2:=hidK hi;clear hi;cases r
 ·exact qqa58
 have HOK:=hidK (HI2.out.1 qqd5);obtain ⟨k0,k1,k2,k3,k4,k5⟩:=cs6 Bk.out;have ltk_2:=lt_of_some Bk.out;go_wp2_with fail;refine (ibound_any d c _ (HR.out.below HB.out) HOK.out.2.2.2.1.2.2 HOK.out.2.2.1.2.2 (HE.out.below HB.out)).mono ?_;rintro e w3 ⟨r,rfl,hi,hb⟩;clear k0 k1 k2 k3 k4 k5 ltk_2;replace Bk:=upK Bk hb;replace HB:=upB HB hb;clear hb;have HI3:=hidK hi;clear hi;cases r
 ·exact qqa91
 obtain ⟨k0,k1,k2,k3,k4,k5⟩:=cs6 Bk.out;have ltk_3:=lt_of_some Bk.out;go_wp2_with fail;refine (iplaced_any d c _ (HR.out.below HB.out) HOK.out.1.2.2 HOK.out.2.2.2.1.2.2 HOK.out.2.2.1.2.2 HOK.out.ne (by have:=HOK.out.2.2.2.2.1;omega) HOK.out.cpu (HE.out.below HB.out)).mono ?_;rintro e w4 ⟨r,rfl,hi,hb⟩;clear k0 k1 k2 k3 k4 k5 ltk_3;replace Bk:=upK Bk hb;replace HB:=upB HB hb;clear hb;have HI4:=hidK hi;clear hi;cases r
 ·exact qqa89
 obtain ⟨k0,k1,k2,k3,k4,k5⟩:=cs6 Bk.out;have ltk_4:=lt_of_some Bk.out;go_wp2_with fail;refine (iattached_any d c _ (HR.out.below HB.out) HOK.out.1.2.2 (by have:=HOK.out.2.2.1.1;omega)).mono ?_;rintro e w5 ⟨r,rfl,hi,hb⟩;clear k0 k1 k2 k3 k4 k5 ltk_4;replace Bk:=upK Bk hb;replace HB:=upB HB hb;clear hb;have HI5:=hidK hi;clear hi;cases r
 ·exact qqa87
 obtain ⟨k0,k1,k2,k3,k4,k5⟩:=cs6 Bk.out;have ltk_5:=lt_of_some Bk.out;go_wp2_with fail;refine (imounted_any d c _ (HR.out.below HB.out) HOK.out.1.2.2 HOK.out.2.2.2.1.2.2 HOK.out.2.2.1.2.2 HOK.out.ne).mono ?_;rintro e w6 ⟨r,rfl,hi,hb⟩;clear k0 k1 k2 k3 k4 k5 ltk_5;replace Bk:=upK Bk hb;replace HB:=upB HB hb;clear hb;have HI6:=hidK hi;clear hi;cases r
 ·exact qqa88
 go_wp2;go_ret;exact BoolB.t ⟨HI1.out.1 qqd5,HI2.out.1 qqd5,HI3.out.1 qqd5,HI4.out.1 qqd5,HI5.out.1 qqd5,HI6.out.1 qqd5⟩ HB.out

end Rc
end Go.Proofs.YtpibkpofdbjdaaaGreatDoor

import Derived.Lib.ItoaNum
import Derived.Test.YtdoldaceehdifaaGreatDoorRows
import Derived.WalkKit
import Derived.WalkSpells
import Derived.OwnWalk
import Derived.Outline
import Derived.Laws.Cover1
import Derived.Lib.BufferWrite
import Derived.Laws.CopyOwn
import Derived.Deep.QuietTactic
import Derived.BigQuiet
import Derived.WalkSmall
import Derived.Laws.IdiomStrings
import Derived.Deep.RegionWith
/-
 The mathematics of numbers in digits: what digits say, and that digits are got back.
-/
set_option maxRecDepth 100000
set_option maxHeartbeats 12800000
namespace Go.Proofs.YtdoldaceehdifaaGreatDoor
theorem af {p : Prop} (h : p:=by omega) : p:=h
theorem av {p : Prop} (h : p:=by kernel_rfl) : p:=h
theorem cG {p : Prop} (h : p:=by have:=(List.getElem?_eq_some_iff.1 hz).1;omega) : p:=h
theorem cd {p : Prop} (h : p:=by unfold maxLen;omega) : p:=h
theorem aN {p : Prop} (h : p:=by simp) : p:=h
theorem bF {p : Prop} (h : p:=by simp;omega) : p:=h
theorem cY {p : Prop} (h : p:=by simpa using hr.1) : p:=h
theorem bM {p : Prop} (h : p:=by cases h) : p:=h
theorem mU {p : Prop} (h : p:=by rw [List.getElem?_take,if_pos hij];exact List.getElem?_eq_getElem _) : p:=h
theorem ke {p : Prop} (h : p:=by have:=(List.getElem?_eq_some_iff.1 hy).1;omega) : p:=h
theorem mQ {p : Prop} (h : p:=by rw [List.getElem?_take,if_pos hij];exact hp) : p:=h
theorem iR {p : Prop} (h : p:=by simp [World.setCell];omega) : p:=h
theorem fL {p : Prop} (h : p:=by rw [hz2];omega) : p:=h
theorem g8 {p : Prop} (h : p:=by simpa using hz) : p:=h
theorem gZ {p : Prop} (h : p:=by simpa using h) : p:=h
end Go.Proofs.YtdoldaceehdifaaGreatDoor
namespace Go.Proofs.YtdoldaceehdifaaGreatDoor
theorem uC {p : Prop} (h : p:=by
 go_wp2_with fail;refine ⟨⟨k + 1,x.n,by omega,rfl,by go_num,fun h => absurd h af,fun z _ hz => ?_,fun j z hj hz => ?_,fun j z u hj hz hu => ?_,HB4.out⟩,by simp [intOf];omega⟩
 ·rw [Nat.add_sub_cancel,HX.out] at hz;rw [Option.some.inj hz]
 ·by_cases e : j = k
  ·subst e;rw [HX.out] at hz;obtain rfl:=Option.some.inj hz;exact HOK.out
  ·exact HE.out j z af hz
 ·by_cases e : j + 1 = k
  ·subst e;rw [HX.out] at hz;obtain rfl:=Option.some.inj hz;have:=H1.out u af (by rw [Nat.add_sub_cancel];exact hu);rw [this];exact hless
  ·exact HO.out j z u af hz hu) : p:=h
theorem eF {p : Prop} (h : p:=by
 obtain ⟨HN,hrf⟩:=dB;clear hr;go_wp2_with fail;go_ret;exact ⟨false,rfl,⟨fun h => bM,fun h => (HN.out (h.1)).elim⟩,an _ _⟩) : p:=h
theorem nG {p : Prop} (h : p:=by
 rw [hless] at htri;go_wp2;go_ret;refine ar.f (fun h => ?_) HB3.out;by_cases hk0 : 0 < k
 ·have hz : xs[k - 1]? = some (xs[k - 1]'(by omega)):=List.getElem?_eq_getElem _;have h2:=H1.out _ hk0 hz;have h3:=h.2.2 (k - 1) x _ (by rw [Nat.sub_add_cancel hk0];exact HX.out) hz;rw [h2,hless] at h3;cases h3
 ·have:=H0.out af;subst this;have hnm : 1 ≤ x.n.size:=HOK.out.1.1;rw [nU hnm] at hless;cases hless) : p:=h
theorem nF {p : Prop} (h : p:=by
 by_cases hn : x.n = t
 ·have hq:=aV hn;have HN:=ae hn;clear hn;go_wp2;go_ret;exact ⟨an _ _,.inl ⟨k,x,HX.out,HN.out,rfl⟩⟩
 ·have hq:=bo hn;have HN:=ae hn;clear hn;go_wp2;refine ⟨⟨k + 1,by omega,by go_num,by rw [ha],fun j z hj hz => ?_⟩,by simp [intOf];omega⟩;exact vM) : p:=h
theorem fP {p : Prop} (h : p:=by
 obtain ⟨HN,hrf⟩:=dB;clear hr;go_wp2_with fail;go_ret;exact ⟨false,rfl,⟨fun h => bM,fun h => (HN.out (h.2.2.1)).elim⟩,an _ _⟩) : p:=h
theorem fO {p : Prop} (h : p:=by
 obtain ⟨HN,hrf⟩:=dB;clear hr;go_wp2_with fail;go_ret;exact ⟨false,rfl,⟨fun h => bM,fun h => (HN.out (h.2.1)).elim⟩,an _ _⟩) : p:=h
theorem Bu {p : Prop} (h : p:=by
 have e : aE a0 (knAll [] front φs) (fun t => a.tmps.getD t undef) = a:=by
  refine zW ((cR _ _ _).trans h.size.symm) ((cS _ _ _).trans h.defers.symm) (fun t => fQ a0 a _ (fun p hp => ?_) t (fun hn => ?_))
  ·rcases c_ front φs [] hp with ⟨i,o,h1,h2,h3⟩ | h1
   ·exact hin o (List.mem_of_getElem? h1) _ h2
   ·simp at h1
  ·refine h.other t (fun i o ho hd => ?_);exfalso;have hi:=(List.getElem?_eq_some_iff.1 ho).1;have hφ : φs[i]? = some (φs[i]'(by omega)):=List.getElem?_eq_getElem _;cases hk : (knAll [] front φs).lookup t with
   | none => exact (bY front φs [] hk).2 i o _ ho hφ hd
   | some φ =>
    have : ∃ p ∈ knAll [] front φs,p.1 = t:=by
     revert hk
     generalize knAll [] front φs = l
     intro hk
     induction l with
     | nil => simp at hk
     | cons p l ih =>
      rw [List.lookup_cons] at hk
      cases hb : t == p.1 with
      | true => exact ⟨p,by simp,(by simpa using hb : t = p.1).symm⟩
      | false =>
       rw [hb] at hk;obtain ⟨q,hq,he⟩:=ih hk;exact ⟨q,by simp [hq],he⟩
    obtain ⟨p,hp,he⟩:=this;exact hn p hp he
 rw [e] at h1;exact h1) : p:=h
theorem kv {p : Prop} (h : p:=by
 obtain ⟨HN,hrf⟩:=dB;clear hr;go_wp2_with fail;go_ret;exact ⟨false,rfl,⟨fun h => bM,fun h => (HN.out (h.2.2.2.1)).elim⟩,an _ _⟩) : p:=h
theorem nC {p : Prop} (h : p:=by
 obtain rfl : k = len:=af
 go_wp2;go_ret;refine ar.t ⟨by omega,fun j z hz => HE.out j z cG hz,fun j z u hz hu => HO.out j z u cG hz hu⟩ HB.out) : p:=h
theorem nB {p : Prop} (h : p:=by
 go_wp2_with fail;refine ⟨⟨k + 1,by omega,by go_num,fun j y hj hy => ?_,HB2.out⟩,by simp [intOf];omega⟩;by_cases e : j = k
 ·subst e;rw [HX.out] at hy;obtain rfl:=Option.some.inj hy;exact hless
 ·exact HE.out j y af hy) : p:=h
theorem nA {p : Prop} (h : p:=by
 obtain ⟨HN,hrf⟩:=dB;clear hr;go_wp2_with fail;go_ret;exact ⟨false,rfl,⟨fun h => bM,fun h => (HN.out (h.2.2.2.2.1)).elim⟩,an _ _⟩) : p:=h
theorem uU {p : Prop} (h : p:=by
 rcases hr with rfl | ⟨hr0,hr1,hvl2⟩
 ·go_wp2;go_ret;exact ⟨-1,rfl,.inl rfl,HB2.out⟩
 ·go_wp2;refine ⟨⟨k + 1,r,by omega,by go_num,by go_num,by omega,by omega,fun j x hj hx => ?_,HB2.out⟩,by simp [intOf];omega⟩;by_cases e : j = k
  ·subst e;rw [HV.out] at hx;obtain rfl:=Option.some.inj hx;rw [HT.out.1];exact hvl2
  ·exact HE.out j x af hx) : p:=h
theorem uO {p : Prop} (h : p:=by
 obtain ⟨φ,hφ,ho,hr⟩:=h;obtain ⟨φs,hl,hs,hf⟩:=aw.spec l _ hr;refine ⟨φ :: φs,by simp [hl],?_,hf⟩;intro i o' φ' h1 h2;cases i with
 | zero =>
  simp only [List.getElem?_cons_zero,Option.some.injEq] at h1 h2;subst h1;subst h2;exact ⟨hφ,ho⟩
 | succ i =>
  simp only [List.getElem?_cons_succ] at h1 h2
  simpa [knAll] using hs i o' φ' h1 h2) : p:=h
theorem Bm {p : Prop} (h : p:=by
 have F3 : Hid (∀ w,Calls Tryz.prog 189 #[.string k] w fun e w' => e = .returned (.bool false) ∧ w' = w):=fun w => (aW k w hk).mono fun _ _ h => h.no p3;have HP:=ae p3;clear p3;go_enter Tryz.func197,Tryz.ntmps197;go_wp2_with fail;go_quiet ((first | (go_at_call_of 189 (Value.string n);exact Calls.quiet_of_same (F0.out _)) | (go_at_call_of 46 (Value.int .i64 c);exact Calls.quiet_of_same (F1.out _)) | (go_at_call_of 189 (Value.string z);exact Calls.quiet_of_same (F2.out _)) | (go_at_call_of 189 (Value.string k);exact Calls.quiet_of_same (F3.out _))));go_wp2_with fail;go_ret;exact ⟨false,rfl,⟨fun h => bM,fun h => (HP.out (h.2.2.2.1)).elim⟩,below_drewN (an _ _) _⟩) : p:=h
theorem Bl {p : Prop} (h : p:=by
 have F2 : Hid (∀ w,Calls Tryz.prog 189 #[.string z] w fun e w' => e = .returned (.bool false) ∧ w' = w):=fun w => (aW z w hz).mono fun _ _ h => h.no p2;have HP:=ae p2;clear p2;go_enter Tryz.func197,Tryz.ntmps197;go_wp2_with fail;go_quiet ((first | (go_at_call_of 189 (Value.string n);exact Calls.quiet_of_same (F0.out _)) | (go_at_call_of 46 (Value.int .i64 c);exact Calls.quiet_of_same (F1.out _)) | (go_at_call_of 189 (Value.string z);exact Calls.quiet_of_same (F2.out _))));go_wp2_with fail;go_ret;exact ⟨false,rfl,⟨fun h => bM,fun h => (HP.out (h.2.2.1)).elim⟩,below_drewN (an _ _) _⟩) : p:=h
theorem ny {p : Prop} (h : p:=by
 refine wpQuiet_nil ?_;rintro _ ⟨q,rfl⟩;go_wp2_with fail;exact ⟨⟨k + 1,by omega,by go_num,HB.out.trans (q.b.mono HB.out.size)⟩,by simp [intOf];omega⟩) : p:=h
theorem Be {p : Prop} (h : p:=by
 have F1 : Hid (∀ w,Calls Tryz.prog 46 #[.int .i64 c,.int .i64 1,.int .i64 1048576] w fun e w' => e = .returned (.bool false) ∧ w' = w):=fun w => (bO c 1 1048576 w).mono fun _ _ h => h.no p1;have HP:=ae p1;clear p1;go_enter Tryz.func197,Tryz.ntmps197;go_wp2_with fail;go_quiet ((first | (go_at_call_of 189 (Value.string n);exact Calls.quiet_of_same (F0.out _)) | (go_at_call_of 46 (Value.int .i64 c);exact Calls.quiet_of_same (F1.out _))));go_wp2_with fail;go_ret;exact ⟨false,rfl,⟨fun h => bM,fun h => (HP.out (h.2.1)).elim⟩,below_drewN (an _ _) _⟩) : p:=h
theorem Bd {p : Prop} (h : p:=by
 intro j o ho t ht i p hp hd;have hj : j < front.length:=(List.getElem?_eq_some_iff.1 ho).1;have hi : i < front.length:=(List.getElem?_eq_some_iff.1 hp).1;have:=List.all_eq_true.1 h3 j (List.mem_range.2 hj);rw [ho] at this;have:=List.all_eq_true.1 this t ht;have:=List.all_eq_true.1 this i (List.mem_range.2 hi);rw [hp] at this;simp only [hd,bne_self_eq_false,Bool.false_or,Bool.and_eq_true,decide_eq_true_eq] at this;exact vX) : p:=h
theorem nu {p : Prop} (h : p:=by
 obtain ⟨b,o,r,h1,h2,h3,h4⟩:=h.at hj;rw [List.getElem?_map] at h3;obtain ⟨x,h5,rfl⟩:=Option.map_eq_some_iff.1 h3;exact ⟨b,o,x,h1,h2,h5,h4⟩) : p:=h
theorem nt {p : Prop} (h : p:=by
 rintro e w1 ⟨r,rfl,hr1,hb⟩;have HB:=ae (b_ hb).2.1;have HI:=ae hr1;clear hb hr1;go_wp2;go_ret;exact ⟨r,rfl,HI.out,HB.out⟩) : p:=h
theorem A_ {p : Prop} (h : p:=by
 induction known with
 | nil => exact (h (fun p hp => by simp at hp)).symm
 | cons p l ih =>
  have e : aE a0 (p :: l) (fun t => a.tmps.getD t undef) = (aE a0 l (fun t => a.tmps.getD t undef)).put (some p.1) (a.tmps.getD p.1 undef):=rfl;rw [e,ga,cR]
  by_cases hp : p.1 = t
  ·subst hp;rw [if_pos ⟨rfl,hk p aN⟩]
  ·rw [if_neg (fun h => hp h.1)]
   exact ih (fun q hq => hk q (by simp [hq])) (fun hn => h (fun q hq => by
    rcases List.mem_cons.1 hq with rfl | hq
    ·exact hp
    ·exact hn q hq))) : p:=h
theorem nr {p : Prop} (h : p:=by
 go_wp2;go_ret;exact ⟨an _ _,.inr ⟨fun j z hz => HE.out j z cG hz,rfl⟩⟩) : p:=h
theorem A8 {p : Prop} (h : p:=by
 intro t ht;have hne : o.dst ≠ some t:=fun hd => by
  have:=ht j o ho hd;simp [Array.getD_eq_getD_getElem?,hj] at this
 have h1:=h.other t (fun i p hp hd => by
  have h2:=ht i p hp hd;have e : ¬ j = i:=fun e => by subst e;exact hne (by rw [Option.some.inj (ho.symm.trans hp)];exact hd)
  simpa [Array.getD_eq_getD_getElem?,Array.getElem?_setIfInBounds,e] using h2)
 exact vO) : p:=h
theorem A5 {p : Prop} (h : p:=by
 have F0 : Hid (∀ w,Calls Tryz.prog 189 #[.string n] w fun e w' => e = .returned (.bool false) ∧ w' = w):=fun w => (aW n w hn).mono fun _ _ h => h.no p0;have HP:=ae p0;clear p0;go_enter Tryz.func197,Tryz.ntmps197;go_wp2_with fail;go_quiet ((first | (go_at_call_of 189 (Value.string n);exact Calls.quiet_of_same (F0.out _))));go_wp2_with fail;go_ret;exact ⟨false,rfl,⟨fun h => bM,fun h => (HP.out (h.1)).elim⟩,below_drewN (an _ _) _⟩) : p:=h
theorem np {p : Prop} (h : p:=by
 have:=List.count_le_length (a:=false) (l:=(Array.replicate l.toArray.size false).toList);simp at this ⊢) : p:=h
theorem AY {p : Prop} (h : p:=by
 obtain ⟨h1,h2⟩:=bY l φs (kn o.dst ψ known) h;rw [gL] at h1;by_cases hd : o.dst = some t
 ·rw [if_pos hd] at h1;cases h1
 ·rw [if_neg hd] at h1;refine ⟨h1,fun i o' φ h3 h4 => ?_⟩;cases i with
  | zero => simp only [List.getElem?_cons_zero,Option.some.injEq] at h3;subst h3;exact hd
  | succ i => exact h2 i o' φ (by simpa using h3) (by simpa using h4)) : p:=h
theorem rB {p : Prop} (h : p:=by
 go_wp2;go_round;case rel => exact ⟨k + 1,by omega,by go_num,kA hlt HB.out HA.out⟩
 case measure => simp [intOf];omega) : p:=h
theorem AV {p : Prop} (h : p:=by
 obtain ⟨h1,h2⟩:=h;rcases h2 with ⟨h3,_⟩ | ⟨g',cap,cur,hv,hB,hh,_,_,hsz,htk⟩
 ·cases h3
 ·simp only [Value.slice.injEq,Option.some.injEq,Addr.mk.injEq] at hv;obtain ⟨⟨rfl,_,_⟩,_,rfl⟩:=hv;have hl : cur.toList.length ≤ n * 1:=by simp [hsz]
  rw [List.take_of_length_le hl] at htk;subst htk;exact ⟨by simpa using hh,by simpa using hsz,hB⟩) : p:=h
theorem nk {p : Prop} (h : p:=by
 go_wp2;go_ret;exact ar.f (fun h => by have:=HI.out.2 (h.2.1 k x HX.out);cases this) HB2.out) : p:=h
theorem uF {p : Prop} (h : p:=by
 obtain rfl : k = len:=af
 go_wp2;go_ret;exact ⟨m,rfl,.inr ⟨hm0,hm1,by omega,fun j v hv => HE.out j v (by have:=(List.getElem?_eq_some_iff.1 hv).1;omega) hv⟩,HB.out⟩) : p:=h
theorem AT {p : Prop} (h : p:=by
 rcases c_ l φs (kn o.dst ψ known) h with ⟨i,o',h1,h2,h3⟩ | h
 ·exact .inl ⟨i + 1,o',by simpa using h1,h2,by simpa using h3⟩
 ·cases hd : o.dst with
  | none => rw [hd] at h;exact .inr h
  | some d =>
   rw [hd] at h;simp only [kn,List.mem_cons] at h
   rcases h with rfl | h
   ·exact .inl ⟨0,o,rfl,hd,rfl⟩
   ·exact .inr h) : p:=h
theorem AS {p : Prop} (h : p:=by
 go_wp2_with fail;refine (rN a a' len len' cap cap' zs zs _ (HR.out.below (aF _ _ _)) (HR'.out.below (aF _ _ _))).mono ?_;rintro e w1 ⟨r,rfl,hr,hb⟩;obtain rfl : r = true:=hr.2 rfl;clear hr;have HB : Hid (Below w.heap.size w w1):=(aF _ _ _).trans (hb.mono bF);go_wp2_with fail;go_ret;exact ⟨rfl,HB.out⟩) : p:=h
theorem AN {p : Prop} (h : p:=by
 go_wp2_with fail;refine (q_ a len cap zs _ _ (HR.out.below (an _ _)) af af).mono ?_;rintro e w1 ⟨r,rfl,hr,rfl⟩;rcases hr with rfl | ⟨hr0,hr1,hr2⟩
 ·go_wp2;go_ret;exact ⟨-1,rfl,.inl rfl,an _ _⟩
 go_wp2;go_ret;exact ⟨_,rfl,.inr ⟨by omega,by omega,by omega⟩,an _ _⟩) : p:=h
theorem xN {p : Prop} (h : p:=by
 rcases bW l φs (kn o.dst ψ known) h with ⟨i,o',h1,h2,h3⟩ | h
 ·exact .inl ⟨i + 1,o',by simpa using h1,h2,by simpa using h3⟩
 ·rw [gL] at h;by_cases hd : o.dst = some t
  ·rw [if_pos hd] at h;exact .inl ⟨0,o,rfl,hd,by simpa using h⟩
  ·rw [if_neg hd] at h;exact .inr h) : p:=h
theorem xI {p : Prop} (h : p:=by
 intro j o ho e he;have hj : j < (front ++ back.toList).toArray.size:=(Array.getElem?_eq_some_iff.1 ho).1;have:=List.all_eq_true.1 h4 j (List.mem_range.2 hj);rw [ho] at this;have:=Array.all_eq_true.1 this;obtain ⟨k,hk,rfl⟩:=Array.mem_iff_getElem.1 he;simpa using this k hk) : p:=h
theorem jg {p : Prop} (h : p:=by
 go_wp2;go_ret;exact ar.f (fun h => by have:=h.1;omega) (Below.refl _ _)) : p:=h
theorem pZ {p : Prop} (h : p:=by
 cases hk : back with
 | none => rw [hk] at h1;exact h1
 | some o =>
  have h2:=hb o hk;rw [hall _ (by rw [hsz,hk];simp)] at h2
  cases h2) : p:=h
theorem lI {p : Prop} (h : p:=by
 simp only [Bool.and_eq_true,beq_iff_eq] at hx;exact ⟨_,Array.getElem_mem hk,hx.1,hx.2⟩) : p:=h
theorem jf {p : Prop} (h : p:=by
 obtain rfl : k = len:=af
 go_wp2;go_ret;exact ⟨rfl,HB.out⟩) : p:=h
theorem pW {p : Prop} (h : p:=by
 go_wp2_with (go_at_call 42;refine (lM _ _ _ _).mono ?_;rintro e w1 ⟨r,rfl,hr,rfl⟩);go_ret;exact ⟨r,rfl,hr,rfl⟩) : p:=h
theorem xz {p : Prop} (h : p:=by
 exact ag (Nat.le_succ _) (ag (Nat.le_succ _) (ag (Nat.le_succ _) (ag (Nat.le_succ _) (ag (Nat.le_succ _) (ag (Nat.le_succ _) (ag (Nat.le_succ _) (ag (Nat.le_succ _) (HB.out))))))))) : p:=h
theorem xy {p : Prop} (h : p:=by
 obtain ⟨HN,hrf⟩:=dB;clear hsl hb hb1 hr;go_wp2_with fail;go_ret;exact ⟨false,rfl,⟨fun h => bM,fun h => (HN.out (gK h.2.2.2.2.2.2)).elim⟩,HB.out⟩) : p:=h
theorem xw {p : Prop} (h : p:=by
 cases d with
 | none => simp [kn]
 | some d =>
  simp only [kn,Option.some.injEq,List.lookup_cons]
  by_cases h : d = t
  ·subst h;simp
  ·rw [if_neg h]
   have : (t == d) = false:=by simpa using fun e => h e.symm
   rw [this]) : p:=h
theorem xt {p : Prop} (h : p:=by
 exact aQ af (aQ af (aQ af (aQ af (aQ af (aQ af (aQ af (aQ af (aQ af (HG.out)))))))))) : p:=h
theorem xr {p : Prop} (h : p:=by
 exact ag af (ag af (ag af (ag af (ag af (ag af (ag af (ag af (ag af (HB.out)))))))))) : p:=h
theorem xq {p : Prop} (h : p:=by
 obtain ⟨h1,h2,h3,h5⟩:=h;refine ⟨h1,h2,h3,?_⟩;rcases h5 with h5 | ⟨b,o,rfl,hlt,hc⟩
 ·exact Or.inl h5
 ·exact Or.inr ⟨b,o,rfl,Nat.lt_of_lt_of_le hlt hb.size,fun j v hv => (hc j v hv).below hlt hb⟩) : p:=h
theorem xp {p : Prop} (h : p:=by
 exact ag (Nat.le_succ _) (ag (Nat.le_succ _) (ag (Nat.le_succ _) (ag (Nat.le_succ _) (ag (Nat.le_succ _) (ag (Nat.le_succ _) (ag (Nat.le_succ _) (HB.out)))))))) : p:=h
theorem xo {p : Prop} (h : p:=by
 rcases hr with rfl | ⟨hr0,hr1,hvl2⟩
 ·go_wp2;go_ret;exact ⟨-1,rfl,.inl rfl,HB2.out⟩
 ·go_wp2;exact ⟨⟨k + 1,r,by omega,by go_num,by go_num,by omega,by omega,HB2.out⟩,by simp [intOf];omega⟩) : p:=h
theorem jd {p : Prop} (h : p:=by
 go_wp2;go_ret;exact ⟨-1,rfl,.inl rfl,Below.refl _ _⟩) : p:=h
theorem lH {p : Prop} (h : p:=by
 go_wp2;go_ret;exact ⟨false,rfl,by unfold aL;simp;omega,rfl⟩) : p:=h
theorem pJ {p : Prop} (h : p:=by
 go_enter Tryz.func57,Tryz.ntmps57;go_wp2;go_ret;exact ⟨-1,rfl,.inl rfl,an _ _⟩) : p:=h
theorem wZ {p : Prop} (h : p:=by
 rw [Array.getElem?_setIfInBounds_ne (fun e2 => hne (by have:=zF af af e2;exact ⟨this.1.symm,this.2.symm⟩))];exact k1) : p:=h
theorem wY {p : Prop} (h : p:=by
 go_wp2_with fail;go_ret;exact ⟨false,rfl,⟨fun h => bM,fun h => (HP.out (h.2.2.2.2.1)).elim⟩,below_drewN (an _ _) _⟩) : p:=h
theorem pG {p : Prop} (h : p:=by
 obtain ⟨l',rfl⟩:=List.getLast?_eq_some_iff.1 hb;rw [← hf];simp) : p:=h
theorem wU {p : Prop} (h : p:=by
 go_wp2;go_ret;refine ⟨true,rfl,?_,rfl⟩;simp only [true_iff];exact ⟨by omega,by omega,fun i h => HA.out i h af⟩) : p:=h
theorem wR {p : Prop} (h : p:=by
 exact ag (Nat.le_succ _) (ag (Nat.le_succ _) (ag (Nat.le_succ _) (ag (Nat.le_succ _) (HB.out))))) : p:=h
theorem wN {p : Prop} (h : p:=by
 rcases h5 with h5 | ⟨b,o,rfl,hlt,hc⟩
 ·subst h5;simp at h1;omega
 ·exact ⟨b,o,_,rfl,hlt,hx,hc j _ hx⟩) : p:=h
theorem wK {p : Prop} (h : p:=by
 rcases Nat.lt_or_ge b w.heap.size with h1 | h1
 ·exact h1
 ·rw [Array.getElem?_eq_none h1] at h;cases h) : p:=h
theorem wI {p : Prop} (h : p:=by
 rw [ht,ga,if_pos ⟨rfl,by rw [h.size];exact hin o (List.mem_of_getElem? ho) t ht⟩];exact hv) : p:=h
theorem wH {p : Prop} (h : p:=by
 obtain rfl : k = len:=af
 go_wp2;go_ret;exact ⟨m,rfl,.inr ⟨hm0,hm1,by omega⟩,HB.out⟩) : p:=h
theorem lC {p : Prop} (h : p:=by
 go_enter Tryz.func56,Tryz.ntmps56;go_wp2;go_ret;exact ⟨-1,rfl,.inl rfl,an _ _⟩) : p:=h
theorem vX {p : Prop} (h : p:=by
 obtain ⟨h6,h7⟩:=this;obtain ⟨k,hk,hx⟩:=Array.any_eq_true.1 h7;simp only [Bool.and_eq_true,beq_iff_eq] at hx;exact ⟨h6,_,Array.getElem_mem hk,hx.1,hx.2⟩) : p:=h
theorem vU {p : Prop} (h : p:=by
 rintro e w1 ⟨r,rfl,hr,rfl⟩;go_wp2_with fail;go_ret;exact ⟨r,rfl,⟨fun h => ⟨h0.out,h1.out,h2.out,hr.1 h⟩,fun h => hr.2 h.2.2.2⟩,an _ _⟩) : p:=h
theorem vR {p : Prop} (h : p:=by
 rintro e w1 ⟨r,rfl,hr,rfl⟩;go_wp2_with fail;go_ret;exact ⟨r,rfl,⟨fun h => ⟨h0.out,hr.1 h⟩,fun h => hr.2 h.2⟩,an _ _⟩) : p:=h
theorem vO {p : Prop} (h : p:=by
 cases hd : o.dst with
 | none => exact h1
 | some d =>
  rw [ga,if_neg (fun hx => hne (hd.trans (by rw [hx.1])))];exact h1) : p:=h
theorem vM {p : Prop} (h : p:=by
 by_cases e : j = k
 ·subst e;rw [HX.out] at hz;obtain rfl:=Option.some.inj hz;exact HN.out
 ·exact HE.out j z af hz) : p:=h
theorem vK {p : Prop} (h : p:=by
 go_wp2;go_ret;exact ⟨false,rfl,⟨fun h => bM,fun h => absurd (h.2.2.2.2.2.1 rfl) hm0⟩,an _ _⟩) : p:=h
theorem fu {p : Prop} (h : p:=by
 have hxl : xs.length = len:=cY
 have hlc : len ≤ 9223372036854775807:=Nat.le_trans hr.2.1 hr.2.2.1;exact And.intro hxl hlc) : p:=h
theorem tZ {p : Prop} (h : p:=by
 have hbw : b < w.heap.size:=Nat.lt_of_lt_of_le hbl HRW.out.size;have e0:=(ak hb1 hbw).trans ((ak HRW.out hbl).trans c0);have e1:=(ak hb1 hbw).trans ((ak HRW.out hbl).trans c1);have e2:=(ak hb1 hbw).trans ((ak HRW.out hbl).trans c2);have e3:=(ak hb1 hbw).trans ((ak HRW.out hbl).trans c3);exact And.intro hbw (And.intro e0 (And.intro e1 (And.intro e2 e3)))) : p:=h
theorem AK {p : Prop} (h : p:=by
 have c20 : w1.cell? ⟨w.heap.size + 1 + 1,0,none⟩ = some (.string n):=ah g2 0;have f20 : w1.frozen? ⟨w.heap.size + 1 + 1,0,none⟩ = false:=au g2 0;have c10 : w1.cell? ⟨w.heap.size + 1,0,none⟩ = some (.string ⟨#[]⟩):=ah g1 0;have f10 : w1.frozen? ⟨w.heap.size + 1,0,none⟩ = false:=au g1 0;have c21 : w1.cell? ⟨w.heap.size + 1 + 1,1,none⟩ = some (.int .i64 c):=ah g2 1;have f21 : w1.frozen? ⟨w.heap.size + 1 + 1,1,none⟩ = false:=au g2 1;have c11 : w1.cell? ⟨w.heap.size + 1,1,none⟩ = some (.int .i64 0):=ah g1 1;have f11 : w1.frozen? ⟨w.heap.size + 1,1,none⟩ = false:=au g1 1;have c22 : w1.cell? ⟨w.heap.size + 1 + 1,2,none⟩ = some (.string z):=ah g2 2;have f22 : w1.frozen? ⟨w.heap.size + 1 + 1,2,none⟩ = false:=au g2 2;have c12 : w1.cell? ⟨w.heap.size + 1,2,none⟩ = some (.string ⟨#[]⟩):=ah g1 2;have f12 : w1.frozen? ⟨w.heap.size + 1,2,none⟩ = false:=au g1 2;exact And.intro c20 (And.intro f20 (And.intro c10 (And.intro f10 (And.intro c21 (And.intro f21 (And.intro c11 (And.intro f11 (And.intro c22 (And.intro f22 (And.intro c12 f12))))))))))) : p:=h
theorem dB {p : Prop} (h : p:=by
 have HN:=ae (fun h => hq (hr.2 h));have hrf : r = false:=by simpa using hq
 exact And.intro HN hrf) : p:=h
theorem nj {p : Prop} (h : p:=by
 have HB3:=ae (HB2.out.trans (hb2.mono (Nat.le_trans HB.out.size (Nat.le_trans (Nat.le_succ _) hs1))));have g2:=(hb2.block wr.heap.size af).trans HG.out;have hs2:=hb2.size;have htri:=fX y.toList x.n.toList;exact And.intro HB3 (And.intro g2 (And.intro hs2 htri))) : p:=h
theorem ur {p : Prop} (h : p:=by
 have d0 : w1.cell? ⟨w.heap.size,0,none⟩ = some (.string ⟨#[]⟩):=ah g1 0;have f0:=au g1 0;have d1 : w1.cell? ⟨w.heap.size,1,none⟩ = some (.int .i64 0):=ah g1 1;have f1:=au g1 1;have d2 : w1.cell? ⟨w.heap.size,2,none⟩ = some (.string ⟨#[]⟩):=ah g1 2;have f2:=au g1 2;exact And.intro d0 (And.intro f0 (And.intro d1 (And.intro f1 (And.intro d2 f2))))) : p:=h
theorem ng {p : Prop} (h : p:=by
 have HB3:=ae (HB2.out.trans (hb2.mono (Nat.le_trans HB.out.size (Nat.le_trans (Nat.le_succ _) hs1))));have hp:=nL HE.out HX.out hless;exact And.intro HB3 hp) : p:=h
theorem rv {p : Prop} (h : p:=by
 have g1:=(hb.block (w.heap.size + 1) aN).trans (bK _ _ _);have d0 : w1.cell? ⟨w.heap.size + 1,0,none⟩ = some (.string ⟨#[]⟩):=ah g1 0;have f0:=au g1 0;exact And.intro g1 (And.intro d0 f0)) : p:=h
theorem nf {p : Prop} (h : p:=by
 have HR:=ae hr;have hvl : xs.length = len:=cY
 have hlc : len ≤ 9223372036854775807:=Nat.le_trans hr.2.1 hr.2.2.1;exact And.intro HR (And.intro hvl hlc)) : p:=h
theorem nd {p : Prop} (h : p:=by
 have HR:=ae hr;have HR':=ae hr';have hlc : len ≤ 9223372036854775807:=Nat.le_trans hr.2.1 hr.2.2.1;exact And.intro HR (And.intro HR' hlc)) : p:=h
theorem uh {p : Prop} (h : p:=by
 have e4:=(ak hb1 hbw).trans ((ak HRW.out hbl).trans c4);have e5:=(ak hb1 hbw).trans ((ak HRW.out hbl).trans c5);exact And.intro e4 e5) : p:=h
theorem ug {p : Prop} (h : p:=by
 have g0:=(hb.block w.heap.size bF).trans (cK _ _ _);have g1:=(hb.block (w.heap.size + 1) aN).trans (bK _ _ _);exact And.intro g0 g1) : p:=h
theorem rp {p : Prop} (h : p:=by
 have hlc : len ≤ 9223372036854775807:=Nat.le_trans hr.2.1 hr.2.2.1;have hzl : zs.length = len:=hr.1;exact And.intro hlc hzl) : p:=h
theorem Ak {p : Prop} (h : p:=by
 have HC:=ae (fun v : World => eh x va vl vc v);have HB1:=ae (HB.out.alloc HB.out.size (.cells #[.string x.n,.int .i64 x.c,.string x.z,.string x.k,.bool x.x,.string x.m,.bool x.y,.slice va vl vc] 118));exact And.intro HC HB1) : p:=h
theorem Aj {p : Prop} (h : p:=by
 have HC:=ae (fun v : World => lU x va vl vc v);have HB1:=ae (HB.out.alloc HB.out.size (.cells #[.string x.n,.string x.z,.int .i64 x.c,.int .i64 x.s,.int .i64 x.u,.bool x.d,.slice va vl vc] 72));exact And.intro HC HB1) : p:=h
theorem Ag {p : Prop} (h : p:=by
 have d1 : w1.cell? ⟨w.heap.size + 1,1,none⟩ = some (.int .i64 0):=ah g1 1;have f1:=au g1 1;have d2 : w1.cell? ⟨w.heap.size + 1,2,none⟩ = some (.string ⟨#[]⟩):=ah g1 2;have f2:=au g1 2;exact And.intro d1 (And.intro f1 (And.intro d2 f2))) : p:=h
end Go.Proofs.YtdoldaceehdifaaGreatDoor
namespace Go.Proofs.YtdoldaceehdifaaGreatDoor

theorem zT {u k : Nat} (h : u < 10 ^ (k + 1)) : (Lib.decDigits u).length ≤ k + 1:=by
 induction k generalizing u with
 | zero => rw [Lib.decDigits,dif_pos gZ];simp
 | succ k ih =>
  rw [Lib.decDigits]
  split
  ·simp
  ·rw [List.length_append];have:=@ih (u / 10) (by rw [Nat.pow_succ] at h;omega)
   simp;omega
end Go.Proofs.YtdoldaceehdifaaGreatDoor

namespace Go.Proofs.YtdoldaceehdifaaGreatDoor
open Go.RowKit

def jY (b : Int) : Bool:=decide (97 ≤ b) && decide (b ≤ 122)
def zS (b : Int) : Bool:=decide (48 ≤ b) && decide (b ≤ 57)
def nbB (b : Int) : Bool:=jY b || zS b || decide (b = 95)
def okB (i : Nat) (b : Int) : Bool:=if i = 0 then jY b else nbB b
def aL (s : ByteArray) : Prop:=1 ≤ s.size ∧ s.size ≤ 20 ∧ ∀ i (h : i < s.size),okB i ((s[i]'h).toNat : Int) = true
def cj (p : Prop) (w : World) (e : Ending) (w' : World) : Prop:=∃ r : Bool,e = .returned (.bool r) ∧ (r = true ↔ p) ∧ w = w'
theorem mN {a b : Bool} (h : a = b) : Ending.returned (.bool a) = .returned (.bool b):=by rw [h]

theorem rG (b : Int) (w : World) :
  Calls Tryz.prog 200 #[.int .u8 b] w fun e w' => e = .returned (.bool (jY b)) ∧ w = w':=by
 go_enter Tryz.func200,Tryz.ntmps200;go_wp2;all_goals (go_ret;exact ⟨mN (by unfold jY;rw [Bool.eq_iff_iff];simp;omega),rfl⟩)

theorem xS (b : Int) (w : World) :
  Calls Tryz.prog 201 #[.int .u8 b] w fun e w' => e = .returned (.bool (nbB b)) ∧ w = w':=by
 go_enter Tryz.func201,Tryz.ntmps201;go_wp2;all_goals (go_ret;exact ⟨mN (by unfold nbB jY zS;rw [Bool.eq_iff_iff];simp;omega),rfl⟩)

theorem fT {s : ByteArray} {k : Nat} (hlt : k < s.size) (h : okB k ((s[k]'hlt).toNat : Int) = false) : (false = true ↔ aL s):=by
 constructor
 ·intro h;cases h
 ·intro h3;have:=h3.2.2 k hlt;rw [h] at this;exact this
theorem kA {s : ByteArray} {k : Nat} (hlt : k < s.size) (h : okB k ((s[k]'hlt).toNat : Int) = true) (ha : ∀ i (h : i < s.size),i < k → okB i ((s[i]'h).toNat : Int) = true) :
  ∀ i (h : i < s.size),i < k + 1 → okB i ((s[i]'h).toNat : Int) = true:=by
 intro i hi hk;by_cases e : i = k
 ·subst e;exact h
 ·exact ha i hi af

theorem ba (s : ByteArray) (w : World) (hs : s.size ≤ 9223372036854775807) :
  Calls Tryz.prog 149 #[.string s] w (cj (aL s) w):=by
 by_cases h1 : s.size < 1
 ·go_enter Tryz.func149,Tryz.ntmps149;exact lH
 by_cases h2 : 20 < s.size
 ·go_enter Tryz.func149,Tryz.ntmps149;exact lH
 go_enter Tryz.func149,Tryz.ntmps149;go_wp2;go_loop [3] (fun i => ∃ k : Nat,k ≤ s.size ∧ i = .int .i64 k ∧ ∀ i (h : i < s.size),i < k → okB i ((s[i]'h).toNat : Int) = true) (fun i => s.size - (intOf i).toNat);case atStart => exact ⟨0,by omega,rfl,fun i _ h => by omega⟩
 case round =>
  obtain ⟨k,hk,rfl,hall⟩:=hrel;have HA : Hid (∀ i (h : i < s.size),i < k → okB i ((s[i]'h).toNat : Int) = true):=hall;clear hall;by_cases hlt : k < s.size
  ·cases hok : okB k ((s[k]'hlt).toNat : Int)
   ·have HB : Hid (okB k ((s[k]'hlt).toNat : Int) = false):=hok;by_cases hk0 : k = 0
    ·have hkb : ((k : Int) == 0) = true:=by simp [hk0]
     have hk1 : k < 1:=af
     unfold okB jY at hok;rw [if_pos hk0] at hok;simp only [Bool.and_eq_false_iff,decide_eq_false_iff_not] at hok;clear hk0;rcases (show ((s[k]'hlt).toNat : Int) < 97 ∨ (97 ≤ ((s[k]'hlt).toNat : Int) ∧ 122 < ((s[k]'hlt).toNat : Int)) by omega) with hA | ⟨hA,hB⟩;all_goals
      clear hok
      go_wp2
      all_goals first | (exfalso;rename_i hx;simp at hx;omega) | (go_ret;exact ⟨false,rfl,fT hlt HB.out,rfl⟩)
    ·have hkb : ((k : Int) == 0) = false:=by simp [hk0]
     unfold okB nbB jY zS at hok;rw [if_neg hk0] at hok;simp only [Bool.or_eq_false_iff,Bool.and_eq_false_iff,decide_eq_false_iff_not] at hok;have hne : (((s[k]'hlt).toNat : Int) != 95) = true:=by simp;omega
     rcases (show (((s[k]'hlt).toNat : Int) < 97 ∨ (97 ≤ ((s[k]'hlt).toNat : Int) ∧ 122 < ((s[k]'hlt).toNat : Int))) ∧ (((s[k]'hlt).toNat : Int) < 48 ∨ (48 ≤ ((s[k]'hlt).toNat : Int) ∧ 57 < ((s[k]'hlt).toNat : Int))) by omega) with ⟨hA | ⟨hA,hB⟩,hC | ⟨hC,hD⟩⟩;all_goals
      clear hok
      try omega
     all_goals
      go_wp2
      all_goals first | (exfalso;rename_i hx;simp at hx;omega) | (go_ret;exact ⟨false,rfl,fT hlt HB.out,rfl⟩)
   ·have HB : Hid (okB k ((s[k]'hlt).toNat : Int) = true):=hok;by_cases hk0 : k = 0
    ·have hkb : ((k : Int) == 0) = true:=by simp [hk0]
     have hk1 : k < 1:=af
     unfold okB jY at hok;rw [if_pos hk0] at hok;simp only [Bool.and_eq_true,decide_eq_true_eq] at hok;obtain ⟨hA,hB⟩:=hok;clear hk0;exact rB
    ·have hkb : ((k : Int) == 0) = false:=by simp [hk0]
     unfold okB nbB jY zS at hok;rw [if_neg hk0] at hok;simp only [Bool.or_eq_true,Bool.and_eq_true,decide_eq_true_eq] at hok;rcases (show (97 ≤ ((s[k]'hlt).toNat : Int) ∧ ((s[k]'hlt).toNat : Int) ≤ 122) ∨ (48 ≤ ((s[k]'hlt).toNat : Int) ∧ ((s[k]'hlt).toNat : Int) ≤ 57) ∨ (95 ≤ ((s[k]'hlt).toNat : Int) ∧ ((s[k]'hlt).toNat : Int) ≤ 95) by omega) with ⟨hA,hB⟩ | ⟨hA,hB⟩ | ⟨hA,hB⟩
     ·clear hok;exact rB
     ·clear hok;exact rB
     ·clear hok;have hne : (((s[k]'hlt).toNat : Int) != 95) = false:=by simp;omega
      exact rB
  ·exact wU

theorem aW (s : ByteArray) (w : World) (hs : s.size ≤ 9223372036854775807) :
  Calls Tryz.prog 189 #[.string s] w (cj (aL s) w):=by
 by_cases h1 : s.size < 1
 ·go_enter Tryz.func189,Tryz.ntmps189;exact lH
 by_cases h2 : 20 < s.size
 ·go_enter Tryz.func189,Tryz.ntmps189;exact lH
 have h0 : 0 < s.size:=af
 cases hl : jY ((s[0]'h0).toNat : Int)
 ·have HC : Hid (∀ w,Calls Tryz.prog 200 #[.int .u8 ((s[0]'h0).toNat : Int)] w fun e w' => e = .returned (.bool false) ∧ w = w'):=fun w => by rw [← hl];exact rG _ w
  have HB : Hid (okB 0 ((s[0]'h0).toNat : Int) = false):=hl;clear hl;go_enter Tryz.func189,Tryz.ntmps189;go_wp2_with (go_at_call 200;refine (HC.out _).mono ?_;rintro e w1 ⟨rfl,rfl⟩);go_ret;exact ⟨false,rfl,fT h0 HB.out,rfl⟩
 ·have HC : Hid (∀ w,Calls Tryz.prog 200 #[.int .u8 ((s[0]'h0).toNat : Int)] w fun e w' => e = .returned (.bool true) ∧ w = w'):=fun w => by rw [← hl];exact rG _ w
  have HB : Hid (okB 0 ((s[0]'h0).toNat : Int) = true):=hl;clear hl;go_enter Tryz.func189,Tryz.ntmps189;go_wp2_with (go_at_call 200;refine (HC.out _).mono ?_;rintro e w1 ⟨rfl,rfl⟩);go_loop [3] (fun i => ∃ k : Nat,1 ≤ k ∧ k ≤ s.size ∧ i = .int .i64 k ∧ ∀ i (h : i < s.size),i < k → okB i ((s[i]'h).toNat : Int) = true) (fun i => s.size - (intOf i).toNat);case atStart => exact ⟨1,by omega,by omega,rfl,fun i _ h => by obtain rfl : i = 0:=af;exact HB.out⟩
  case round =>
   obtain ⟨k,hk1,hk,rfl,hall⟩:=hrel;have HA : Hid (∀ i (h : i < s.size),i < k → okB i ((s[i]'h).toNat : Int) = true):=hall;clear hall HC HB;by_cases hlt : k < s.size
   ·cases hok : nbB ((s[k]'hlt).toNat : Int)
    ·have HC : Hid (∀ w,Calls Tryz.prog 201 #[.int .u8 ((s[k]'hlt).toNat : Int)] w fun e w' => e = .returned (.bool false) ∧ w = w'):=fun w => by rw [← hok];exact xS _ w
     have HB : Hid (okB k ((s[k]'hlt).toNat : Int) = false):=by unfold okB;rw [if_neg af];exact hok
     clear hok;go_wp2_with (go_at_call 201;refine (HC.out _).mono ?_;rintro e w1 ⟨rfl,rfl⟩);go_ret;exact ⟨false,rfl,fT hlt HB.out,rfl⟩
    ·have HC : Hid (∀ w,Calls Tryz.prog 201 #[.int .u8 ((s[k]'hlt).toNat : Int)] w fun e w' => e = .returned (.bool true) ∧ w = w'):=fun w => by rw [← hok];exact xS _ w
     have HB : Hid (okB k ((s[k]'hlt).toNat : Int) = true):=by unfold okB;rw [if_neg af];exact hok
     clear hok;go_wp2_with (go_at_call 201;refine (HC.out _).mono ?_;rintro e w1 ⟨rfl,rfl⟩);go_round;case rel => exact ⟨k + 1,by omega,by omega,by go_num,kA hlt HB.out HA.out⟩
     case measure => simp [intOf];omega
   ·exact wU

def ay (w : World) (a : Option Addr) (len cap : Nat) (zs : List ByteArray) : Prop :=
 zs.length = len ∧ len ≤ cap ∧ cap ≤ 9223372036854775807 ∧ (∀ (j : Nat) x,zs[j]? = some x → x.size ≤ 9223372036854775807) ∧
 (zs = [] ∨ ∃ b o,a = some ⟨b,o,none⟩ ∧ b < w.heap.size ∧ ∀ (j : Nat) x,zs[j]? = some x → w.cell? ⟨b,o + j,none⟩ = some (.string x))
theorem ak {w w' : World} (hb : Below w.heap.size w w') {b o : Nat} (h : b < w.heap.size) : w'.cell? ⟨b,o,none⟩ = w.cell? ⟨b,o,none⟩:=by
 simp [World.cell?,hb.block b h]
theorem ay.below {w w' : World} {a : Option Addr} {len cap : Nat} {zs : List ByteArray} (h : ay w a len cap zs) (hb : Below w.heap.size w w') : ay w' a len cap zs:=by
 obtain ⟨h1,h2,h3,h4,h5⟩:=h;refine ⟨h1,h2,h3,h4,?_⟩;rcases h5 with h5 | ⟨b,o,rfl,hlt,hc⟩
 ·exact Or.inl h5
 ·exact Or.inr ⟨b,o,rfl,Nat.lt_of_lt_of_le hlt hb.size,fun j x hx => by rw [ak hb hlt];exact hc j x hx⟩
theorem ay.at {w : World} {a : Option Addr} {len cap : Nat} {zs : List ByteArray} (h : ay w a len cap zs) {k : Nat} (hk : k < len) :
  ∃ b o x,a = some ⟨b,o,none⟩ ∧ b < w.heap.size ∧ zs[k]? = some x ∧ w.cell? ⟨b,o + k,none⟩ = some (.string x) ∧ x.size ≤ 9223372036854775807:=by
 obtain ⟨h1,h2,h3,h4,h5⟩:=h;have hx : zs[k]? = some (zs[k]'(by omega)):=List.getElem?_eq_getElem _;rcases h5 with h5 | ⟨b,o,rfl,hlt,hc⟩
 ·subst h5;simp at h1;omega
 ·exact ⟨b,o,_,rfl,hlt,hx,hc k _ hx,h4 k _ hx⟩

def Dg (left : Int) (p : Prop) (w : World) (e : Ending) (w' : World) : Prop:=∃ r : Int,e = .returned (.int .i64 r) ∧ (r = -1 ∨ (0 ≤ r ∧ r ≤ left ∧ p)) ∧ w = w'

theorem q_ (a : Option Addr) (len cap : Nat) (zs : List ByteArray) (left : Int) (w : World) (hr : ay w a len cap zs) (h0 : 0 ≤ left) (h1 : left ≤ 1048576) :
  Calls Tryz.prog 104 #[.slice a len cap,.int .i64 left] w (Dg left ((len : Int) ≤ left) w):=by
 have HR : Hid (ay w a len cap zs):=hr;have hlc : len ≤ 9223372036854775807:=Nat.le_trans hr.2.1 hr.2.2.1;clear hr;by_cases hl : left < (len : Int)
 ·go_enter Tryz.func104,Tryz.ntmps104;go_wp2;go_ret;exact ⟨-1,rfl,.inl rfl,rfl⟩
 go_enter Tryz.func104,Tryz.ntmps104;go_wp2;go_loop [1,5] (fun l i => ∃ (k : Nat) (m : Int),k ≤ len ∧ l = .int .i64 m ∧ i = .int .i64 k ∧ 0 ≤ m ∧ m ≤ left) (fun _ i => len - (intOf i).toNat);case atStart => exact ⟨0,left - len,by omega,by go_num,rfl,by omega,by omega⟩
 case round =>
  obtain ⟨k,m,hk,rfl,rfl,hm0,hm1⟩:=hrel;by_cases hlt : k < len
  ·obtain ⟨b,o,x,rfl,hb,hx,hc,hsz⟩:=HR.out.at hlt;by_cases hs : m < (x.size : Int)
   ·go_wp2;go_ret;exact ⟨-1,rfl,.inl rfl,rfl⟩
   ·go_wp2;exact ⟨⟨k + 1,m - x.size,by omega,by go_num,by go_num,by omega,by omega⟩,by simp [intOf];omega⟩
  ·go_wp2;go_ret;exact ⟨m,rfl,.inr ⟨hm0,hm1,by omega⟩,rfl⟩

theorem eX : (Tryz.prog.info? 9).map (fun i => (i.zero,i.size,i.bytes)) = some (some (.string ⟨#[]⟩),1,16):=by kernel_rfl
theorem az {w : World} {g i : Nat} {cs : Array Value} {t : TypeId} {fr : Nat × Nat} (h : w.heap[g]? = some (.cells cs t fr)) (v : Value) : (w.setCell ⟨g,i,none⟩ v).heap[g]? = some (.cells (cs.setIfInBounds i v) t fr):=by
 obtain ⟨hl,hh⟩:=Array.getElem?_eq_some_iff.1 h;unfold World.setCell;simp [Array.getElem?_modify,h]
theorem take_set {α : Type} {zs Z : List α} {k : Nat} {x : α} (h : zs[k]? = some x) (hk : k < zs.length) (hZ : Z.length = zs.length) :
  ((zs.take k ++ Z.drop k).toArray.setIfInBounds k x) = (zs.take (k + 1) ++ Z.drop (k + 1)).toArray:=by
 apply Array.ext';have hl : (zs.take k).length = k:=by rw [List.length_take];omega
 have hd : Z.drop k = Z[k]'(by omega) :: Z.drop (k + 1):=List.drop_eq_getElem_cons af;rw [List.take_add_one,h,hd];simp only [List.setIfInBounds_toArray,List.set_append,hl,Nat.lt_irrefl,if_false,Nat.sub_self,List.set_cons_zero,Option.toList_some,List.append_assoc,List.singleton_append]

theorem sP {w : World} {B g n : Nat} {e : TypeId} {xs : List Value} (h : w.ownsRow B e 1 (.slice (some ⟨g,0,none⟩) n n) n xs) :
  w.heap[g]? = some (.cells xs.toArray e (0,0)) ∧ xs.length = n ∧ B ≤ g:=by
 exact AV

theorem kX (a : Option Addr) (len cap : Nat) (zs : List ByteArray) (w : World) (hr : ay w a len cap zs) (hl : len ≤ 1048576) :
  Calls Tryz.prog 121 #[.slice a len cap] w fun e w' => e = .returned (.slice (some ⟨w.heap.size,0,none⟩) len len) ∧ w'.heap[w.heap.size]? = some (.cells (zs.map Value.string).toArray 9 (0,0)) ∧ Below w.heap.size w w':=by
 have HR : Hid (ay w a len cap zs):=hr;have hzl : zs.length = len:=hr.1;clear hr;obtain ⟨i0,hi,hz0,hz1,hz2⟩:=info_parts eX;go_enter Tryz.func121,Tryz.ntmps121;go_wp2_with (at_make;refine wpList_make_full _ rfl _ _ 63 rfl w.heap.size 9 i0 (.string ⟨#[]⟩) 1 Tryz.underlying63 hi hz0 hz1 _ _ _ _ len rfl rfl af af fL cd (Nat.le_refl _) ?_);intro w1 hown hgrow;obtain ⟨hg1,hz,-⟩:=sP hown;obtain ⟨Z,hZ⟩ : ∃ Z,Z = (madeCells #[Value.string ⟨#[]⟩] len).toList:=⟨_,rfl⟩;have hnx1 : Below w.heap.size w w1:=(Below.refl _ _).grown hgrow (Nat.le_refl _) (fun k hk => by cases hk);rw [← hZ] at hg1 hz;have HG : Hid (w1.heap[w.heap.size]? = some (.cells (((zs.map Value.string).take 0 ++ Z.drop 0)).toArray 9 (0,0))):=by simpa [Hid] using hg1
 have HB : Hid (Below w.heap.size w w1):=hnx1;clear hZ hown hgrow hg1 hi hz0 hz1 hz2 hnx1;go_wp2;go_loopw [4] (fun i wr => ∃ k : Nat,k ≤ len ∧ i = .int .i64 k ∧ Hid (wr.heap[w.heap.size]? = some (.cells (((zs.map Value.string).take k ++ Z.drop k)).toArray 9 (0,0))) ∧ Hid (Below w.heap.size w wr)) (fun i _ => len - (intOf i).toNat);case atStart => exact ⟨0,by omega,rfl,HG,HB⟩
 case round =>
  obtain ⟨k,hk,rfl,HG,HB⟩:=hrel;by_cases hlt : k < len
  ·obtain ⟨b,o,x,rfl,hb,hx,hc,hsz⟩:=(HR.out.below HB.out).at hlt;have hlz : (zs.map Value.string).length = len:=by simp [hzl]
   have hcl : (((zs.map Value.string).take k ++ Z.drop k)).length = len:=by rw [List.length_append,List.length_take,List.length_drop,hlz,hz];omega
   have hcw : wr.cell? ⟨w.heap.size,k,none⟩ = some ((((zs.map Value.string).take k ++ Z.drop k))[k]'(by omega)):=by
    simp only [World.cell?,HG.out];simp
   have hfw : wr.frozen? ⟨w.heap.size,k,none⟩ = false:=by simp [World.frozen?,HG.out]
   go_wp2;refine ⟨⟨k + 1,by omega,by go_num,?_,HB.out.setCell (Nat.le_refl _) _⟩,by simp [intOf];omega⟩;show _ = _;rw [az HG.out,take_set (by simp [hx]) af af]
  ·obtain rfl : k = len:=af
   go_wp2;go_ret;refine ⟨rfl,?_,HB.out⟩;rw [HG.out,List.take_of_length_le (by simp [hzl]),List.drop_eq_nil_of_le af,List.append_nil]

theorem bo {a b : ByteArray} (h : ¬ a = b) : (a.toList == b.toList) = false:=by
 rw [beq_eq_false_iff_ne];intro e;rw [Lib.toList_data,Lib.toList_data] at e;exact h (by cases a;cases b;simp at e;rw [e])
def ar (p : Prop) (w : World) (e : Ending) (w' : World) : Prop:=∃ r : Bool,e = .returned (.bool r) ∧ (r = true ↔ p) ∧ Below w.heap.size w w'

theorem rN (a a' : Option Addr) (len len' cap cap' : Nat) (zs zs' : List ByteArray) (w : World) (hr : ay w a len cap zs) (hr' : ay w a' len' cap' zs') :
  Calls Tryz.prog 132 #[.slice a len cap,.slice a' len' cap'] w (ar (zs = zs') w):=by
 have HR : Hid (ay w a len cap zs):=hr;have HR' : Hid (ay w a' len' cap' zs'):=hr';have hlc : len ≤ 9223372036854775807:=Nat.le_trans hr.2.1 hr.2.2.1;have hlc' : len' ≤ 9223372036854775807:=Nat.le_trans hr'.2.1 hr'.2.2.1;have hzl : zs.length = len:=hr.1;have hzl' : zs'.length = len':=hr'.1;clear hr hr';by_cases hne : len = len'
 ·subst hne;go_enter Tryz.func132,Tryz.ntmps132;go_wp2;go_loopw [5] (fun i wr => ∃ k : Nat,k ≤ len ∧ i = .int .i64 k ∧ Hid (∀ j,j < k → zs[j]? = zs'[j]?) ∧ Hid (Below w.heap.size w wr)) (fun i _ => len - (intOf i).toNat);case atStart => exact ⟨0,by omega,rfl,fun j hj => by omega,Below.refl _ _⟩
  case round =>
   obtain ⟨k,hk,rfl,HE,HB⟩:=hrel;by_cases hlt : k < len
   ·obtain ⟨b,o,x,rfl,hb,hx,hc,hsz⟩:=(HR.out.below HB.out).at hlt;obtain ⟨b',o',x',rfl,hb',hx',hc',hsz'⟩:=(HR'.out.below HB.out).at hlt;by_cases hxx : x = x'
    ·have hq : (x.toList == x'.toList) = true:=by rw [hxx];simp
     go_wp2;go_quiet (fail);go_wp2;refine ⟨⟨k + 1,by omega,by go_num,fun j hj => ?_,below_drewN HB.out _⟩,by simp [intOf];omega⟩;by_cases e : j = k
     ·subst e;rw [hx,hx',hxx]
     ·exact HE.out j af
    ·have hq : (x.toList == x'.toList) = false:=bo hxx;go_wp2;go_quiet (fail);go_wp2;go_ret;refine ⟨false,rfl,⟨fun h => bM,fun h => ?_⟩,below_drewN HB.out _⟩;subst h;rw [hx] at hx';exact absurd (Option.some.inj hx') hxx
   ·obtain rfl : k = len:=af
    go_wp2;go_ret;refine ⟨true,rfl,⟨fun _ => List.ext_getElem? fun j => ?_,fun _ => rfl⟩,HB.out⟩;by_cases hj : j < zs.length
    ·exact HE.out j af
    ·rw [List.getElem?_eq_none af,List.getElem?_eq_none af]
 ·have hne' : ¬ (len : Int) = len':=af
  go_enter Tryz.func132,Tryz.ntmps132;go_wp2;go_ret;exact ⟨false,rfl,⟨fun h => bM,fun h => absurd (congrArg List.length h) af⟩,Below.refl _ _⟩

def gU (zs : List ByteArray) : Prop:=∀ (i : Nat) x,zs[i]? = some x → aL x ∧ ∀ y,0 < i → zs[i - 1]? = some y → Op.bytesLess y.toList x.toList = true
def dd (zs : List ByteArray) (most : Int) : Prop:=(zs.length : Int) ≤ most ∧ gU zs
theorem fX : ∀ x y : List UInt8,(Op.bytesLess y x || y == x) = !Op.bytesLess x y
 | [],[] => by simp [Op.bytesLess]
 | _ :: _,[] => by simp [Op.bytesLess]
 | [],_ :: _ => by simp [Op.bytesLess]
 | a :: x,b :: y => by
  have ih:=fX x y;simp only [Op.bytesLess];rcases Nat.lt_trichotomy a.toNat b.toNat with h | h | h
  ·have h1 : a < b:=UInt8.lt_iff_toNat_lt.2 h;have h2 : ¬ b < a:=fun h' => by have:=UInt8.lt_iff_toNat_lt.1 h';omega
   have h3 : ¬ b = a:=fun h' => by subst h';omega
   simp [h1,h2,h3]
  ·obtain rfl : a = b:=UInt8.toNat_inj.1 h;have h2 : ¬ a < a:=fun h' => by have:=UInt8.lt_iff_toNat_lt.1 h';omega
   simp [h2];simpa using ih
  ·have h1 : b < a:=UInt8.lt_iff_toNat_lt.2 h;have h2 : ¬ a < b:=fun h' => by have:=UInt8.lt_iff_toNat_lt.1 h';omega
   have h3 : ¬ a = b:=fun h' => by subst h';omega
   simp [h1,h2,h3]

theorem cj.yes {p : Prop} {w w' : World} {e : Ending} (h : cj p w e w') (hp : p) : e = .returned (.bool true) ∧ w' = w:=by
 obtain ⟨r,rfl,hr,rfl⟩:=h;exact ⟨by rw [hr.2 hp],rfl⟩
theorem cj.no {p : Prop} {w w' : World} {e : Ending} (h : cj p w e w') (hp : ¬ p) : e = .returned (.bool false) ∧ w' = w:=by
 obtain ⟨r,rfl,hr,rfl⟩:=h;cases r
 ·exact ⟨rfl,rfl⟩
 ·exact absurd (hr.1 rfl) hp
theorem gU.step {zs : List ByteArray} {k : Nat} {x : ByteArray} (h : gU (zs.take k)) (hx : zs[k]? = some x) (hn : aL x) (hy : ∀ y,0 < k → zs[k - 1]? = some y → Op.bytesLess y.toList x.toList = true) : gU (zs.take (k + 1)):=by
 intro i z hz;rw [List.getElem?_take] at hz;split at hz
 ·rename_i hi;by_cases e : i = k
  ·subst e;rw [hx] at hz;obtain rfl:=Option.some.inj hz;refine ⟨hn,fun y h0 h1 => hy y h0 ?_⟩;rw [List.getElem?_take,if_pos af] at h1;exact h1
  ·have:=h i z (by rw [List.getElem?_take,if_pos af];exact hz);refine ⟨this.1,fun y h0 h1 => this.2 y h0 ?_⟩;rw [List.getElem?_take,if_pos af] at h1 ⊢;exact h1
 ·cases hz

theorem dX (a : Option Addr) (len cap : Nat) (zs : List ByteArray) (most : Int) (w : World) (hr : ay w a len cap zs) :
  Calls Tryz.prog 151 #[.slice a len cap,.int .i64 most] w (ar (dd zs most) w):=by
 have HR : Hid (ay w a len cap zs):=hr;obtain ⟨hlc,hzl⟩:=rp;clear hr;go_enter Tryz.func151,Tryz.ntmps151;go_wp2;go_loopw [5] (fun i wr => ∃ k : Nat,k ≤ len ∧ i = .int .i64 k ∧ Hid (gU (zs.take k)) ∧ Hid (Below w.heap.size w wr)) (fun i _ => len - (intOf i).toNat);case atStart => exact ⟨0,by omega,rfl,fun i x h => by simp at h,Below.refl _ _⟩
 case round =>
  obtain ⟨k,hk,rfl,HE,HB⟩:=hrel;by_cases hlt : k < len
  ·obtain ⟨b,o,x,rfl,hb,hx,hc,hsz⟩:=(HR.out.below HB.out).at hlt;by_cases hn : aL x
   ·have HY : Hid (∀ w,Calls Tryz.prog 149 #[.string x] w fun e w' => e = .returned (.bool true) ∧ w' = w):=fun w => (ba x w hsz).mono fun _ _ h => h.yes hn;by_cases hk0 : 0 < k
    ·obtain ⟨b',o',y,e',hb',hy,hcy,-⟩:=(HR.out.below HB.out).at (k:=k - 1) af;cases e';have ek : ((k : Int) - 1).toNat = k - 1:=af
     have hk0' : (0 : Int) < k:=af
     cases hless : Op.bytesLess y.toList x.toList
     ·go_wp2;go_quiet ((go_at_call 149;exact Calls.quiet_of_same (HY.out _)));go_wp2;go_ret;exact ⟨false,rfl,⟨fun h => bM,fun h => absurd ((h.2 k x hx).2 y hk0 hy) (by rw [hless];decide)⟩,below_drewN HB.out _⟩
     ·go_wp2;go_quiet ((go_at_call 149;exact Calls.quiet_of_same (HY.out _)));go_wp2;exact ⟨⟨k + 1,by omega,by go_num,HE.out.step hx hn (fun y' _ hy' => by rw [hy] at hy';obtain rfl:=Option.some.inj hy';exact hless),below_drewN HB.out _⟩,by simp [intOf];omega⟩
    ·have hd : decide ((0 : Int) < k) = false:=by simp;omega
     go_wp2;go_quiet ((go_at_call 149;exact Calls.quiet_of_same (HY.out _)));go_wp2;exact ⟨⟨k + 1,by omega,by go_num,HE.out.step hx hn (fun y' h0 _ => absurd h0 hk0),below_drewN HB.out _⟩,by simp [intOf];omega⟩
   ·have HY : Hid (∀ w,Calls Tryz.prog 149 #[.string x] w fun e w' => e = .returned (.bool false) ∧ w' = w):=fun w => (ba x w hsz).mono fun _ _ h => h.no hn;go_wp2;go_quiet ((go_at_call 149;exact Calls.quiet_of_same (HY.out _)));go_wp2;go_ret;exact ⟨false,rfl,⟨fun h => bM,fun h => absurd (h.2 k x hx).1 hn⟩,below_drewN HB.out _⟩
  ·obtain rfl : k = len:=af
   go_wp2;go_ret;refine ⟨_,rfl,?_,HB.out⟩;have hR:=HE.out;rw [List.take_of_length_le af] at hR;unfold dd;simp [hR,hzl]

theorem nU {x : ByteArray} (h : 1 ≤ x.size) : Op.bytesLess (⟨#[]⟩ : ByteArray).toList x.toList = true:=by
 rw [Lib.toList_data,Lib.toList_data];rw [Lib.size_eq] at h;cases e : x.data.toList with
 | nil => rw [e] at h;simp at h
 | cons a l => rfl

theorem ec (a : Option Addr) (len cap : Nat) (zs : List ByteArray) (most : Int) (w : World) (hr : ay w a len cap zs) :
  Calls Tryz.prog 207 #[.slice a len cap,.int .i64 most] w (cj (dd zs most) w):=by
 have HR : Hid (ay w a len cap zs):=hr;obtain ⟨hlc,hzl⟩:=rp;clear hr;by_cases hm : most < (len : Int)
 ·go_enter Tryz.func207,Tryz.ntmps207;go_wp2;go_ret;exact ⟨false,rfl,⟨fun h => bM,fun h => absurd h.1 af⟩,rfl⟩
 go_enter Tryz.func207,Tryz.ntmps207;go_wp2;go_loop [5,14] (fun p i => ∃ (k : Nat) (y : ByteArray),k ≤ len ∧ p = .string y ∧ i = .int .i64 k ∧ Hid (k = 0 → y = ⟨#[]⟩) ∧ Hid (0 < k → zs[k - 1]? = some y) ∧ Hid (gU (zs.take k))) (fun _ i => len - (intOf i).toNat);case atStart => exact ⟨0,_,by omega,rfl,rfl,fun _ => rfl,fun h => absurd h af,fun i x h => by simp at h⟩
 case round =>
  obtain ⟨k,y,hk,rfl,rfl,H0,H1,HE⟩:=hrel;by_cases hlt : k < len
  ·obtain ⟨b,o,x,rfl,hb,hx,hc,hsz⟩:=HR.out.at hlt;by_cases hn : aL x
   ·have HY : Hid (∀ w,Calls Tryz.prog 189 #[.string x] w fun e w' => e = .returned (.bool true) ∧ w' = w):=fun w => (aW x w hsz).mono fun _ _ h => h.yes hn;have htri:=fX y.toList x.toList;cases hless : Op.bytesLess y.toList x.toList
    ·rw [hless] at htri;go_wp2_with (go_at_call 189;refine (HY.out _).mono ?_;rintro e w1 ⟨rfl,rfl⟩);go_ret;refine ⟨false,rfl,⟨fun h => bM,fun h => ?_⟩,rfl⟩;by_cases hk0 : 0 < k
     ·exact absurd ((h.2 k x hx).2 y hk0 (H1.out hk0)) (by rw [hless];decide)
     ·have:=H0.out af;subst this;rw [nU hn.1] at hless;cases hless
    ·rw [hless] at htri;go_wp2_with (go_at_call 189;refine (HY.out _).mono ?_;rintro e w1 ⟨rfl,rfl⟩);refine ⟨⟨k + 1,x,by omega,rfl,by go_num,fun h => absurd h af,fun _ => hx,HE.out.step hx hn (fun y' h0 hy' => ?_)⟩,by simp [intOf];omega⟩;rw [H1.out h0] at hy';obtain rfl:=Option.some.inj hy';exact hless
   ·have HY : Hid (∀ w,Calls Tryz.prog 189 #[.string x] w fun e w' => e = .returned (.bool false) ∧ w' = w):=fun w => (aW x w hsz).mono fun _ _ h => h.no hn;go_wp2_with (go_at_call 189;refine (HY.out _).mono ?_;rintro e w1 ⟨rfl,rfl⟩);go_ret;exact ⟨false,rfl,⟨fun h => bM,fun h => absurd (h.2 k x hx).1 hn⟩,rfl⟩
  ·obtain rfl : k = len:=af
   have hR:=HE.out;rw [List.take_of_length_le af] at hR;go_wp2;go_ret;exact ⟨true,rfl,⟨fun _ => ⟨by omega,hR⟩,fun _ => rfl⟩,rfl⟩

def cB (s : ByteArray) : Prop:=s = ⟨#[]⟩ ∨ aL s
def Inn (n a b : Int) : Prop:=a ≤ n ∧ n ≤ b

theorem lM (n a b : Int) (w : World) :
  Calls Tryz.prog 42 #[.int .i64 n,.int .i64 a,.int .i64 b] w (cj (Inn n a b) w):=by
 go_enter Tryz.func42,Tryz.ntmps42;go_wp2;all_goals (go_ret;exact ⟨_,rfl,by unfold Inn;simp;omega,rfl⟩)

theorem bO (n a b : Int) (w : World) :
  Calls Tryz.prog 46 #[.int .i64 n,.int .i64 a,.int .i64 b] w (cj (Inn n a b) w):=by
 go_enter Tryz.func46,Tryz.ntmps46;go_wp2;all_goals (go_ret;exact ⟨_,rfl,by unfold Inn;simp;omega,rfl⟩)

theorem nX (n : Int) (w : World) :
  Calls Tryz.prog 150 #[.int .i64 n] w (cj (Inn n 0 1000000) w):=by
 go_enter Tryz.func150,Tryz.ntmps150;exact pW

theorem eW (n : Int) (w : World) :
  Calls Tryz.prog 153 #[.int .i64 n] w (cj (Inn n 1 1048576) w):=by
 go_enter Tryz.func153,Tryz.ntmps153;exact pW

theorem kB (n : Int) (w : World) :
  Calls Tryz.prog 59 #[.int .i64 n] w (cj (Inn n 0 1000000) w):=by
 go_enter Tryz.func59,Tryz.ntmps59;exact pW

theorem ae {p : Prop} (h : p) : Hid p:=h
theorem aY {s : ByteArray} (h : ¬ s = ⟨#[]⟩) : s.toList.isEmpty = false:=by
 have:=bo h;rw [Lib.toList_data] at this ⊢;cases e : s.data.toList with
 | nil => exact absurd (by cases s;simp at e;rw [e]) h
 | cons a l => rfl
theorem rK : (⟨#[]⟩ : ByteArray).toList.isEmpty = true:=by rw [Lib.toList_data];rfl
theorem b_ {w w1 : World} {vs : Array Value} {T : TypeId} (hb : Below (w.alloc (.cells vs T)).heap.size (w.alloc (.cells vs T)) w1) :
  w1.heap[w.heap.size]? = some (.cells vs T (0,0)) ∧ Below w.heap.size w w1 ∧ w.heap.size < w1.heap.size:=by
 have hs : (w.alloc (.cells vs T)).heap.size = w.heap.size + 1:=aN
 have h1:=hb.size;refine ⟨?_,?_,by omega⟩
 ·rw [hb.block _ af];show (w.heap.push _)[w.heap.size]? = _;simp
 ·exact ((Below.refl w.heap.size w).alloc (Nat.le_refl _) _).trans (hb.mono af)
theorem gy {w w1 : World} {vs : Array Value} {T : TypeId} (hb : Below (w.alloc (.cells vs T)).drew.heap.size (w.alloc (.cells vs T)).drew w1) :
  w1.heap[w.heap.size]? = some (.cells vs T (0,0)) ∧ Below w.heap.size w w1 ∧ w.heap.size < w1.heap.size:=b_ ⟨hb.os,hb.tape,hb.output,hb.size,hb.block⟩
theorem ah {w : World} {b : Nat} {vs : Array Value} {T : TypeId} {f : Nat × Nat} (h : w.heap[b]? = some (.cells vs T f)) (i : Nat) : w.cell? ⟨b,i,none⟩ = vs[i]?:=by simp [World.cell?,h]
theorem an (w : World) (o : Obj) : Below w.heap.size w (w.alloc o):=(Below.refl _ _).alloc (Nat.le_refl _) o

theorem dz (s : ByteArray) (w : World) (hs : s.size ≤ 9223372036854775807) :
  Calls Tryz.prog 152 #[.string s] w (cj (cB s) w):=by
 by_cases h0 : s = ⟨#[]⟩
 ·subst h0;go_enter Tryz.func152,Tryz.ntmps152;go_wp2;go_ret;exact ⟨_,rfl,by unfold cB;simp,rfl⟩
 ·have hq : s.toList.isEmpty = false:=aY h0;go_enter Tryz.func152,Tryz.ntmps152;go_wp2_with (go_at_call 149;refine (ba _ _ hs).mono ?_;rintro e w1 ⟨r,rfl,hr,rfl⟩);go_ret;exact ⟨r,rfl,by unfold cB;simp [h0,hr],rfl⟩

theorem cy (s : ByteArray) (w : World) (hs : s.size ≤ 9223372036854775807) :
  Calls Tryz.prog 183 #[.string s] w (cj (cB s) w):=by
 by_cases h0 : s = ⟨#[]⟩
 ·subst h0;go_enter Tryz.func183,Tryz.ntmps183;go_wp2;go_ret;exact ⟨_,rfl,by unfold cB;simp,rfl⟩
 ·have hq : s.toList.isEmpty = false:=aY h0;go_enter Tryz.func183,Tryz.ntmps183;go_wp2_with (go_at_call 189;refine (aW _ _ hs).mono ?_;rintro e w1 ⟨r,rfl,hr,rfl⟩);go_ret;exact ⟨r,rfl,by unfold cB;simp [h0,hr],rfl⟩

def qT (n z : ByteArray) (c s u : Int) (zs : List ByteArray) : Prop:=aL n ∧ aL z ∧ Inn c 0 1000000 ∧ Inn s 0 8 ∧ Inn u 0 1000000 ∧ dd zs 8
theorem eS (n z : ByteArray) (c s u : Int) (d : Bool) (a : Option Addr) (len cap : Nat) (zs : List ByteArray) (w : World) (hn : n.size ≤ 9223372036854775807) (hz : z.size ≤ 9223372036854775807) (hr : ay w a len cap zs) :
  Calls Tryz.prog 105 #[.agg #[.string n,.string z,.int .i64 c,.int .i64 s,.int .i64 u,.bool d,.slice a len cap]] w (ar (qT n z c s u zs) w):=by
 have HR : Hid (ay w a len cap zs):=hr;clear hr;go_enter Tryz.func105,Tryz.ntmps105;go_wp2_with fail;refine (ba n _ hn).mono ?_;rintro e w1 ⟨r,rfl,hr,rfl⟩;by_cases hq : r = true;case neg =>
  exact eF
 have h0:=ae (hr.1 hq);subst hq;clear hr;go_wp2_with fail;refine (ba z _ hz).mono ?_;rintro e w1 ⟨r,rfl,hr,rfl⟩;by_cases hq : r = true;case neg =>
  exact fO
 have h1:=ae (hr.1 hq);subst hq;clear hr;go_wp2_with fail;refine (nX c _).mono ?_;rintro e w1 ⟨r,rfl,hr,rfl⟩;by_cases hq : r = true;case neg =>
  exact fP
 have h2:=ae (hr.1 hq);subst hq;clear hr;go_wp2_with fail;refine (lM s 0 8 _).mono ?_;rintro e w1 ⟨r,rfl,hr,rfl⟩;by_cases hq : r = true;case neg =>
  exact kv
 have h3:=ae (hr.1 hq);subst hq;clear hr;go_wp2_with fail;refine (kB u _).mono ?_;rintro e w1 ⟨r,rfl,hr,rfl⟩;by_cases hq : r = true;case neg =>
  exact nA
 have h4:=ae (hr.1 hq);subst hq;clear hr;go_wp2_with fail;refine (dX a len cap zs 8 _ (HR.out.below (an _ _))).mono ?_;rintro e w1 ⟨r,rfl,hr,hb⟩;go_wp2_with fail;go_ret;exact ⟨r,rfl,⟨fun h => ⟨h0.out,h1.out,h2.out,h3.out,h4.out,hr.1 h⟩,fun h => hr.2 h.2.2.2.2.2⟩,(b_ hb).2.1⟩

theorem sJ (n z : ByteArray) (c s u : Int) (d : Bool) (a : Option Addr) (len cap : Nat) (zs : List ByteArray) (w : World) (hn : n.size ≤ 9223372036854775807) (hz : z.size ≤ 9223372036854775807) (hr : ay w a len cap zs) :
  Calls Tryz.prog 234 #[.agg #[.string n,.string z,.int .i64 c,.int .i64 s,.int .i64 u,.bool d,.slice a len cap]] w (ar (qT n z c s u zs) w):=by
 have HR : Hid (ay w a len cap zs):=hr;clear hr;go_enter Tryz.func234,Tryz.ntmps234;go_wp2_with fail;refine (aW n _ hn).mono ?_;rintro e w1 ⟨r,rfl,hr,rfl⟩;by_cases hq : r = true;case neg =>
  exact eF
 have h0:=ae (hr.1 hq);subst hq;clear hr;go_wp2_with fail;refine (aW z _ hz).mono ?_;rintro e w1 ⟨r,rfl,hr,rfl⟩;by_cases hq : r = true;case neg =>
  exact fO
 have h1:=ae (hr.1 hq);subst hq;clear hr;go_wp2_with fail;refine (bO c 0 1000000 _).mono ?_;rintro e w1 ⟨r,rfl,hr,rfl⟩;by_cases hq : r = true;case neg =>
  exact fP
 have h2:=ae (hr.1 hq);subst hq;clear hr;go_wp2_with fail;refine (bO s 0 8 _).mono ?_;rintro e w1 ⟨r,rfl,hr,rfl⟩;by_cases hq : r = true;case neg =>
  exact kv
 have h3:=ae (hr.1 hq);subst hq;clear hr;go_wp2_with fail;refine (bO u 0 1000000 _).mono ?_;rintro e w1 ⟨r,rfl,hr,rfl⟩;by_cases hq : r = true;case neg =>
  exact nA
 have h4:=ae (hr.1 hq);subst hq;clear hr;go_wp2_with fail;refine (ec a len cap zs 8 _ (HR.out.below (an _ _))).mono ?_;rintro e w1 ⟨r,rfl,hr,rfl⟩;go_wp2_with fail;go_ret;exact ⟨r,rfl,⟨fun h => ⟨h0.out,h1.out,h2.out,h3.out,h4.out,hr.1 h⟩,fun h => hr.2 h.2.2.2.2.2⟩,an _ _⟩

def gq (n z : ByteArray) : Prop:=aL n ∧ cB z

theorem dY (n z : ByteArray) (x y : Bool) (w : World) (hn : n.size ≤ 9223372036854775807) (hz : z.size ≤ 9223372036854775807) :
  Calls Tryz.prog 106 #[.agg #[.string n,.bool x,.bool y,.string z]] w (ar (gq n z) w):=by
 go_enter Tryz.func106,Tryz.ntmps106;go_wp2_with fail;refine (ba n _ hn).mono ?_;rintro e w1 ⟨r,rfl,hr,rfl⟩;by_cases hq : r = true;case neg =>
  exact eF
 have h0:=ae (hr.1 hq);subst hq;clear hr;go_wp2_with fail;refine (dz z _ hz).mono ?_;exact vR

theorem fz (n z : ByteArray) (x y : Bool) (w : World) (hn : n.size ≤ 9223372036854775807) (hz : z.size ≤ 9223372036854775807) :
  Calls Tryz.prog 188 #[.agg #[.string n,.bool x,.bool y,.string z]] w (ar (gq n z) w):=by
 go_enter Tryz.func188,Tryz.ntmps188;go_wp2_with fail;refine (aW n _ hn).mono ?_;rintro e w1 ⟨r,rfl,hr,rfl⟩;by_cases hq : r = true;case neg =>
  exact eF
 have h0:=ae (hr.1 hq);subst hq;clear hr;go_wp2_with fail;refine (cy z _ hz).mono ?_;exact vR

def e_ (n : ByteArray) (z : Int) (k v : ByteArray) : Prop:=aL n ∧ Inn z 1 1048576 ∧ aL k ∧ cB v

theorem dZ (n : ByteArray) (z : Int) (k : ByteArray) (x : Bool) (v : ByteArray) (w : World) (hn : n.size ≤ 9223372036854775807) (hk : k.size ≤ 9223372036854775807) (hv : v.size ≤ 9223372036854775807) :
  Calls Tryz.prog 108 #[.agg #[.string n,.int .i64 z,.string k,.bool x,.string v]] w (ar (e_ n z k v) w):=by
 go_enter Tryz.func108,Tryz.ntmps108;go_wp2_with fail;refine (ba n _ hn).mono ?_;rintro e w1 ⟨r,rfl,hr,rfl⟩;by_cases hq : r = true;case neg =>
  exact eF
 have h0:=ae (hr.1 hq);subst hq;clear hr;go_wp2_with fail;refine (eW z _).mono ?_;rintro e w1 ⟨r,rfl,hr,rfl⟩;by_cases hq : r = true;case neg =>
  exact fO
 have h1:=ae (hr.1 hq);subst hq;clear hr;go_wp2_with fail;refine (ba k _ hk).mono ?_;rintro e w1 ⟨r,rfl,hr,rfl⟩;by_cases hq : r = true;case neg =>
  exact fP
 have h2:=ae (hr.1 hq);subst hq;clear hr;go_wp2_with fail;refine (dz v _ hv).mono ?_;exact vU

theorem ee (n : ByteArray) (z : Int) (k : ByteArray) (x : Bool) (v : ByteArray) (w : World) (hn : n.size ≤ 9223372036854775807) (hk : k.size ≤ 9223372036854775807) (hv : v.size ≤ 9223372036854775807) :
  Calls Tryz.prog 182 #[.agg #[.string n,.int .i64 z,.string k,.bool x,.string v]] w (ar (e_ n z k v) w):=by
 go_enter Tryz.func182,Tryz.ntmps182;go_wp2_with fail;refine (aW n _ hn).mono ?_;rintro e w1 ⟨r,rfl,hr,rfl⟩;by_cases hq : r = true;case neg =>
  exact eF
 have h0:=ae (hr.1 hq);subst hq;clear hr;go_wp2_with fail;refine (bO z 1 1048576 _).mono ?_;rintro e w1 ⟨r,rfl,hr,rfl⟩;by_cases hq : r = true;case neg =>
  exact fO
 have h1:=ae (hr.1 hq);subst hq;clear hr;go_wp2_with fail;refine (aW k _ hk).mono ?_;rintro e w1 ⟨r,rfl,hr,rfl⟩;by_cases hq : r = true;case neg =>
  exact fP
 have h2:=ae (hr.1 hq);subst hq;clear hr;go_wp2_with fail;refine (cy v _ hv).mono ?_;exact vU

def dw (d : ByteArray) (p : Int) : Prop:=(p = 0 ∧ d = ⟨#[]⟩) ∨ ((p = 1 ∨ p = 2) ∧ aL d)
def yK (n : ByteArray) (c : Int) (z : ByteArray) (zs : List ByteArray) (d : ByteArray) (p : Int) : Prop:=aL n ∧ Inn c 0 1000000 ∧ cB z ∧ dd zs 3 ∧ dw d p
theorem dW (d : ByteArray) : dw d 0 ↔ d = ⟨#[]⟩:=by unfold dw;simp
theorem fG {p : Int} (d : ByteArray) (h : p = 1 ∨ p = 2) : dw d p ↔ aL d:=by
 unfold dw;constructor
 ·rintro (⟨h1,_⟩ | ⟨_,h1⟩)
  ·omega
  ·exact h1
 ·exact fun h1 => Or.inr ⟨h,h1⟩
theorem mz {p : Int} {d : ByteArray} (h : p < 0 ∨ 2 < p) : ¬ dw d p:=by
 unfold dw;rintro (⟨h1,_⟩ | ⟨h1,_⟩) <;> omega
theorem dt (s : ByteArray) : s.toList.isEmpty = true ↔ s = ⟨#[]⟩:=by
 constructor
 ·intro h;by_cases h0 : s = ⟨#[]⟩
  ·exact h0
  ·rw [aY h0] at h;cases h
 ·rintro rfl;exact rK

theorem qy (n : ByteArray) (c : Int) (z : ByteArray) (a : Option Addr) (len cap : Nat) (d : ByteArray) (p : Int) (w : World) (hd : d.size ≤ 9223372036854775807) :
  Calls Tryz.prog 231 #[.agg #[.string n,.int .i64 c,.string z,.slice a len cap,.string d,.int .i64 p]] w (ar (dw d p) w):=by
 by_cases h0 : p = 0
 ·subst h0;go_enter Tryz.func231,Tryz.ntmps231;go_wp2;go_ret;exact ⟨_,rfl,by rw [dW,dt],an _ _⟩
 have hq0 : (p == 0) = false:=by simp [h0]
 by_cases h1 : p = 1
 ·subst h1;go_enter Tryz.func231,Tryz.ntmps231;go_wp2_with (go_at_call 189;refine (aW _ _ hd).mono ?_;rintro e w1 ⟨r,rfl,hr,rfl⟩);go_ret;exact ⟨r,rfl,by rw [fG d (Or.inl rfl),hr],an _ _⟩
 have hq1 : (p == 1) = false:=by simp [h1]
 by_cases h2 : p = 2
 ·subst h2;go_enter Tryz.func231,Tryz.ntmps231;go_wp2_with (go_at_call 189;refine (aW _ _ hd).mono ?_;rintro e w1 ⟨r,rfl,hr,rfl⟩);go_ret;exact ⟨r,rfl,by rw [fG d (Or.inr rfl),hr],an _ _⟩
 have hq2 : (p == 2) = false:=by simp [h2]
 go_enter Tryz.func231,Tryz.ntmps231;go_wp2;go_ret;exact ⟨false,rfl,⟨fun h => bM,fun h => absurd h (mz af)⟩,an _ _⟩

theorem yg (n : ByteArray) (c : Int) (z : ByteArray) (a : Option Addr) (len cap : Nat) (zs : List ByteArray) (d : ByteArray) (p : Int) (w : World) (hn : n.size ≤ 9223372036854775807) (hz : z.size ≤ 9223372036854775807) (hd : d.size ≤ 9223372036854775807) (hr : ay w a len cap zs) :
  Calls Tryz.prog 230 #[.agg #[.string n,.int .i64 c,.string z,.slice a len cap,.string d,.int .i64 p]] w (ar (yK n c z zs d p) w):=by
 have HR : Hid (ay w a len cap zs):=hr;clear hr;go_enter Tryz.func230,Tryz.ntmps230;go_wp2_with fail;refine (aW n _ hn).mono ?_;rintro e w1 ⟨r,rfl,hr,rfl⟩;by_cases hq : r = true;case neg =>
  exact eF
 have h0:=ae (hr.1 hq);subst hq;clear hr;go_wp2_with fail;refine (bO c 0 1000000 _).mono ?_;rintro e w1 ⟨r,rfl,hr,rfl⟩;by_cases hq : r = true;case neg =>
  exact fO
 have h1:=ae (hr.1 hq);subst hq;clear hr;go_wp2_with fail;refine (cy z _ hz).mono ?_;rintro e w1 ⟨r,rfl,hr,rfl⟩;by_cases hq : r = true;case neg =>
  exact fP
 have h2:=ae (hr.1 hq);subst hq;clear hr;go_wp2_with fail;refine (ec a len cap zs 3 _ (HR.out.below (an _ _))).mono ?_;rintro e w1 ⟨r,rfl,hr,rfl⟩;by_cases hq : r = true;case neg =>
  exact kv
 have h3:=ae (hr.1 hq);subst hq;clear hr;go_wp2_with fail;refine (qy n c z a len cap d p _ hd).mono ?_;rintro e w1 ⟨r,rfl,hr,hb⟩;go_wp2_with fail;go_ret;exact ⟨r,rfl,⟨fun h => ⟨h0.out,h1.out,h2.out,h3.out,hr.1 h⟩,fun h => hr.2 h.2.2.2.2⟩,(b_ hb).2.1⟩

theorem fH (n : ByteArray) (c : Int) (z : ByteArray) (a : Option Addr) (len cap : Nat) (zs : List ByteArray) (d : ByteArray) (p : Int) (w : World) (hn : n.size ≤ 9223372036854775807) (hz : z.size ≤ 9223372036854775807) (hd : d.size ≤ 9223372036854775807) (hr : ay w a len cap zs) :
  Calls Tryz.prog 109 #[.agg #[.string n,.int .i64 c,.string z,.slice a len cap,.string d,.int .i64 p]] w (ar (yK n c z zs d p) w):=by
 have HR : Hid (ay w a len cap zs):=hr;clear hr;go_enter Tryz.func109,Tryz.ntmps109;go_wp2_with fail;refine (ba n _ hn).mono ?_;rintro e w1 ⟨r,rfl,hr,rfl⟩;by_cases hq : r = true;case neg =>
  exact eF
 have h0:=ae (hr.1 hq);subst hq;clear hr;go_wp2_with fail;refine (nX c _).mono ?_;rintro e w1 ⟨r,rfl,hr,rfl⟩;by_cases hq : r = true;case neg =>
  exact fO
 have h1:=ae (hr.1 hq);subst hq;clear hr;go_wp2_with fail;refine (dz z _ hz).mono ?_;rintro e w1 ⟨r,rfl,hr,rfl⟩;by_cases hq : r = true;case neg =>
  exact fP
 have h2:=ae (hr.1 hq);subst hq;clear hr;go_wp2_with fail;refine (dX a len cap zs 3 _ (HR.out.below (an _ _))).mono ?_;rintro e w1 ⟨r,rfl,hr,hb⟩;obtain ⟨hsl,hb1,-⟩:=b_ hb;have HB : Hid (Below w.heap.size w w1):=hb1;by_cases hq : r = true;case neg =>
  obtain ⟨HN,hrf⟩:=dB;clear hsl hb hb1 hr;go_wp2_with fail;go_ret;exact ⟨false,rfl,⟨fun h => bM,fun h => (HN.out h.2.2.2.1).elim⟩,HB.out⟩
 have h3:=ae (hr.1 hq);subst hq;have hc4 : w1.cell? ⟨w.heap.size,4,none⟩ = some (.string d):=ah hsl 4;have hc5 : w1.cell? ⟨w.heap.size,5,none⟩ = some (.int .i64 p):=ah hsl 5;clear hr hsl hb hb1;go_wp2_with fail;refine (lM p 0 2 _).mono ?_;rintro e w2 ⟨r,rfl,hr,rfl⟩;by_cases hq : r = true;case neg =>
  obtain ⟨HN,hrf⟩:=dB;clear hr;go_wp2_with fail;go_ret;exact ⟨false,rfl,⟨fun h => bM,fun h => absurd h.2.2.2.2 (mz (by have h9 : ¬ (0 ≤ p ∧ p ≤ 2):=HN.out;omega))⟩,HB.out⟩
 have h4:=hr.1 hq;subst hq;clear hr;by_cases hp : p = 0
 ·subst hp;go_wp2_with fail;go_ret;exact ⟨_,rfl,⟨fun h => ⟨h0.out,h1.out,h2.out,h3.out,(dW d).2 ((dt d).1 h)⟩,fun h => (dt d).2 ((dW d).1 h.2.2.2.2)⟩,HB.out⟩
 have hq : (p == 0) = false:=by simp [hp]
 have hp2 : p = 1 ∨ p = 2:=by unfold Inn at h4;omega
 go_wp2_with fail;refine (ba d _ hd).mono ?_;rintro e w2 ⟨r,rfl,hr,rfl⟩;go_wp2_with fail;go_ret;exact ⟨r,rfl,⟨fun h => ⟨h0.out,h1.out,h2.out,h3.out,(fG d hp2).2 (hr.1 h)⟩,fun h => hr.2 ((fG d hp2).1 h.2.2.2.2)⟩,HB.out⟩

def rS (n : ByteArray) (c : Int) (z k : ByteArray) (x : Bool) (m : ByteArray) (y : Bool) (zs : List ByteArray) : Prop :=
 aL n ∧ Inn c 1 1048576 ∧ aL z ∧ aL k ∧ cB m ∧ (y = true → m = ⟨#[]⟩) ∧ dd zs (if x = true then 1 else 6)

theorem jm (n : ByteArray) (c : Int) (z k : ByteArray) (x : Bool) (m : ByteArray) (y : Bool) (a : Option Addr) (len cap : Nat) (w : World) :
  Calls Tryz.prog 208 #[.agg #[.string n,.int .i64 c,.string z,.string k,.bool x,.string m,.bool y,.slice a len cap]] w fun e w' => e = .returned (.int .i64 (if x = true then 1 else 6)) ∧ Below w.heap.size w w':=by
 cases x;all_goals (
  go_enter Tryz.func208,Tryz.ntmps208
  go_wp2
  go_ret
  exact ⟨rfl,an _ _⟩)

theorem gK {zs : List ByteArray} {x : Bool} (h : dd zs (if x = true then 1 else 6)) : dd zs 6:=by
 refine ⟨?_,h.2⟩;have:=h.1;split at this <;> omega

theorem fF (n : ByteArray) (c : Int) (z k : ByteArray) (x : Bool) (m : ByteArray) (y : Bool) (a : Option Addr) (len cap : Nat) (zs : List ByteArray) (w : World) (hn : n.size ≤ 9223372036854775807) (hz : z.size ≤ 9223372036854775807) (hk : k.size ≤ 9223372036854775807) (hm : m.size ≤ 9223372036854775807) (hr : ay w a len cap zs) :
  Calls Tryz.prog 107 #[.agg #[.string n,.int .i64 c,.string z,.string k,.bool x,.string m,.bool y,.slice a len cap]] w (ar (rS n c z k x m y zs) w):=by
 have HR : Hid (ay w a len cap zs):=hr;have hzl : zs.length = len:=hr.1;have hlc : len ≤ 9223372036854775807:=Nat.le_trans hr.2.1 hr.2.2.1;clear hr;cases y
 ·have HY : Hid (false = true → m = ⟨#[]⟩):=fun h => bM;go_enter Tryz.func107,Tryz.ntmps107;go_wp2_with fail;refine (ba n _ hn).mono ?_;rintro e w1 ⟨r,rfl,hr,rfl⟩;by_cases hq : r = true;case neg =>
   exact eF
  have h0:=ae (hr.1 hq);subst hq;clear hr;go_wp2_with fail;refine (eW c _).mono ?_;rintro e w1 ⟨r,rfl,hr,rfl⟩;by_cases hq : r = true;case neg =>
   exact fO
  have h1:=ae (hr.1 hq);subst hq;clear hr;go_wp2_with fail;refine (ba z _ hz).mono ?_;rintro e w1 ⟨r,rfl,hr,rfl⟩;by_cases hq : r = true;case neg =>
   exact fP
  have h2:=ae (hr.1 hq);subst hq;clear hr;go_wp2_with fail;refine (ba k _ hk).mono ?_;rintro e w1 ⟨r,rfl,hr,rfl⟩;by_cases hq : r = true;case neg =>
   exact kv
  have h3:=ae (hr.1 hq);subst hq;clear hr;go_wp2_with fail;refine (dz _ _ hm).mono ?_;rintro e w1 ⟨r,rfl,hr,rfl⟩;by_cases hq : r = true;case neg =>
   exact nA
  have h4:=ae (hr.1 hq);subst hq;clear hr;go_wp2_with fail;refine (dX a len cap zs 6 _ (HR.out.below (an _ _))).mono ?_;rintro e w1 ⟨r,rfl,hr,hb⟩;obtain ⟨hsl,hb1,-⟩:=b_ hb;have HB : Hid (Below w.heap.size w w1):=hb1;by_cases hq : r = true;case neg =>
   exact xy
  have h6:=ae (hr.1 hq);subst hq;have hc4 : w1.cell? ⟨w.heap.size,4,none⟩ = some (.bool x):=ah hsl 4;have hc7 : w1.cell? ⟨w.heap.size,7,none⟩ = some (.slice a len cap):=ah hsl 7;clear hr hsl hb hb1;cases x
  ·go_wp2_with fail;go_ret;exact ⟨true,rfl,⟨fun _ => ⟨h0.out,h1.out,h2.out,h3.out,h4.out,HY.out,by simpa using h6.out⟩,fun _ => rfl⟩,HB.out⟩
  ·go_wp2_with fail;go_ret;refine ⟨_,rfl,⟨fun h => ⟨h0.out,h1.out,h2.out,h3.out,h4.out,HY.out,?_,h6.out.2⟩,fun h => ?_⟩,HB.out⟩
   ·simp at h ⊢;omega
   ·have:=h.2.2.2.2.2.2.1;simp at this ⊢;omega
 by_cases hm0 : m = ⟨#[]⟩
 ·subst hm0;have HY : Hid True:=trivial;go_enter Tryz.func107,Tryz.ntmps107;go_wp2_with fail;refine (ba n _ hn).mono ?_;rintro e w1 ⟨r,rfl,hr,rfl⟩;by_cases hq : r = true;case neg =>
   exact eF
  have h0:=ae (hr.1 hq);subst hq;clear hr;go_wp2_with fail;refine (eW c _).mono ?_;rintro e w1 ⟨r,rfl,hr,rfl⟩;by_cases hq : r = true;case neg =>
   exact fO
  have h1:=ae (hr.1 hq);subst hq;clear hr;go_wp2_with fail;refine (ba z _ hz).mono ?_;rintro e w1 ⟨r,rfl,hr,rfl⟩;by_cases hq : r = true;case neg =>
   exact fP
  have h2:=ae (hr.1 hq);subst hq;clear hr;go_wp2_with fail;refine (ba k _ hk).mono ?_;rintro e w1 ⟨r,rfl,hr,rfl⟩;by_cases hq : r = true;case neg =>
   exact kv
  have h3:=ae (hr.1 hq);subst hq;clear hr;go_wp2_with fail;refine (dz _ _ hm).mono ?_;rintro e w1 ⟨r,rfl,hr,rfl⟩;by_cases hq : r = true;case neg =>
   exact nA
  have h4:=ae (hr.1 hq);subst hq;clear hr;go_wp2_with fail;refine (dX a len cap zs 6 _ (HR.out.below (an _ _))).mono ?_;rintro e w1 ⟨r,rfl,hr,hb⟩;obtain ⟨hsl,hb1,-⟩:=b_ hb;have HB : Hid (Below w.heap.size w w1):=hb1;by_cases hq : r = true;case neg =>
   exact xy
  have h6:=ae (hr.1 hq);subst hq;have hc4 : w1.cell? ⟨w.heap.size,4,none⟩ = some (.bool x):=ah hsl 4;have hc7 : w1.cell? ⟨w.heap.size,7,none⟩ = some (.slice a len cap):=ah hsl 7;clear hr hsl hb hb1;cases x
  ·go_wp2_with fail;go_ret;exact ⟨true,rfl,⟨fun _ => ⟨h0.out,h1.out,h2.out,h3.out,h4.out,(fun _ => rfl),by simpa using h6.out⟩,fun _ => rfl⟩,HB.out⟩
  ·go_wp2_with fail;go_ret;refine ⟨_,rfl,⟨fun h => ⟨h0.out,h1.out,h2.out,h3.out,h4.out,(fun _ => rfl),?_,h6.out.2⟩,fun h => ?_⟩,HB.out⟩
   ·simp at h ⊢;omega
   ·have:=h.2.2.2.2.2.2.1;simp at this ⊢;omega
 have hq9 : m.toList.isEmpty = false:=aY hm0;go_enter Tryz.func107,Tryz.ntmps107;go_wp2_with fail;refine (ba n _ hn).mono ?_;rintro e w1 ⟨r,rfl,hr,rfl⟩;by_cases hq : r = true;case neg =>
  exact eF
 have h0:=ae (hr.1 hq);subst hq;clear hr;go_wp2_with fail;refine (eW c _).mono ?_;rintro e w1 ⟨r,rfl,hr,rfl⟩;by_cases hq : r = true;case neg =>
  exact fO
 have h1:=ae (hr.1 hq);subst hq;clear hr;go_wp2_with fail;refine (ba z _ hz).mono ?_;rintro e w1 ⟨r,rfl,hr,rfl⟩;by_cases hq : r = true;case neg =>
  exact fP
 have h2:=ae (hr.1 hq);subst hq;clear hr;go_wp2_with fail;refine (ba k _ hk).mono ?_;rintro e w1 ⟨r,rfl,hr,rfl⟩;by_cases hq : r = true;case neg =>
  exact kv
 have h3:=ae (hr.1 hq);subst hq;clear hr;go_wp2_with fail;refine (dz _ _ hm).mono ?_;rintro e w1 ⟨r,rfl,hr,rfl⟩;by_cases hq : r = true;case neg =>
  exact nA
 have h4:=ae (hr.1 hq);subst hq;clear hr;exact vK

theorem au {w : World} {b : Nat} {vs : Array Value} {T : TypeId} (h : w.heap[b]? = some (.cells vs T (0,0))) (i : Nat) : w.frozen? ⟨b,i,none⟩ = false:=by simp [World.frozen?,h]
theorem ay.copy {w : World} {b len : Nat} {zs : List ByteArray} {T : TypeId} (h : w.heap[b]? = some (.cells (zs.map Value.string).toArray T (0,0))) (hl : zs.length = len) (hl2 : len ≤ 1048576) (hs : ∀ (j : Nat) x,zs[j]? = some x → x.size ≤ 9223372036854775807) :
  ay w (some ⟨b,0,none⟩) len len zs:=by
 refine ⟨hl,Nat.le_refl _,by omega,hs,?_⟩;by_cases hz : zs = []
 ·exact Or.inl hz
 refine Or.inr ⟨b,0,rfl,?_,fun j x hx => ?_⟩
 ·exact wK
 ·rw [ah h];simp [hx]

theorem aQ {w1 : World} {b i k : Nat} {v : Value} {o : Option Obj} (hk : k ≠ b) (h : w1.heap[k]? = o) : (w1.setCell ⟨b,i,none⟩ v).heap[k]? = o:=by rw [Below.heap_setCell _ _ _ _ hk];exact h
theorem ag {w w1 : World} {B b i : Nat} {v : Value} (hB : B ≤ b) (h : Below B w w1) : Below B w (w1.setCell ⟨b,i,none⟩ v):=h.setCell hB v
theorem aa {w : World} {b : Nat} {o : Obj} (h : w.heap[b]? = some o) : b < w.heap.size:=by
 exact wK
theorem upK {w w' : World} {k : Nat} {o : Obj} (h : Hid (w.heap[k]? = some o)) (hb : Below w.heap.size w w') : Hid (w'.heap[k]? = some o):=(hb.block _ (aa h)).trans h
theorem upB {w w1 w2 : World} (h : Hid (Below w.heap.size w w1)) (hb : Below w1.heap.size w1 w2) : Hid (Below w.heap.size w w2):=Below.trans h (hb.mono (Below.size h))
theorem sb1 {w w1 : World} {i : Nat} {v : Value} (h : Below w.heap.size w w1) : Below w.heap.size w (w1.setCell ⟨w.heap.size + 1,i,none⟩ v):=ag (by omega) h
theorem sb2 {w w1 : World} {i : Nat} {v : Value} (h : Below w.heap.size w w1) : Below w.heap.size w (w1.setCell ⟨w.heap.size + 1 + 1,i,none⟩ v):=ag (by omega) h
theorem sb3 {w w1 : World} {i : Nat} {v : Value} (h : Below w.heap.size w w1) : Below w.heap.size w (w1.setCell ⟨w.heap.size + 1 + 1 + 1,i,none⟩ v):=ag (by omega) h
theorem cK (w : World) (o p : Obj) : ((w.alloc o).alloc p).heap[w.heap.size]? = some o:=by
 rw [Below.heap_alloc _ _ _ aN];exact Array.getElem?_push_size
theorem bK (w : World) (o p : Obj) : ((w.alloc o).alloc p).heap[w.heap.size + 1]? = some p:=by
 have h : w.heap.size + 1 = (w.alloc o).heap.size:=aN
 rw [h];exact Array.getElem?_push_size
theorem dJ (w : World) (o p q : Obj) : (((w.alloc o).alloc p).alloc q).heap[w.heap.size]? = some o:=by
 rw [Below.heap_alloc _ _ _ bF,Below.heap_alloc _ _ _ aN];show (w.heap.push _)[w.heap.size]? = _;simp
theorem db (w : World) (o p q : Obj) : (((w.alloc o).alloc p).alloc q).heap[w.heap.size + 1]? = some p:=by
 rw [Below.heap_alloc _ _ _ aN];have h : w.heap.size + 1 = (w.alloc o).heap.size:=aN
 rw [h];show ((w.alloc o).heap.push _)[(w.alloc o).heap.size]? = _;exact Array.getElem?_push_size
theorem cz (w : World) (o p q : Obj) : (((w.alloc o).alloc p).alloc q).heap[w.heap.size + 1 + 1]? = some q:=by
 have h : w.heap.size + 1 + 1 = ((w.alloc o).alloc p).heap.size:=aN
 rw [h];show (((w.alloc o).alloc p).heap.push _)[((w.alloc o).alloc p).heap.size]? = _;exact Array.getElem?_push_size
def SzB (left : Int) (p : Prop) (w : World) (e : Ending) (w' : World) : Prop:=∃ r : Int,e = .returned (.int .i64 r) ∧ (r = -1 ∨ (0 ≤ r ∧ r ≤ left ∧ p)) ∧ Below w.heap.size w w'
theorem aF (w : World) (o p : Obj) : Below w.heap.size w ((w.alloc o).alloc p):=(an w o).alloc (by simp) p
theorem br (w : World) (o p q : Obj) : Below w.heap.size w (((w.alloc o).alloc p).alloc q):=(aF w o p).alloc (by simp;omega) q
theorem aV {a b : ByteArray} (h : a = b) : (a.toList == b.toList) = true:=by rw [h];simp

theorem mw (n : ByteArray) (x : Bool) (y : Bool) (z : ByteArray) (left : Int) (w : World) (hn : n.size ≤ 9223372036854775807) (hz : z.size ≤ 9223372036854775807) (h0 : 0 ≤ left) (h1 : left ≤ 1048576) :
  Calls Tryz.prog 55 #[.agg #[.string n,.bool x,.bool y,.string z],.int .i64 left] w (SzB left True w):=by
 by_cases h9n : left < (n.size : Int)
 ·go_enter Tryz.func55,Tryz.ntmps55;go_wp2;go_ret;exact ⟨-1,rfl,.inl rfl,an _ _⟩
 by_cases h9z : left < (n.size : Int) + (z.size : Int)
 ·go_enter Tryz.func55,Tryz.ntmps55;go_wp2;go_ret;exact ⟨-1,rfl,.inl rfl,an _ _⟩
 go_enter Tryz.func55,Tryz.ntmps55;go_wp2;go_ret;exact ⟨_,rfl,.inr ⟨by omega,by omega,trivial⟩,an _ _⟩

theorem mh (n : ByteArray) (x : Bool) (y : Bool) (z : ByteArray) (w : World) :
  Calls Tryz.prog 70 #[.agg #[.string n,.bool x,.bool y,.string z]] w fun e w' => e = .returned (.agg #[.string n,.bool x,.bool y,.string z]) ∧ Below w.heap.size w w':=by
 go_enter Tryz.func70,Tryz.ntmps70;go_wp2;exact bodyPost_ret (v:=.agg #[.string n,.bool x,.bool y,.string z]) (by simp [results,Tryz.results70,go_sem]) rfl ⟨rfl,br _ _ _ _⟩

theorem mx (n : ByteArray) (z : Int) (k : ByteArray) (x : Bool) (v : ByteArray) (left : Int) (w : World) (hn : n.size ≤ 9223372036854775807) (hk : k.size ≤ 9223372036854775807) (hv : v.size ≤ 9223372036854775807) (h0 : 0 ≤ left) (h1 : left ≤ 1048576) :
  Calls Tryz.prog 57 #[.agg #[.string n,.int .i64 z,.string k,.bool x,.string v],.int .i64 left] w (SzB left True w):=by
 by_cases h9n : left < (n.size : Int)
 ·exact pJ
 by_cases h9k : left < (n.size : Int) + (k.size : Int)
 ·exact pJ
 by_cases h9v : left < (n.size : Int) + (k.size : Int) + (v.size : Int)
 ·exact pJ
 go_enter Tryz.func57,Tryz.ntmps57;go_wp2;go_ret;exact ⟨_,rfl,.inr ⟨by omega,by omega,trivial⟩,an _ _⟩

theorem mi (n : ByteArray) (z : Int) (k : ByteArray) (x : Bool) (v : ByteArray) (w : World) :
  Calls Tryz.prog 72 #[.agg #[.string n,.int .i64 z,.string k,.bool x,.string v]] w fun e w' => e = .returned (.agg #[.string n,.int .i64 z,.string k,.bool x,.string v]) ∧ Below w.heap.size w w':=by
 go_enter Tryz.func72,Tryz.ntmps72;go_wp2;exact bodyPost_ret (v:=.agg #[.string n,.int .i64 z,.string k,.bool x,.string v]) (by simp [results,Tryz.results72,go_sem]) rfl ⟨rfl,br _ _ _ _⟩

theorem oF (n : ByteArray) (z : ByteArray) (c : Int) (s : Int) (u : Int) (d : Bool) (a : Option Addr) (len cap : Nat) (zs : List ByteArray) (left : Int) (w : World) (hn : n.size ≤ 9223372036854775807) (hz : z.size ≤ 9223372036854775807) (hr : ay w a len cap zs) (h0 : 0 ≤ left) (h1 : left ≤ 1048576) :
  Calls Tryz.prog 54 #[.agg #[.string n,.string z,.int .i64 c,.int .i64 s,.int .i64 u,.bool d,.slice a len cap],.int .i64 left] w (SzB left (len ≤ 1048576) w):=by
 have HR : Hid (ay w a len cap zs):=hr;clear hr;by_cases h9n : left < (n.size : Int)
 ·go_enter Tryz.func54,Tryz.ntmps54;go_wp2;go_ret;exact ⟨-1,rfl,.inl rfl,an _ _⟩
 by_cases h9z : left < (n.size : Int) + (z.size : Int)
 ·go_enter Tryz.func54,Tryz.ntmps54;go_wp2;go_ret;exact ⟨-1,rfl,.inl rfl,an _ _⟩
 go_enter Tryz.func54,Tryz.ntmps54;exact AN

theorem oC (n : ByteArray) (z : ByteArray) (c : Int) (s : Int) (u : Int) (d : Bool) (a : Option Addr) (len cap : Nat) (zs : List ByteArray) (w : World) (hr : ay w a len cap zs) (hl : len ≤ 1048576) :
  Calls Tryz.prog 69 #[.agg #[.string n,.string z,.int .i64 c,.int .i64 s,.int .i64 u,.bool d,.slice a len cap]] w fun e w' => e = .returned (.agg #[.string n,.string z,.int .i64 c,.int .i64 s,.int .i64 u,.bool d,.slice (some ⟨w.heap.size + 1 + 1 + 1,0,none⟩) len len]) ∧ w'.heap[w.heap.size + 1 + 1 + 1]? = some (.cells (zs.map Value.string).toArray 9 (0,0)) ∧ Below w.heap.size w w':=by
 have HR : Hid (ay w a len cap zs):=hr;clear hr;go_enter Tryz.func69,Tryz.ntmps69;go_wp2_with fail;refine (kX a len cap zs _ (HR.out.below (br _ _ _ _)) hl).mono ?_;rintro e w1 ⟨rfl,hG,hb⟩;have hsz : (((w.alloc (.cells #[.string n,.string z,.int .i64 c,.int .i64 s,.int .i64 u,.bool d,.slice a len cap] 97)).alloc (.cells #[.string ⟨#[]⟩,.string ⟨#[]⟩,.int .i64 0,.int .i64 0,.int .i64 0,.bool false,.slice none 0 0] 72)).alloc (.cells #[.string n,.string z,.int .i64 c,.int .i64 s,.int .i64 u,.bool d,.slice none 0 0] 72)).heap.size = w.heap.size + 1 + 1 + 1:=aN
 rw [hsz] at hG hb ⊢;have g0 : w1.heap[w.heap.size]? = some (.cells #[.string n,.string z,.int .i64 c,.int .i64 s,.int .i64 u,.bool d,.slice a len cap] 97 (0,0)):=by rw [hb.block _ af];exact dJ _ _ _ _
 have g1 : w1.heap[w.heap.size + 1]? = some (.cells #[.string ⟨#[]⟩,.string ⟨#[]⟩,.int .i64 0,.int .i64 0,.int .i64 0,.bool false,.slice none 0 0] 72 (0,0)):=by rw [hb.block _ af];exact db _ _ _ _
 have g2 : w1.heap[w.heap.size + 1 + 1]? = some (.cells #[.string n,.string z,.int .i64 c,.int .i64 s,.int .i64 u,.bool d,.slice none 0 0] 72 (0,0)):=by rw [hb.block _ af];exact cz _ _ _ _
 have HG:=ae hG;have HB : Hid (Below w.heap.size w w1):=(br _ _ _ _).trans (hb.mono af);have c20 : w1.cell? ⟨w.heap.size + 1 + 1,0,none⟩ = some (.string n):=ah g2 0;have f20 : w1.frozen? ⟨w.heap.size + 1 + 1,0,none⟩ = false:=au g2 0;have c10 : w1.cell? ⟨w.heap.size + 1,0,none⟩ = some (.string ⟨#[]⟩):=ah g1 0;have f10 : w1.frozen? ⟨w.heap.size + 1,0,none⟩ = false:=au g1 0;have c21 : w1.cell? ⟨w.heap.size + 1 + 1,1,none⟩ = some (.string z):=ah g2 1;have f21 : w1.frozen? ⟨w.heap.size + 1 + 1,1,none⟩ = false:=au g2 1;have c11 : w1.cell? ⟨w.heap.size + 1,1,none⟩ = some (.string ⟨#[]⟩):=ah g1 1;have f11 : w1.frozen? ⟨w.heap.size + 1,1,none⟩ = false:=au g1 1;have c22 : w1.cell? ⟨w.heap.size + 1 + 1,2,none⟩ = some (.int .i64 c):=ah g2 2;have f22 : w1.frozen? ⟨w.heap.size + 1 + 1,2,none⟩ = false:=au g2 2;have c12 : w1.cell? ⟨w.heap.size + 1,2,none⟩ = some (.int .i64 0):=ah g1 2;have f12 : w1.frozen? ⟨w.heap.size + 1,2,none⟩ = false:=au g1 2;have c23 : w1.cell? ⟨w.heap.size + 1 + 1,3,none⟩ = some (.int .i64 s):=ah g2 3;have f23 : w1.frozen? ⟨w.heap.size + 1 + 1,3,none⟩ = false:=au g2 3;have c13 : w1.cell? ⟨w.heap.size + 1,3,none⟩ = some (.int .i64 0):=ah g1 3;have f13 : w1.frozen? ⟨w.heap.size + 1,3,none⟩ = false:=au g1 3;have c24 : w1.cell? ⟨w.heap.size + 1 + 1,4,none⟩ = some (.int .i64 u):=ah g2 4;have f24 : w1.frozen? ⟨w.heap.size + 1 + 1,4,none⟩ = false:=au g2 4;have c14 : w1.cell? ⟨w.heap.size + 1,4,none⟩ = some (.int .i64 0):=ah g1 4;have f14 : w1.frozen? ⟨w.heap.size + 1,4,none⟩ = false:=au g1 4;have c25 : w1.cell? ⟨w.heap.size + 1 + 1,5,none⟩ = some (.bool d):=ah g2 5;have f25 : w1.frozen? ⟨w.heap.size + 1 + 1,5,none⟩ = false:=au g2 5;have c15 : w1.cell? ⟨w.heap.size + 1,5,none⟩ = some (.bool false):=ah g1 5;have f15 : w1.frozen? ⟨w.heap.size + 1,5,none⟩ = false:=au g1 5;have c26 : w1.cell? ⟨w.heap.size + 1 + 1,6,none⟩ = some (.slice none 0 0):=ah g2 6;have f26 : w1.frozen? ⟨w.heap.size + 1 + 1,6,none⟩ = false:=au g2 6;have c16 : w1.cell? ⟨w.heap.size + 1,6,none⟩ = some (.slice none 0 0):=ah g1 6;have f16 : w1.frozen? ⟨w.heap.size + 1,6,none⟩ = false:=au g1 6;clear g0 g1 g2 hG hb hsz;go_wp2;refine bodyPost_ret (v:=.agg #[.string n,.string z,.int .i64 c,.int .i64 s,.int .i64 u,.bool d,.slice (some ⟨w.heap.size + 1 + 1 + 1,0,none⟩) len len]) (by simp [results,Tryz.results69,go_sem, *]) rfl ⟨rfl,?_,?_⟩
 ·exact aQ af (aQ af (aQ af (aQ af (aQ af (aQ af (aQ af (aQ af (HG.out))))))))
 ·exact ag af (ag af (ag af (ag af (ag af (ag af (ag af (ag af (HB.out))))))))

theorem qO (n : ByteArray) (z : ByteArray) (c : Int) (s : Int) (u : Int) (d : Bool) (a : Option Addr) (len cap : Nat) (zs : List ByteArray) (a' : Option Addr) (len' cap' : Nat) (w : World) (hr : ay w a len cap zs) (hr' : ay w a' len' cap' zs) :
  Calls Tryz.prog 80 #[.agg #[.string n,.string z,.int .i64 c,.int .i64 s,.int .i64 u,.bool d,.slice a len cap],.agg #[.string n,.string z,.int .i64 c,.int .i64 s,.int .i64 u,.bool d,.slice a' len' cap']] w fun e w' => e = .returned (.bool true) ∧ Below w.heap.size w w':=by
 have HR : Hid (ay w a len cap zs):=hr;have HR' : Hid (ay w a' len' cap' zs):=hr';clear hr hr';go_enter Tryz.func80,Tryz.ntmps80;exact AS

theorem lx (n : ByteArray) (c : Int) (z : ByteArray) (k : ByteArray) (x : Bool) (m : ByteArray) (y : Bool) (a : Option Addr) (len cap : Nat) (zs : List ByteArray) (left : Int) (w : World) (hn : n.size ≤ 9223372036854775807) (hz : z.size ≤ 9223372036854775807) (hk : k.size ≤ 9223372036854775807) (hm : m.size ≤ 9223372036854775807) (hr : ay w a len cap zs) (h0 : 0 ≤ left) (h1 : left ≤ 1048576) :
  Calls Tryz.prog 56 #[.agg #[.string n,.int .i64 c,.string z,.string k,.bool x,.string m,.bool y,.slice a len cap],.int .i64 left] w (SzB left (len ≤ 1048576) w):=by
 have HR : Hid (ay w a len cap zs):=hr;clear hr;by_cases h9n : left < (n.size : Int)
 ·exact lC
 by_cases h9z : left < (n.size : Int) + (z.size : Int)
 ·exact lC
 by_cases h9k : left < (n.size : Int) + (z.size : Int) + (k.size : Int)
 ·exact lC
 by_cases h9m : left < (n.size : Int) + (z.size : Int) + (k.size : Int) + (m.size : Int)
 ·exact lC
 go_enter Tryz.func56,Tryz.ntmps56;exact AN

theorem kW (n : ByteArray) (c : Int) (z : ByteArray) (k : ByteArray) (x : Bool) (m : ByteArray) (y : Bool) (a : Option Addr) (len cap : Nat) (zs : List ByteArray) (w : World) (hr : ay w a len cap zs) (hl : len ≤ 1048576) :
  Calls Tryz.prog 71 #[.agg #[.string n,.int .i64 c,.string z,.string k,.bool x,.string m,.bool y,.slice a len cap]] w fun e w' => e = .returned (.agg #[.string n,.int .i64 c,.string z,.string k,.bool x,.string m,.bool y,.slice (some ⟨w.heap.size + 1 + 1 + 1,0,none⟩) len len]) ∧ w'.heap[w.heap.size + 1 + 1 + 1]? = some (.cells (zs.map Value.string).toArray 9 (0,0)) ∧ Below w.heap.size w w':=by
 have HR : Hid (ay w a len cap zs):=hr;clear hr;go_enter Tryz.func71,Tryz.ntmps71;go_wp2_with fail;refine (kX a len cap zs _ (HR.out.below (br _ _ _ _)) hl).mono ?_;rintro e w1 ⟨rfl,hG,hb⟩;have hsz : (((w.alloc (.cells #[.string n,.int .i64 c,.string z,.string k,.bool x,.string m,.bool y,.slice a len cap] 103)).alloc (.cells #[.string ⟨#[]⟩,.int .i64 0,.string ⟨#[]⟩,.string ⟨#[]⟩,.bool false,.string ⟨#[]⟩,.bool false,.slice none 0 0] 118)).alloc (.cells #[.string n,.int .i64 c,.string z,.string k,.bool x,.string m,.bool y,.slice none 0 0] 118)).heap.size = w.heap.size + 1 + 1 + 1:=aN
 rw [hsz] at hG hb ⊢;have g0 : w1.heap[w.heap.size]? = some (.cells #[.string n,.int .i64 c,.string z,.string k,.bool x,.string m,.bool y,.slice a len cap] 103 (0,0)):=by rw [hb.block _ af];exact dJ _ _ _ _
 have g1 : w1.heap[w.heap.size + 1]? = some (.cells #[.string ⟨#[]⟩,.int .i64 0,.string ⟨#[]⟩,.string ⟨#[]⟩,.bool false,.string ⟨#[]⟩,.bool false,.slice none 0 0] 118 (0,0)):=by rw [hb.block _ af];exact db _ _ _ _
 have g2 : w1.heap[w.heap.size + 1 + 1]? = some (.cells #[.string n,.int .i64 c,.string z,.string k,.bool x,.string m,.bool y,.slice none 0 0] 118 (0,0)):=by rw [hb.block _ af];exact cz _ _ _ _
 have HG:=ae hG;have HB : Hid (Below w.heap.size w w1):=(br _ _ _ _).trans (hb.mono af);obtain ⟨c20,f20,c10,f10,c21,f21,c11,f11,c22,f22,c12,f12⟩:=AK;have c23 : w1.cell? ⟨w.heap.size + 1 + 1,3,none⟩ = some (.string k):=ah g2 3;have f23 : w1.frozen? ⟨w.heap.size + 1 + 1,3,none⟩ = false:=au g2 3;have c13 : w1.cell? ⟨w.heap.size + 1,3,none⟩ = some (.string ⟨#[]⟩):=ah g1 3;have f13 : w1.frozen? ⟨w.heap.size + 1,3,none⟩ = false:=au g1 3;have c24 : w1.cell? ⟨w.heap.size + 1 + 1,4,none⟩ = some (.bool x):=ah g2 4;have f24 : w1.frozen? ⟨w.heap.size + 1 + 1,4,none⟩ = false:=au g2 4;have c14 : w1.cell? ⟨w.heap.size + 1,4,none⟩ = some (.bool false):=ah g1 4;have f14 : w1.frozen? ⟨w.heap.size + 1,4,none⟩ = false:=au g1 4;have c25 : w1.cell? ⟨w.heap.size + 1 + 1,5,none⟩ = some (.string m):=ah g2 5;have f25 : w1.frozen? ⟨w.heap.size + 1 + 1,5,none⟩ = false:=au g2 5;have c15 : w1.cell? ⟨w.heap.size + 1,5,none⟩ = some (.string ⟨#[]⟩):=ah g1 5;have f15 : w1.frozen? ⟨w.heap.size + 1,5,none⟩ = false:=au g1 5;have c26 : w1.cell? ⟨w.heap.size + 1 + 1,6,none⟩ = some (.bool y):=ah g2 6;have f26 : w1.frozen? ⟨w.heap.size + 1 + 1,6,none⟩ = false:=au g2 6;have c16 : w1.cell? ⟨w.heap.size + 1,6,none⟩ = some (.bool false):=ah g1 6;have f16 : w1.frozen? ⟨w.heap.size + 1,6,none⟩ = false:=au g1 6;have c27 : w1.cell? ⟨w.heap.size + 1 + 1,7,none⟩ = some (.slice none 0 0):=ah g2 7;have f27 : w1.frozen? ⟨w.heap.size + 1 + 1,7,none⟩ = false:=au g2 7;have c17 : w1.cell? ⟨w.heap.size + 1,7,none⟩ = some (.slice none 0 0):=ah g1 7;have f17 : w1.frozen? ⟨w.heap.size + 1,7,none⟩ = false:=au g1 7;clear g0 g1 g2 hG hb hsz;go_wp2;refine bodyPost_ret (v:=.agg #[.string n,.int .i64 c,.string z,.string k,.bool x,.string m,.bool y,.slice (some ⟨w.heap.size + 1 + 1 + 1,0,none⟩) len len]) (by simp [results,Tryz.results71,go_sem, *]) rfl ⟨rfl,?_,?_⟩
 ·exact xt
 ·exact xr

theorem lS (n : ByteArray) (c : Int) (z : ByteArray) (k : ByteArray) (x : Bool) (m : ByteArray) (y : Bool) (a : Option Addr) (len cap : Nat) (zs : List ByteArray) (a' : Option Addr) (len' cap' : Nat) (w : World) (hr : ay w a len cap zs) (hr' : ay w a' len' cap' zs) :
  Calls Tryz.prog 82 #[.agg #[.string n,.int .i64 c,.string z,.string k,.bool x,.string m,.bool y,.slice a len cap],.agg #[.string n,.int .i64 c,.string z,.string k,.bool x,.string m,.bool y,.slice a' len' cap']] w fun e w' => e = .returned (.bool true) ∧ Below w.heap.size w w':=by
 have HR : Hid (ay w a len cap zs):=hr;have HR' : Hid (ay w a' len' cap' zs):=hr';clear hr hr';go_enter Tryz.func82,Tryz.ntmps82;exact AS

theorem sg (n : ByteArray) (c : Int) (z : ByteArray) (a : Option Addr) (len cap : Nat) (zs : List ByteArray) (d : ByteArray) (p : Int) (left : Int) (w : World) (hn : n.size ≤ 9223372036854775807) (hz : z.size ≤ 9223372036854775807) (hd : d.size ≤ 9223372036854775807) (hr : ay w a len cap zs) (h0 : 0 ≤ left) (h1 : left ≤ 1048576) :
  Calls Tryz.prog 58 #[.agg #[.string n,.int .i64 c,.string z,.slice a len cap,.string d,.int .i64 p],.int .i64 left] w (SzB left (len ≤ 1048576) w):=by
 have HR : Hid (ay w a len cap zs):=hr;clear hr;by_cases h9n : left < (n.size : Int)
 ·go_enter Tryz.func58,Tryz.ntmps58;go_wp2;go_ret;exact ⟨-1,rfl,.inl rfl,an _ _⟩
 by_cases h9z : left < (n.size : Int) + (z.size : Int)
 ·go_enter Tryz.func58,Tryz.ntmps58;go_wp2;go_ret;exact ⟨-1,rfl,.inl rfl,an _ _⟩
 go_enter Tryz.func58,Tryz.ntmps58;go_wp2_with fail;refine (q_ a len cap zs _ _ (HR.out.below (an _ _)) af af).mono ?_;rintro e w1 ⟨r,rfl,hr,rfl⟩;rcases hr with rfl | ⟨hr0,hr1,hr2⟩
 ·go_wp2;go_ret;exact ⟨-1,rfl,.inl rfl,an _ _⟩
 by_cases h9d : r < (d.size : Int)
 ·go_wp2;go_ret;exact ⟨-1,rfl,.inl rfl,an _ _⟩
 go_wp2;go_ret;exact ⟨_,rfl,.inr ⟨by omega,by omega,by omega⟩,an _ _⟩

theorem r_ (n : ByteArray) (c : Int) (z : ByteArray) (a : Option Addr) (len cap : Nat) (zs : List ByteArray) (d : ByteArray) (p : Int) (w : World) (hr : ay w a len cap zs) (hl : len ≤ 1048576) :
  Calls Tryz.prog 73 #[.agg #[.string n,.int .i64 c,.string z,.slice a len cap,.string d,.int .i64 p]] w fun e w' => e = .returned (.agg #[.string n,.int .i64 c,.string z,.slice (some ⟨w.heap.size + 1 + 1 + 1,0,none⟩) len len,.string d,.int .i64 p]) ∧ w'.heap[w.heap.size + 1 + 1 + 1]? = some (.cells (zs.map Value.string).toArray 9 (0,0)) ∧ Below w.heap.size w w':=by
 have HR : Hid (ay w a len cap zs):=hr;clear hr;go_enter Tryz.func73,Tryz.ntmps73;go_wp2_with fail;refine (kX a len cap zs _ (HR.out.below (br _ _ _ _)) hl).mono ?_;rintro e w1 ⟨rfl,hG,hb⟩;have hsz : (((w.alloc (.cells #[.string n,.int .i64 c,.string z,.slice a len cap,.string d,.int .i64 p] 108)).alloc (.cells #[.string ⟨#[]⟩,.int .i64 0,.string ⟨#[]⟩,.slice none 0 0,.string ⟨#[]⟩,.int .i64 0] 65)).alloc (.cells #[.string n,.int .i64 c,.string z,.slice none 0 0,.string ⟨#[]⟩,.int .i64 0] 65)).heap.size = w.heap.size + 1 + 1 + 1:=aN
 rw [hsz] at hG hb ⊢;have g0 : w1.heap[w.heap.size]? = some (.cells #[.string n,.int .i64 c,.string z,.slice a len cap,.string d,.int .i64 p] 108 (0,0)):=by rw [hb.block _ af];exact dJ _ _ _ _
 have g1 : w1.heap[w.heap.size + 1]? = some (.cells #[.string ⟨#[]⟩,.int .i64 0,.string ⟨#[]⟩,.slice none 0 0,.string ⟨#[]⟩,.int .i64 0] 65 (0,0)):=by rw [hb.block _ af];exact db _ _ _ _
 have g2 : w1.heap[w.heap.size + 1 + 1]? = some (.cells #[.string n,.int .i64 c,.string z,.slice none 0 0,.string ⟨#[]⟩,.int .i64 0] 65 (0,0)):=by rw [hb.block _ af];exact cz _ _ _ _
 have HG:=ae hG;have HB : Hid (Below w.heap.size w w1):=(br _ _ _ _).trans (hb.mono af);have c04 : w1.cell? ⟨w.heap.size,4,none⟩ = some (.string d):=ah g0 4;have c05 : w1.cell? ⟨w.heap.size,5,none⟩ = some (.int .i64 p):=ah g0 5;obtain ⟨c20,f20,c10,f10,c21,f21,c11,f11,c22,f22,c12,f12⟩:=AK;have c23 : w1.cell? ⟨w.heap.size + 1 + 1,3,none⟩ = some (.slice none 0 0):=ah g2 3;have f23 : w1.frozen? ⟨w.heap.size + 1 + 1,3,none⟩ = false:=au g2 3;have c13 : w1.cell? ⟨w.heap.size + 1,3,none⟩ = some (.slice none 0 0):=ah g1 3;have f13 : w1.frozen? ⟨w.heap.size + 1,3,none⟩ = false:=au g1 3;have c24 : w1.cell? ⟨w.heap.size + 1 + 1,4,none⟩ = some (.string ⟨#[]⟩):=ah g2 4;have f24 : w1.frozen? ⟨w.heap.size + 1 + 1,4,none⟩ = false:=au g2 4;have c14 : w1.cell? ⟨w.heap.size + 1,4,none⟩ = some (.string ⟨#[]⟩):=ah g1 4;have f14 : w1.frozen? ⟨w.heap.size + 1,4,none⟩ = false:=au g1 4;have c25 : w1.cell? ⟨w.heap.size + 1 + 1,5,none⟩ = some (.int .i64 0):=ah g2 5;have f25 : w1.frozen? ⟨w.heap.size + 1 + 1,5,none⟩ = false:=au g2 5;have c15 : w1.cell? ⟨w.heap.size + 1,5,none⟩ = some (.int .i64 0):=ah g1 5;have f15 : w1.frozen? ⟨w.heap.size + 1,5,none⟩ = false:=au g1 5;clear g0 g1 g2 hG hb hsz;go_wp2;refine bodyPost_ret (v:=.agg #[.string n,.int .i64 c,.string z,.slice (some ⟨w.heap.size + 1 + 1 + 1,0,none⟩) len len,.string d,.int .i64 p]) (by simp [results,Tryz.results73,go_sem, *]) rfl ⟨rfl,?_,?_⟩
 ·exact xt
 ·exact xr

theorem sS (n : ByteArray) (c : Int) (z : ByteArray) (a : Option Addr) (len cap : Nat) (zs : List ByteArray) (d : ByteArray) (p : Int) (a' : Option Addr) (len' cap' : Nat) (w : World) (hr : ay w a len cap zs) (hr' : ay w a' len' cap' zs) :
  Calls Tryz.prog 84 #[.agg #[.string n,.int .i64 c,.string z,.slice a len cap,.string d,.int .i64 p],.agg #[.string n,.int .i64 c,.string z,.slice a' len' cap',.string d,.int .i64 p]] w fun e w' => e = .returned (.bool true) ∧ Below w.heap.size w w':=by
 have HR : Hid (ay w a len cap zs):=hr;have HR' : Hid (ay w a' len' cap' zs):=hr';clear hr hr';go_enter Tryz.func84,Tryz.ntmps84;go_wp2_with fail;refine (rN a a' len len' cap cap' zs zs _ (HR.out.below (aF _ _ _)) (HR'.out.below (aF _ _ _))).mono ?_;rintro e w1 ⟨r,rfl,hr,hb⟩;obtain rfl : r = true:=hr.2 rfl;clear hr;have HB : Hid (Below w.heap.size w w1):=(aF _ _ _).trans (hb.mono bF);obtain ⟨g0,g1⟩:=ug;have c04 : w1.cell? ⟨w.heap.size,4,none⟩ = some (.string d):=ah g0 4;have c05 : w1.cell? ⟨w.heap.size,5,none⟩ = some (.int .i64 p):=ah g0 5;have c14 : w1.cell? ⟨w.heap.size + 1,4,none⟩ = some (.string d):=ah g1 4;have c15 : w1.cell? ⟨w.heap.size + 1,5,none⟩ = some (.int .i64 p):=ah g1 5;clear g0 g1 hb;go_wp2_with fail;go_ret;exact ⟨rfl,HB.out⟩

theorem cs1 {w : World} {b : Nat} {T : TypeId} {v0 : Value} (h : w.heap[b]? = some (.cells #[v0] T (0,0))) : w.cell? ⟨b,0,none⟩ = some v0:=ah h 0
theorem cs4 {w : World} {b : Nat} {T : TypeId} {v0 v1 v2 v3 : Value} (h : w.heap[b]? = some (.cells #[v0,v1,v2,v3] T (0,0))) : w.cell? ⟨b,0,none⟩ = some v0 ∧ w.cell? ⟨b,1,none⟩ = some v1 ∧ w.cell? ⟨b,2,none⟩ = some v2 ∧ w.cell? ⟨b,3,none⟩ = some v3:=⟨ah h 0,ah h 1,ah h 2,ah h 3⟩
theorem cs5 {w : World} {b : Nat} {T : TypeId} {v0 v1 v2 v3 v4 : Value} (h : w.heap[b]? = some (.cells #[v0,v1,v2,v3,v4] T (0,0))) : w.cell? ⟨b,0,none⟩ = some v0 ∧ w.cell? ⟨b,1,none⟩ = some v1 ∧ w.cell? ⟨b,2,none⟩ = some v2 ∧ w.cell? ⟨b,3,none⟩ = some v3 ∧ w.cell? ⟨b,4,none⟩ = some v4:=⟨ah h 0,ah h 1,ah h 2,ah h 3,ah h 4⟩
theorem cs6 {w : World} {b : Nat} {T : TypeId} {v0 v1 v2 v3 v4 v5 : Value} (h : w.heap[b]? = some (.cells #[v0,v1,v2,v3,v4,v5] T (0,0))) : w.cell? ⟨b,0,none⟩ = some v0 ∧ w.cell? ⟨b,1,none⟩ = some v1 ∧ w.cell? ⟨b,2,none⟩ = some v2 ∧ w.cell? ⟨b,3,none⟩ = some v3 ∧ w.cell? ⟨b,4,none⟩ = some v4 ∧ w.cell? ⟨b,5,none⟩ = some v5:=⟨ah h 0,ah h 1,ah h 2,ah h 3,ah h 4,ah h 5⟩
theorem cs7 {w : World} {b : Nat} {T : TypeId} {v0 v1 v2 v3 v4 v5 v6 : Value} (h : w.heap[b]? = some (.cells #[v0,v1,v2,v3,v4,v5,v6] T (0,0))) : w.cell? ⟨b,0,none⟩ = some v0 ∧ w.cell? ⟨b,1,none⟩ = some v1 ∧ w.cell? ⟨b,2,none⟩ = some v2 ∧ w.cell? ⟨b,3,none⟩ = some v3 ∧ w.cell? ⟨b,4,none⟩ = some v4 ∧ w.cell? ⟨b,5,none⟩ = some v5 ∧ w.cell? ⟨b,6,none⟩ = some v6:=⟨ah h 0,ah h 1,ah h 2,ah h 3,ah h 4,ah h 5,ah h 6⟩
theorem cs8 {w : World} {b : Nat} {T : TypeId} {v0 v1 v2 v3 v4 v5 v6 v7 : Value} (h : w.heap[b]? = some (.cells #[v0,v1,v2,v3,v4,v5,v6,v7] T (0,0))) : w.cell? ⟨b,0,none⟩ = some v0 ∧ w.cell? ⟨b,1,none⟩ = some v1 ∧ w.cell? ⟨b,2,none⟩ = some v2 ∧ w.cell? ⟨b,3,none⟩ = some v3 ∧ w.cell? ⟨b,4,none⟩ = some v4 ∧ w.cell? ⟨b,5,none⟩ = some v5 ∧ w.cell? ⟨b,6,none⟩ = some v6 ∧ w.cell? ⟨b,7,none⟩ = some v7:=⟨ah h 0,ah h 1,ah h 2,ah h 3,ah h 4,ah h 5,ah h 6,ah h 7⟩
theorem df (w : World) (o : Obj) : (w.alloc o).heap.size = w.heap.size + 1:=by simp
theorem aG {w w' : World} {o : Obj} (h : Below (w.alloc o).heap.size (w.alloc o) w') : w'.heap[w.heap.size]? = some o ∧ Below w.heap.size w w':=by
 rw [df] at h;exact ⟨(h.block _ (Nat.lt_succ_self _)).trans (heap_alloc_new w o),(an w o).trans (h.mono (Nat.le_succ _))⟩
theorem cP {w w' : World} {o p : Obj} (h : Below ((w.alloc o).alloc p).heap.size ((w.alloc o).alloc p) w') : w'.heap[w.heap.size]? = some o ∧ w'.heap[w.heap.size + 1]? = some p ∧ Below w.heap.size w w':=by
 obtain ⟨h1,h2⟩:=aG h;rw [df] at h1;obtain ⟨h3,h4⟩:=aG h2;exact ⟨h3,h1,h4⟩
theorem lz {w w' : World} {o p q : Obj} (h : Below (((w.alloc o).alloc p).alloc q).heap.size (((w.alloc o).alloc p).alloc q) w') : w'.heap[w.heap.size]? = some o ∧ w'.heap[w.heap.size + 1]? = some p ∧ w'.heap[w.heap.size + 1 + 1]? = some q ∧ Below w.heap.size w w':=by
 obtain ⟨h1,h2⟩:=aG h;rw [df,df] at h1;obtain ⟨h3,h4,h5⟩:=cP h2;exact ⟨h3,h4,h1,h5⟩

def Wd (W : World) : Type:={ x : World // Below W.heap.size W x }
def Wd.w {W : World} (i : Wd W) : World:=i.1
theorem Wd.b {W : World} (i : Wd W) : Below W.heap.size W i.w:=i.2
theorem Wd.ne (W : World) : Nonempty (Wd W):=⟨⟨W,Below.refl _ _⟩⟩
theorem Wd.cell {W : World} (i : Wd W) {b o : Nat} (h : b < W.heap.size) : i.w.cell? ⟨b,o,none⟩ = W.cell? ⟨b,o,none⟩:=ak i.b h
theorem Wd.heap {W : World} (i : Wd W) {b : Nat} (h : b < W.heap.size) : i.w.heap[b]? = W.heap[b]?:=i.b.block b h
theorem Wd.slot {W : World} (i : Wd W) {b o : Nat} {vs : Array Value} {T : TypeId} {f : Nat × Nat} {v : Value} (h : W.heap[b]? = some (.cells vs T f)) (hv : vs[o]? = some v) : i.w.cell? ⟨b,o,none⟩ = some v:=by
 have hb : b < W.heap.size:=by
  rcases Nat.lt_or_ge b W.heap.size with h1 | h1
  ·exact h1
  ·rw [Array.getElem?_eq_none h1] at h;cases h
 rw [i.cell hb,ah h,hv]

theorem sl1 {W : World} {b : Nat} {T : TypeId} {v0 : Value} (h : Hid (W.heap[b]? = some (.cells #[v0] T (0,0)))) : (∀ q : Wd W,q.w.cell? ⟨b,0,none⟩ = some v0):=fun q => q.slot h rfl
theorem sl2 {W : World} {b : Nat} {T : TypeId} {v0 v1 : Value} (h : Hid (W.heap[b]? = some (.cells #[v0,v1] T (0,0)))) : (∀ q : Wd W,q.w.cell? ⟨b,0,none⟩ = some v0) ∧ (∀ q : Wd W,q.w.cell? ⟨b,1,none⟩ = some v1):=⟨fun q => q.slot h rfl,fun q => q.slot h rfl⟩
theorem sl3 {W : World} {b : Nat} {T : TypeId} {v0 v1 v2 : Value} (h : Hid (W.heap[b]? = some (.cells #[v0,v1,v2] T (0,0)))) : (∀ q : Wd W,q.w.cell? ⟨b,0,none⟩ = some v0) ∧ (∀ q : Wd W,q.w.cell? ⟨b,1,none⟩ = some v1) ∧ (∀ q : Wd W,q.w.cell? ⟨b,2,none⟩ = some v2):=⟨fun q => q.slot h rfl,fun q => q.slot h rfl,fun q => q.slot h rfl⟩
theorem sl4 {W : World} {b : Nat} {T : TypeId} {v0 v1 v2 v3 : Value} (h : Hid (W.heap[b]? = some (.cells #[v0,v1,v2,v3] T (0,0)))) : (∀ q : Wd W,q.w.cell? ⟨b,0,none⟩ = some v0) ∧ (∀ q : Wd W,q.w.cell? ⟨b,1,none⟩ = some v1) ∧ (∀ q : Wd W,q.w.cell? ⟨b,2,none⟩ = some v2) ∧ (∀ q : Wd W,q.w.cell? ⟨b,3,none⟩ = some v3):=⟨fun q => q.slot h rfl,fun q => q.slot h rfl,fun q => q.slot h rfl,fun q => q.slot h rfl⟩
theorem sl5 {W : World} {b : Nat} {T : TypeId} {v0 v1 v2 v3 v4 : Value} (h : Hid (W.heap[b]? = some (.cells #[v0,v1,v2,v3,v4] T (0,0)))) : (∀ q : Wd W,q.w.cell? ⟨b,0,none⟩ = some v0) ∧ (∀ q : Wd W,q.w.cell? ⟨b,1,none⟩ = some v1) ∧ (∀ q : Wd W,q.w.cell? ⟨b,2,none⟩ = some v2) ∧ (∀ q : Wd W,q.w.cell? ⟨b,3,none⟩ = some v3) ∧ (∀ q : Wd W,q.w.cell? ⟨b,4,none⟩ = some v4):=⟨fun q => q.slot h rfl,fun q => q.slot h rfl,fun q => q.slot h rfl,fun q => q.slot h rfl,fun q => q.slot h rfl⟩
theorem sl6 {W : World} {b : Nat} {T : TypeId} {v0 v1 v2 v3 v4 v5 : Value} (h : Hid (W.heap[b]? = some (.cells #[v0,v1,v2,v3,v4,v5] T (0,0)))) : (∀ q : Wd W,q.w.cell? ⟨b,0,none⟩ = some v0) ∧ (∀ q : Wd W,q.w.cell? ⟨b,1,none⟩ = some v1) ∧ (∀ q : Wd W,q.w.cell? ⟨b,2,none⟩ = some v2) ∧ (∀ q : Wd W,q.w.cell? ⟨b,3,none⟩ = some v3) ∧ (∀ q : Wd W,q.w.cell? ⟨b,4,none⟩ = some v4) ∧ (∀ q : Wd W,q.w.cell? ⟨b,5,none⟩ = some v5):=⟨fun q => q.slot h rfl,fun q => q.slot h rfl,fun q => q.slot h rfl,fun q => q.slot h rfl,fun q => q.slot h rfl,fun q => q.slot h rfl⟩
theorem sl7 {W : World} {b : Nat} {T : TypeId} {v0 v1 v2 v3 v4 v5 v6 : Value} (h : Hid (W.heap[b]? = some (.cells #[v0,v1,v2,v3,v4,v5,v6] T (0,0)))) : (∀ q : Wd W,q.w.cell? ⟨b,0,none⟩ = some v0) ∧ (∀ q : Wd W,q.w.cell? ⟨b,1,none⟩ = some v1) ∧ (∀ q : Wd W,q.w.cell? ⟨b,2,none⟩ = some v2) ∧ (∀ q : Wd W,q.w.cell? ⟨b,3,none⟩ = some v3) ∧ (∀ q : Wd W,q.w.cell? ⟨b,4,none⟩ = some v4) ∧ (∀ q : Wd W,q.w.cell? ⟨b,5,none⟩ = some v5) ∧ (∀ q : Wd W,q.w.cell? ⟨b,6,none⟩ = some v6):=⟨fun q => q.slot h rfl,fun q => q.slot h rfl,fun q => q.slot h rfl,fun q => q.slot h rfl,fun q => q.slot h rfl,fun q => q.slot h rfl,fun q => q.slot h rfl⟩
theorem sl8 {W : World} {b : Nat} {T : TypeId} {v0 v1 v2 v3 v4 v5 v6 v7 : Value} (h : Hid (W.heap[b]? = some (.cells #[v0,v1,v2,v3,v4,v5,v6,v7] T (0,0)))) : (∀ q : Wd W,q.w.cell? ⟨b,0,none⟩ = some v0) ∧ (∀ q : Wd W,q.w.cell? ⟨b,1,none⟩ = some v1) ∧ (∀ q : Wd W,q.w.cell? ⟨b,2,none⟩ = some v2) ∧ (∀ q : Wd W,q.w.cell? ⟨b,3,none⟩ = some v3) ∧ (∀ q : Wd W,q.w.cell? ⟨b,4,none⟩ = some v4) ∧ (∀ q : Wd W,q.w.cell? ⟨b,5,none⟩ = some v5) ∧ (∀ q : Wd W,q.w.cell? ⟨b,6,none⟩ = some v6) ∧ (∀ q : Wd W,q.w.cell? ⟨b,7,none⟩ = some v7):=⟨fun q => q.slot h rfl,fun q => q.slot h rfl,fun q => q.slot h rfl,fun q => q.slot h rfl,fun q => q.slot h rfl,fun q => q.slot h rfl,fun q => q.slot h rfl,fun q => q.slot h rfl⟩
theorem aj {P : Program} {id : Nat} {Q : Exit → Act → World → Prop} {a : Act} {w : World} {l : List Oper} (hm : P.follows .mixedOrders = true) (hB : Region.lexB .any l.toArray = true)
  (h : wpQuiet P l.toArray (fun w' => ∃ i : Wd w,w' = i.w) (fun a' => ∀ w',(∃ i : Wd w,w' = i.w) → Q .normal a' w') l a) : (Code.region id l.toArray true).wp P Q a w :=
 wp_region_quiet (C:=fun w' => ∃ i : Wd w,w' = i.w) hm hB ⟨⟨_,(Below.refl w.heap.size w).drew⟩,rfl⟩ gZ

theorem Calls.wide {P : Program} {f : FuncId} {args : Array Value} {W : World} {i : Wd W} {v : Value} (h : Calls P f args i.w fun e w' => e = .returned v ∧ Below i.w.heap.size i.w w') : Calls P f args i.w fun e w'' => e = .returned v ∧ ∃ j : Wd W,w'' = j.w :=
 h.mono fun _ w' ⟨he,hb⟩ => ⟨he,⟨w',i.b.trans (hb.mono i.b.size)⟩,rfl⟩
namespace Mk

def BG (u n : Nat) (r : ByteArray) : Prop:=n ≤ u ∧ (if n = 0 then [] else Lib.decDigits n) ++ r.data.toList = Lib.decDigits u

theorem BG.len {u n : Nat} {r : ByteArray} (h : BG u n r) (h1 : u ≤ 9223372036854775807) : r.size ≤ 19:=by
 have h2:=congrArg List.length h.2;have h3:=zT (u:=u) (k:=18) af;rw [List.length_append] at h2;rw [Lib.size_eq];omega
structure Kept (g : Nat) (w w' : World) : Prop where
 os : w'.os = w.os
 tape : w'.tape = w.tape
 output : w'.output = w.output
 size : w.heap.size ≤ w'.heap.size
 block : ∀ k,k < w.heap.size → ¬ k = g → w'.heap[k]? = w.heap[k]?
theorem Kept.trans {g : Nat} {a b c : World} (h : Kept g a b) (k : Kept g b c) : Kept g a c:=⟨k.os.trans h.os,k.tape.trans h.tape,k.output.trans h.output,Nat.le_trans h.size k.size,fun i hi hn => (k.block i (Nat.lt_of_lt_of_le hi h.size) hn).trans (h.block i hi hn)⟩
theorem Kept.set {g i : Nat} {w w' : World} {v : Value} (h : Kept g w w') : Kept g w (w'.setCell ⟨g,i,none⟩ v) :=
 ⟨h.os,h.tape,h.output,by simpa [World.setCell] using h.size,fun k hk hn => (Below.heap_setCell _ _ _ _ hn).trans (h.block k hk hn)⟩
theorem Kept.below {g B : Nat} {w w1 w2 : World} (h : Kept g w1 w2) (hb : Below B w w1) (hB : B ≤ w1.heap.size) (hg : B ≤ g) : Below B w w2 :=
 ⟨h.os.trans hb.os,h.tape.trans hb.tape,h.output.trans hb.output,Nat.le_trans hb.size h.size,fun k hk => (h.block k (Nat.lt_of_lt_of_le hk hB) af).trans (hb.block k hk)⟩
end Mk
end Go.Proofs.YtdoldaceehdifaaGreatDoor

namespace Go.Proofs.YtdoldaceehdifaaGreatDoor
open Go.RowKit
namespace Rc
open Mk

inductive Fv where
 | s (b : ByteArray)
 | i (n : Int)
 | b (x : Bool)
 | l (zs : List ByteArray)
def Fv.val : Fv → Option Value
 | .s t => some (.string t)
 | .i n => some (.int .i64 n)
 | .b x => some (.bool x)
 | .l _ => none
def Fv.fit : Fv → Prop
 | .s t => t.size ≤ 9223372036854775807
 | _ => True
def Fv.Is (w : World) : Fv → Value → Prop
 | .s t,v => v = .string t ∧ t.size ≤ 9223372036854775807
 | .i n,v => v = .int .i64 n
 | .b x,v => v = .bool x
 | .l zs,v => ∃ a len cap,v = .slice a len cap ∧ ay w a len cap zs
theorem Fv.Is.below {w w' : World} {f : Fv} {v : Value} (h : f.Is w v) (hb : Below w.heap.size w w') : f.Is w' v:=by
 cases f with
 | l zs => obtain ⟨a,len,cap,h1,h2⟩:=h;exact ⟨a,len,cap,h1,h2.below hb⟩
 | _ => exact h
def RAt (w : World) (b o : Nat) (r : List Fv) : Prop:=∀ (i : Nat) f,r[i]? = some f → ∃ v,w.cell? ⟨b,o + i,none⟩ = some v ∧ f.Is w v
theorem RAt.below {w w' : World} {b o : Nat} {r : List Fv} (h : RAt w b o r) (hl : b < w.heap.size) (hb : Below w.heap.size w w') : RAt w' b o r:=by
 intro i f hi;obtain ⟨v,h1,h2⟩:=h i f hi;exact ⟨v,(ak hb hl).trans h1,h2.below hb⟩
def aI (w : World) (a : Option Addr) (len cap m : Nat) (rs : List (List Fv)) : Prop :=
 rs.length = len ∧ len ≤ cap ∧ cap ≤ 9223372036854775807 ∧ (rs = [] ∨ ∃ b o,a = some ⟨b,o,none⟩ ∧ b < w.heap.size ∧ ∀ (j : Nat) r,rs[j]? = some r → RAt w b (o + j * m) r)
theorem aI.below {w w' : World} {a : Option Addr} {len cap m : Nat} {rs : List (List Fv)} (h : aI w a len cap m rs) (hb : Below w.heap.size w w') : aI w' a len cap m rs:=by
 exact xq
theorem aI.at {w : World} {a : Option Addr} {len cap m : Nat} {rs : List (List Fv)} (h : aI w a len cap m rs) {j : Nat} (hj : j < len) :
  ∃ b o r,a = some ⟨b,o,none⟩ ∧ b < w.heap.size ∧ rs[j]? = some r ∧ RAt w b (o + j * m) r:=by
 obtain ⟨h1,h2,h3,h5⟩:=h;have hx : rs[j]? = some (rs[j]'(by omega)):=List.getElem?_eq_getElem _;exact wN
theorem aI.nil {w : World} (a : Option Addr) (cap m : Nat) (h : cap ≤ 9223372036854775807) : aI w a 0 cap m []:=⟨rfl,Nat.zero_le _,h,.inl rfl⟩

structure aP (S : Nat → Prop) (w w' : World) : Prop where
 os : w'.os = w.os
 tape : w'.tape = w.tape
 output : w'.output = w.output
 size : w.heap.size ≤ w'.heap.size
 block : ∀ k,k < w.heap.size → ¬ S k → w'.heap[k]? = w.heap[k]?
theorem aP.refl (S : Nat → Prop) (w : World) : aP S w w:=⟨rfl,rfl,rfl,Nat.le_refl _,fun _ _ _ => rfl⟩
theorem aP.trans {S : Nat → Prop} {a b c : World} (h : aP S a b) (k : aP S b c) : aP S a c:=⟨k.os.trans h.os,k.tape.trans h.tape,k.output.trans h.output,Nat.le_trans h.size k.size,fun i hi hn => (k.block i (Nat.lt_of_lt_of_le hi h.size) hn).trans (h.block i hi hn)⟩
theorem aP.cU {S : Nat → Prop} {w w' : World} (k : Below w.heap.size w w') : aP S w w':=⟨k.os,k.tape,k.output,k.size,fun i hi _ => k.block i hi⟩
theorem aP.below {S : Nat → Prop} {a b c : World} (h : aP S a b) (k : Below b.heap.size b c) : aP S a c:=h.trans (aP.cU k)
theorem aP.mono {S S' : Nat → Prop} {w w' : World} (h : aP S w w') (hs : ∀ k,S k → S' k) : aP S' w w':=⟨h.os,h.tape,h.output,h.size,fun k hk hn => h.block k hk (fun x => hn (hs k x))⟩
theorem aP.set {S : Nat → Prop} {g i : Nat} {w w' : World} {v : Value} (h : aP S w w') (h1 : S g) : aP S w (w'.setCell ⟨g,i,none⟩ v) :=
 ⟨h.os,h.tape,h.output,by simpa [World.setCell] using h.size,fun k hk hn => (Below.heap_setCell _ _ _ _ (show k ≠ g from fun e => hn (e ▸ h1))).trans (h.block k hk hn)⟩
theorem aP.low {S : Nat → Prop} {X : Nat} {w w' : World} (h : aP S w w') (hX : X ≤ w.heap.size) (hS : ∀ k,S k → X ≤ k) : Below X w w':=⟨h.os,h.tape,h.output,h.size,fun k hk => h.block k (Nat.lt_of_lt_of_le hk hX) (fun s => by have:=hS k s;omega)⟩

def iy (w : World) (h : Nat) (S : Nat → Prop) (g : Nat) (zs : List ByteArray) (v : Value) : Prop :=
 ∃ a len cap,v = .slice a len cap ∧ zs.length = len ∧ len ≤ cap ∧ cap ≤ 9223372036854775807 ∧ (∀ (j : Nat) x,zs[j]? = some x → x.size ≤ 9223372036854775807) ∧
  (zs = [] ∨ (a = some ⟨h,0,none⟩ ∧ S h ∧ ¬ h = g ∧ ∃ cu,w.heap[h]? = some (.cells cu 9 (0,0)) ∧ ∀ (j : Nat) x,zs[j]? = some x → cu[j]? = some (.string x)))
theorem iy.row {w : World} {h : Nat} {S : Nat → Prop} {g : Nat} {zs : List ByteArray} {a : Option Addr} {len cap : Nat} (k : iy w h S g zs (.slice a len cap)) : ay w a len cap zs:=by
 obtain ⟨a',l',c',h1,h2,h3,h4,h5,h6⟩:=k;cases h1;refine ⟨h2,h3,h4,h5,h6.imp id ?_⟩;rintro ⟨q1,q2,q3,cu,q4,q5⟩;exact ⟨h,0,q1,aa q4,fun j x hx => by rw [Nat.zero_add,ah q4];exact q5 j x hx⟩
theorem iy.aH {w w' : World} {h : Nat} {S S' : Nat → Prop} {g : Nat} {zs : List ByteArray} {v : Value} (k : iy w h S g zs v) (hk : zs ≠ [] → S h → w'.heap[h]? = w.heap[h]?) (hs : ∀ k,S k → S' k) : iy w' h S' g zs v:=by
 obtain ⟨a',l',c',h1,h2,h3,h4,h5,h6⟩:=k;refine ⟨a',l',c',h1,h2,h3,h4,h5,?_⟩;by_cases hz : zs = []
 ·exact .inl hz
 ·rcases h6 with h6 | ⟨q1,q2,q3,cu,q4,q5⟩
  ·exact .inl h6
  ·exact .inr ⟨q1,hs _ q2,q3,cu,(hk hz q2).trans q4,q5⟩
def Fv.Own (w : World) (h : Nat) (S : Nat → Prop) (g : Nat) : Fv → Value → Prop
 | .s t,v => v = .string t ∧ t.size ≤ 9223372036854775807
 | .i n,v => v = .int .i64 n
 | .b x,v => v = .bool x
 | .l zs,v => iy w h S g zs v
theorem Fv.Own.is {w : World} {h : Nat} {S : Nat → Prop} {g : Nat} {f : Fv} {v : Value} (k : f.Own w h S g v) : f.Is w v:=by
 cases f with
 | l zs =>
  obtain ⟨a,len,cap,h1,h2⟩:=k;exact ⟨a,len,cap,h1,iy.row (h:=h) (S:=S) (g:=g) (h1 ▸ ⟨a,len,cap,h1,h2⟩)⟩
 | _ => exact k
theorem Fv.Own.aH {w w' : World} {h : Nat} {S S' : Nat → Prop} {g : Nat} {f : Fv} {v : Value} (k : f.Own w h S g v) (hk : (∃ zs,f = .l zs ∧ zs ≠ []) → S h → w'.heap[h]? = w.heap[h]?) (hs : ∀ k,S k → S' k) : f.Own w' h S' g v:=by
 cases f with
 | l zs => exact iy.aH k (fun hz => hk ⟨zs,rfl,hz⟩) hs
 | _ => exact k
theorem Fv.Own.B7 {w : World} {h : Nat} {S : Nat → Prop} {g : Nat} {f : Fv} {v : Value} (hv : f.val = some v) (hf : f.fit) : f.Own w h S g v:=by
 cases f with
 | s t => cases hv;exact ⟨rfl,hf⟩
 | i n => cases hv;exact rfl
 | b x => cases hv;exact rfl
 | l zs => cases hv

structure dn (w : World) (g m : Nat) (T : TypeId) (rs : List (List Fv)) (S : Nat → Prop) (cur : Array Value) (H : Nat → Nat → Nat) : Prop where
 blk : w.heap[g]? = some (.cells cur T (0,0))
 inS : S g
 len : ∀ (j : Nat) r,rs[j]? = some r → r.length = m
 cell : ∀ (j : Nat) r,rs[j]? = some r → ∀ (i : Nat) f,r[i]? = some f → ∃ v,cur[j * m + i]? = some v ∧ f.Own w (H j i) S g v
 inj : ∀ (j : Nat) r (i : Nat) zs (j' : Nat) r' (i' : Nat) zs',rs[j]? = some r → r[i]? = some (.l zs) → zs ≠ [] → rs[j']? = some r' → r'[i']? = some (.l zs') → zs' ≠ [] → H j i = H j' i' → j = j' ∧ i = i'
def aB (w : World) (a : Option Addr) (len cap m : Nat) (T : TypeId) (rs : List (List Fv)) (S : Nat → Prop) : Prop :=
 rs.length = len ∧ len ≤ cap ∧ cap ≤ 9223372036854775807 ∧ (rs = [] ∨ ∃ g cur H,a = some ⟨g,0,none⟩ ∧ dn w g m T rs S cur H)
theorem dn.aH {w w' : World} {g m : Nat} {T : TypeId} {rs : List (List Fv)} {S S' : Nat → Prop} {cur : Array Value} {H : Nat → Nat → Nat} (h : dn w g m T rs S cur H) (hk : ∀ k,k < w.heap.size → S k → w'.heap[k]? = w.heap[k]?) (hs : ∀ k,k < w.heap.size → S k → S' k) : dn w' g m T rs S' cur H:=by
 refine ⟨(hk g (aa h.blk) h.inS).trans h.blk,hs g (aa h.blk) h.inS,h.len,fun j r hj i f hi => ?_,h.inj⟩;obtain ⟨v,h1,h2⟩:=h.cell j r hj i f hi;refine ⟨v,h1,?_⟩;cases f with
 | l zs =>
  obtain ⟨a',l',c',h1,h2,h3,h4,h5,h6⟩:=h2;refine ⟨a',l',c',h1,h2,h3,h4,h5,h6.imp id ?_⟩;rintro ⟨q1,q2,q3,cu,q4,q5⟩;exact ⟨q1,hs _ (aa q4) q2,q3,cu,(hk _ (aa q4) q2).trans q4,q5⟩
 | _ => exact h2
theorem aB.aH {w w' : World} {a : Option Addr} {len cap m : Nat} {T : TypeId} {rs : List (List Fv)} {S S' : Nat → Prop} (h : aB w a len cap m T rs S) (hk : ∀ k,k < w.heap.size → S k → w'.heap[k]? = w.heap[k]?) (hs : ∀ k,k < w.heap.size → S k → S' k) : aB w' a len cap m T rs S':=by
 obtain ⟨h1,h2,h3,h4⟩:=h;refine ⟨h1,h2,h3,h4.imp id ?_⟩;rintro ⟨g,cur,H,h5,h6⟩;exact ⟨g,cur,H,h5,h6.aH hk hs⟩
theorem aB.below {w w' : World} {a : Option Addr} {len cap m : Nat} {T : TypeId} {rs : List (List Fv)} {S : Nat → Prop} (h : aB w a len cap m T rs S) (hb : Below w.heap.size w w') : aB w' a len cap m T rs S:=h.aH (fun k hk _ => hb.block k hk) (fun _ _ s => s)
theorem aB.bs {w : World} {a : Option Addr} {len cap m : Nat} {T : TypeId} {rs : List (List Fv)} {S S' : Nat → Prop} (h : aB w a len cap m T rs S) (hs : ∀ k,k < w.heap.size → S k → S' k) : aB w a len cap m T rs S':=h.aH (fun _ _ _ => rfl) hs
theorem dn.rat {w : World} {g m : Nat} {T : TypeId} {rs : List (List Fv)} {S : Nat → Prop} {cur : Array Value} {H : Nat → Nat → Nat} (h : dn w g m T rs S cur H) {j : Nat} {r : List Fv} (hj : rs[j]? = some r) : RAt w g (j * m) r:=by
 intro i f hi;obtain ⟨v,h1,h2⟩:=h.cell j r hj i f hi;exact ⟨v,(ah h.blk _).trans h1,h2.is⟩
theorem aB.row {w : World} {a : Option Addr} {len cap m : Nat} {T : TypeId} {rs : List (List Fv)} {S : Nat → Prop} (h : aB w a len cap m T rs S) : aI w a len cap m rs:=by
 obtain ⟨h1,h2,h3,h4⟩:=h;refine ⟨h1,h2,h3,h4.imp id ?_⟩;rintro ⟨g,cur,H,h5,h6⟩;exact ⟨g,0,h5,aa h6.blk,fun j r hj => by rw [Nat.zero_add];exact h6.rat hj⟩
theorem aB.nil {w : World} (a : Option Addr) (cap m : Nat) (T : TypeId) (S : Nat → Prop) (h : cap ≤ 9223372036854775807) : aB w a 0 cap m T [] S:=⟨rfl,Nat.zero_le _,h,.inl rfl⟩

theorem zF {m j i j' i' : Nat} (hi : i < m) (hi' : i' < m) (h : j * m + i = j' * m + i') : j = j' ∧ i = i':=by
 have hm : 0 < m:=af
 have e1 : (j * m + i) / m = j:=by rw [Nat.mul_comm,Nat.mul_add_div hm,Nat.div_eq_of_lt hi];rfl
 have e2 : (j' * m + i') / m = j':=by rw [Nat.mul_comm,Nat.mul_add_div hm,Nat.div_eq_of_lt hi'];rfl
 have : j = j':=by rw [← e1,← e2,h]
 subst this;exact ⟨rfl,by omega⟩
theorem du {α : Type} {rs : List α} {j k : Nat} {r : α} (hj : j < rs.length) : (rs.set j r)[k]? = if j = k then some r else rs[k]?:=by
 rw [List.getElem?_set];by_cases h : j = k
 ·subst h;simp [hj]
 ·simp [h]
def NoH (N : Nat → Prop) (rs : List (List Fv)) (H : Nat → Nat → Nat) : Prop:=∀ (j : Nat) r (i : Nat) zs,rs[j]? = some r → r[i]? = some (.l zs) → zs ≠ [] → ¬ N (H j i)
structure StJ (g m : Nat) (T : TypeId) (S N : Nat → Prop) (w wr : World) (rs : List (List Fv)) (j : Nat) (r : List Fv) : Prop where
 own : ∃ cur H,dn wr g m T (rs.set j r) S cur H ∧ NoH N (rs.set j r) H
 kept : aP S w wr
 lt : j < rs.length
section
variable {g m : Nat} {T : TypeId} {S N : Nat → Prop} {w wr w2 : World} {rs : List (List Fv)} {j : Nat} {r : List Fv}
theorem StJ.below (h : StJ g m T S N w wr rs j r) (hb : Below wr.heap.size wr w2) : StJ g m T S N w w2 rs j r:=by
 obtain ⟨⟨cur,H,h1,hN⟩,h2,h3⟩:=h;exact ⟨⟨cur,H,h1.aH (fun k hk _ => hb.block k hk) (fun _ _ s => s),hN⟩,h2.below hb,h3⟩
theorem StJ.fresh (h : StJ g m T S N w wr rs j r) (hb : Below wr.heap.size wr w2) : StJ g m T S (fun k => wr.heap.size ≤ k) w w2 rs j r:=by
 obtain ⟨⟨cur,H,h1,hN⟩,h2,h3⟩:=h;refine ⟨⟨cur,H,h1.aH (fun k hk _ => hb.block k hk) (fun _ _ s => s),fun j' r' i' zs hj hi hz hk => ?_⟩,h2.below hb,h3⟩;obtain ⟨v,h4,a,len,cap,rfl,h5,h6,h7,h8,h9⟩:=h1.cell j' r' hj i' _ hi;rcases h9 with h9 | ⟨q1,q2,q3,cu,q4,q5⟩
 ·exact hz h9
 ·have:=aa q4;omega
theorem StJ.get (h : StJ g m T S N w wr rs j r) : (rs.set j r)[j]? = some r:=by rw [du h.lt,if_pos rfl]
theorem StJ.cell (h : StJ g m T S N w wr rs j r) {i : Nat} {f : Fv} (hi : r[i]? = some f) : ∃ v,wr.cell? ⟨g,j * m + i,none⟩ = some v:=by
 obtain ⟨⟨cur,H,h1,hN⟩,h2,h3⟩:=h;obtain ⟨v,h4,h5⟩:=h1.cell j r (by rw [du h3,if_pos rfl]) i f hi;exact ⟨v,(ah h1.blk _).trans h4⟩
theorem StJ.fe (h : StJ g m T S N w wr rs j r) (i : Nat) : wr.frozen? ⟨g,i,none⟩ = false:=by
 obtain ⟨⟨cur,H,h1,hN⟩,h2,h3⟩:=h;exact au h1.blk i
theorem StJ.slice (h : StJ g m T S N w wr rs j r) {i : Nat} {zs : List ByteArray} (hi : r[i]? = some (.l zs)) : ∃ a len cap,wr.cell? ⟨g,j * m + i,none⟩ = some (.slice a len cap) ∧ zs.length = len:=by
 obtain ⟨⟨cur,H,h1,hN⟩,h2,h3⟩:=h;obtain ⟨v,h4,a,len,cap,rfl,h5,-⟩:=h1.cell j r (by rw [du h3,if_pos rfl]) i _ hi;exact ⟨a,len,cap,(ah h1.blk _).trans h4,h5⟩
theorem re (hlt : j < rs.length) {f : Fv} {i : Nat} (hl : ∀ (j' : Nat) r',(rs.set j r)[j']? = some r' → r'.length = m) : ∀ (j' : Nat) r',(rs.set j (r.set i f))[j']? = some r' → r'.length = m:=by
 intro j' r' hj';rw [du hlt] at hj';split at hj'
 ·cases hj';rw [List.length_set];exact hl j r (by rw [du hlt,if_pos rfl])
 ·exact hl j' r' (by rw [du hlt,if_neg (by assumption)];exact hj')
theorem fq (hlt : j < rs.length) {f : Fv} {i : Nat} (hil : i < r.length) {j' : Nat} {r' : List Fv} {i' : Nat} {f' : Fv} (hj' : (rs.set j (r.set i f))[j']? = some r') (hi' : r'[i']? = some f') :
  (j' = j ∧ i' = i ∧ f' = f) ∨ (¬ (j' = j ∧ i' = i) ∧ ∃ r0,(rs.set j r)[j']? = some r0 ∧ r0[i']? = some f'):=by
 rw [du hlt] at hj' ⊢;split at hj'
 ·next e =>
  cases hj';rw [if_pos e];rw [List.getElem?_set] at hi';split at hi'
  ·next e2 =>
   try rw [if_pos hil] at hi'
   exact .inl ⟨e.symm,e2.symm,(Option.some.inj hi').symm⟩
  ·next e2 => exact .inr ⟨fun q => e2 q.2.symm,r,rfl,hi'⟩
 ·next e =>
  rw [if_neg e];exact .inr ⟨fun q => e q.1.symm,r',hj',hi'⟩
theorem Fv.Own.bp {k : Nat} {v : Value} {u : Fv} {z : Value} {h : Nat} (hu : u.Own wr h S g z) : u.Own (wr.setCell ⟨g,k,none⟩ v) h S g z:=by
 cases u with
 | l zs =>
  obtain ⟨a',l',c',k1,k2,k3,k4,k5,k6⟩:=hu;refine ⟨a',l',c',k1,k2,k3,k4,k5,k6.imp id ?_⟩;rintro ⟨q1,q2,q3,cu,q4,q5⟩;exact ⟨q1,q2,q3,cu,(Below.heap_setCell _ _ _ _ q3).trans q4,q5⟩
 | _ => exact hu
theorem StJ.set (h : StJ g m T S N w wr rs j r) {i : Nat} {old : Fv} (hi : r[i]? = some old) (f : Fv) {v : Value} (hv : f.val = some v) (hf : f.fit) : StJ g m T S N w (wr.setCell ⟨g,j * m + i,none⟩ v) rs j (r.set i f):=by
 have hget:=h.get;obtain ⟨⟨cur,H,h1,hN⟩,h2,h3⟩:=h;have hil : i < r.length:=(List.getElem?_eq_some_iff.1 hi).1;have hrm : r.length = m:=h1.len j r hget;obtain ⟨v0,hc0,-⟩:=h1.cell j r hget i _ hi;have hin : j * m + i < cur.size:=(Array.getElem?_eq_some_iff.1 hc0).1;have hnl : ∀ zs,¬ .l zs = f:=fun zs e => by subst e;cases hv
 have back : ∀ (j' : Nat) r' (i' : Nat) zs',(rs.set j (r.set i f))[j']? = some r' → r'[i']? = some (.l zs') → ∃ r0,(rs.set j r)[j']? = some r0 ∧ r0[i']? = some (.l zs'):=by
  intro j' r' i' zs' hj' hi';rcases fq h3 hil hj' hi' with ⟨_,_,e⟩ | ⟨_,q⟩
  ·exact absurd e (hnl _)
  ·exact q
 refine ⟨⟨cur.setIfInBounds (j * m + i) v,H,⟨az h1.blk v,h1.inS,re h3 h1.len,fun j' r' hj' i' f' hi' => ?_,fun j' r' i' zs' j2 r2 i2 zs2 hj' hi' hz' hj2 hi2 hz2 hH => ?_⟩,fun j' r' i' zs' hj' hi' hz' => ?_⟩,h2.set h1.inS,h3⟩
 ·rcases fq h3 hil hj' hi' with ⟨rfl,rfl,rfl⟩ | ⟨hne,r0,q1,q2⟩
  ·exact ⟨v,by rw [Array.getElem?_setIfInBounds_self_of_lt hin],Fv.Own.B7 hv hf⟩
  ·obtain ⟨v',k1,k2⟩:=h1.cell j' r0 q1 i' f' q2;have hil' : i' < r0.length:=(List.getElem?_eq_some_iff.1 q2).1;have hrm':=h1.len j' r0 q1;refine ⟨v',?_,k2.bp⟩;exact wZ
 ·obtain ⟨r0,b1,b2⟩:=back j' r' i' zs' hj' hi';obtain ⟨r3,b3,b4⟩:=back j2 r2 i2 zs2 hj2 hi2;exact h1.inj j' r0 i' zs' j2 r3 i2 zs2 b1 b2 hz' b3 b4 hz2 hH
 ·obtain ⟨r0,b1,b2⟩:=back j' r' i' zs' hj' hi';exact hN j' r0 i' zs' b1 b2 hz'
theorem StJ.BM (h : StJ g m T S N w wr rs j r) {i : Nat} {old : Fv} (hi : r[i]? = some old) {b : Nat} (zs : List ByteArray) {len cap : Nat} (hb : zs ≠ [] → N b) (hv : iy wr b S g zs (.slice (some ⟨b,0,none⟩) len cap)) :
  StJ g m T S (fun k => N k ∧ ¬ k = b) w (wr.setCell ⟨g,j * m + i,none⟩ (.slice (some ⟨b,0,none⟩) len cap)) rs j (r.set i (.l zs)):=by
 have hget:=h.get;obtain ⟨⟨cur,H,h1,hN⟩,h2,h3⟩:=h;have hil : i < r.length:=(List.getElem?_eq_some_iff.1 hi).1;have hrm : r.length = m:=h1.len j r hget;obtain ⟨v0,hc0,-⟩:=h1.cell j r hget i _ hi;have hin : j * m + i < cur.size:=(Array.getElem?_eq_some_iff.1 hc0).1;have hH : ∀ j' i',¬ (j' = j ∧ i' = i) → (if j' = j ∧ i' = i then b else H j' i') = H j' i':=fun j' i' hn => if_neg hn;refine ⟨⟨cur.setIfInBounds (j * m + i) (.slice (some ⟨b,0,none⟩) len cap),fun j' i' => if j' = j ∧ i' = i then b else H j' i',⟨az h1.blk _,h1.inS,re h3 h1.len,fun j' r' hj' i' f' hi' => ?_,fun j' r' i' zs' j2 r2 i2 zs2 hj' hi' hz' hj2 hi2 hz2 hHH => ?_⟩,fun j' r' i' zs' hj' hi' hz' => ?_⟩,h2.set h1.inS,h3⟩
 ·rcases fq h3 hil hj' hi' with ⟨rfl,rfl,rfl⟩ | ⟨hne,r0,q1,q2⟩
  ·refine ⟨_,by rw [Array.getElem?_setIfInBounds_self_of_lt hin],?_⟩;rw [if_pos ⟨rfl,rfl⟩];exact Fv.Own.bp (u:=.l zs) hv
  ·obtain ⟨v',k1,k2⟩:=h1.cell j' r0 q1 i' f' q2;have hil' : i' < r0.length:=(List.getElem?_eq_some_iff.1 q2).1;have hrm':=h1.len j' r0 q1;refine ⟨v',?_,?_⟩
   ·exact wZ
   ·rw [if_neg hne];exact k2.bp
 ·try simp only [] at hHH
  rcases fq h3 hil hj' hi' with ⟨rfl,rfl,e1⟩ | ⟨hne,r0,q1,q2⟩
  ·rcases fq h3 hil hj2 hi2 with ⟨rfl,rfl,e2⟩ | ⟨hne2,r3,q3,q4⟩
   ·exact ⟨rfl,rfl⟩
   ·rw [if_pos ⟨rfl,rfl⟩,if_neg hne2] at hHH;cases e1;exact absurd (hHH ▸ hb hz') (hN _ _ _ _ q3 q4 hz2)
  ·rcases fq h3 hil hj2 hi2 with ⟨rfl,rfl,e2⟩ | ⟨hne2,r3,q3,q4⟩
   ·rw [if_neg hne,if_pos ⟨rfl,rfl⟩] at hHH;cases e2;exact absurd (hHH ▸ hb hz2) (hN _ _ _ _ q1 q2 hz')
   ·rw [if_neg hne,if_neg hne2] at hHH;exact h1.inj _ _ _ _ _ _ _ _ q1 q2 hz' q3 q4 hz2 hHH
 ·try simp only []
  rcases fq h3 hil hj' hi' with ⟨rfl,rfl,e1⟩ | ⟨hne,r0,q1,q2⟩
  ·rw [if_pos ⟨rfl,rfl⟩];exact fun q => q.2 rfl
  ·rw [if_neg hne];exact fun q => hN _ _ _ _ q1 q2 hz' q.1
end

theorem tL {α : Type} {l : List α} {i : Nat} {x : α} (h : l[i]? = some x) : l.set i x = l:=by
 apply List.ext_getElem?;intro k;rw [List.getElem?_set];split
 ·next e =>
  subst e;rw [if_pos (List.getElem?_eq_some_iff.1 h).1,h]
 ·rfl

theorem StJ.fa {g m : Nat} {T : TypeId} {S N : Nat → Prop} {w wr : World} {rs : List (List Fv)} {j : Nat} {r : List Fv} (h : StJ g m T S N w wr rs j r) {i : Nat} {old : Fv} (hi : r[i]? = some old) (t : ByteArray) (hf : t.size ≤ 9223372036854775807) : StJ g m T S N w (wr.setCell ⟨g,j * m + i,none⟩ (.string t)) rs j (r.set i (.s t)):=h.set hi (.s t) rfl hf
theorem StJ.mC {g m : Nat} {T : TypeId} {S N : Nat → Prop} {w wr : World} {rs : List (List Fv)} {j : Nat} {r : List Fv} (h : StJ g m T S N w wr rs j r) {i : Nat} {old : Fv} (hi : r[i]? = some old) (t : Int) : StJ g m T S N w (wr.setCell ⟨g,j * m + i,none⟩ (.int .i64 t)) rs j (r.set i (.i t)):=h.set hi (.i t) rfl trivial
theorem StJ.sk {g m : Nat} {T : TypeId} {S N : Nat → Prop} {w wr : World} {rs : List (List Fv)} {j : Nat} {r : List Fv} (h : StJ g m T S N w wr rs j r) {i : Nat} {old : Fv} (hi : r[i]? = some old) (t : Bool) : StJ g m T S N w (wr.setCell ⟨g,j * m + i,none⟩ (.bool t)) rs j (r.set i (.b t)):=h.set hi (.b t) rfl trivial
theorem aB.st {w wr : World} {a : Option Addr} {len cap m : Nat} {T : TypeId} {rs : List (List Fv)} {S : Nat → Prop} (h : aB wr a len cap m T rs S) (hk : aP S w wr) {i : Nat} {r : List Fv} (hi : rs[i]? = some r) : ∃ g,a = some ⟨g,0,none⟩ ∧ StJ g m T S (fun _ => False) w wr rs i r:=by
 obtain ⟨h1,h2,h3,h4⟩:=h;rcases h4 with h4 | ⟨g,cur,H,h5,h6⟩
 ·subst h4;simp at hi
 ·refine ⟨g,h5,⟨cur,H,?_,fun _ _ _ _ _ _ _ q => q⟩,hk,(List.getElem?_eq_some_iff.1 hi).1⟩;rw [tL hi];exact h6
def mkN1 (k : Int) : Fv → Int
 | .l zs => k + zs.length
 | _ => k + 1
def mkN : Int → List Fv → Int
 | k,[] => k
 | k,f :: r => mkN (mkN1 k f) r
def dP : Int → List (List Fv) → Int
 | k,[] => k
 | k,r :: rs => dP (mkN k r) rs
theorem cE {α : Type} {A B : List α} {i : Nat} {x : α} (hl : A.length = B.length) (hi : A[i]? = some x) : (A.take i ++ B.drop i).set i x = A.take (i + 1) ++ B.drop (i + 1):=by
 have hlt : i < A.length:=(List.getElem?_eq_some_iff.1 hi).1;have h1 : (A.take i).length = i:=by rw [List.length_take];omega
 have hd : B.drop i = B[i]'(by omega) :: B.drop (i + 1):=List.drop_eq_getElem_cons af;rw [List.take_add_one,hi,hd];simp only [List.set_append,h1,Nat.lt_irrefl,if_false,Nat.sub_self,List.set_cons_zero,Option.toList_some,List.append_assoc,List.singleton_append]
theorem kY {α : Type} {A B : List α} {i : Nat} (hl : A.length = B.length) (hi : i ≤ A.length) : (A.take i ++ B.drop i)[i]? = B[i]?:=by
 have h1 : (A.take i).length = i:=by rw [List.length_take];omega
 rw [List.getElem?_append_right af,h1,Nat.sub_self,List.getElem?_drop,Nat.add_zero]
theorem jA {α : Type} {A B : List α} {i : Nat} (hl : A.length = B.length) (hi : i ≤ A.length) : (A.take i ++ B.drop i).length = B.length:=by
 rw [List.length_append,List.length_take,List.length_drop];omega
end Rc
end Go.Proofs.YtdoldaceehdifaaGreatDoor

namespace Go.Proofs.YtdoldaceehdifaaGreatDoor
open Go.RowKit

abbrev Fact:=Value → World → Prop
def Fact.bw (φ : Fact) : Prop:=∀ v w w',φ v w → Below w.heap.size w w' → φ v w'
theorem Fact.bR (c : Value) : Fact.bw (fun v _ => v = c):=fun _ _ _ h _ => h

def ai (a0 : Act) (known : List (Tmp × Fact)) (a : Act) (w : World) (t : Tmp) : Prop :=
 match known.lookup t with
 | some φ => φ (a.tmps.getD t undef) w
 | none => a.tmps.getD t undef = a0.tmps.getD t undef

def Obl (P : Program) (ops : Array Oper) (Q : Exit → Act → World → Prop) (W : World) (a0 : Act) (known : List (Tmp × Fact)) (o : Oper) (φ : Fact) : Prop :=
 ∀ (a : Act) (w : World) (K : Act → World → Prop),a.tmps.size = a0.tmps.size → Below W.heap.size W w → (∀ t ∈ o.looksAt ops,ai a0 known a w t) →
  (∀ v w',Below w.heap.size w w' → φ v w' → K (a.put o.dst v) w') → if Region.wanted o (yielded ops a.tmps) = true then o.wp P a w K Q else K (a.put o.dst undef) w

def iz (o : Oper) : List Tmp:=o.op.operands.toList.filterMap fun | .tmp t => some t | _ => none
theorem Obl.plain {P : Program} {ops : Array Oper} {Q : Exit → Act → World → Prop} {W : World} {a0 : Act} {known : List (Tmp × Fact)} {o : Oper} {φ : Fact} (hg : o.guard = none)
  (h : ∀ (a : Act) (w : World) (K : Act → World → Prop),a.tmps.size = a0.tmps.size → Below W.heap.size W w → (∀ t ∈ iz o,ai a0 known a w t) → (∀ v w',Below w.heap.size w w' → φ v w' → K (a.put o.dst v) w') → o.wp P a w K Q) : Obl P ops Q W a0 known o φ:=by
 intro a w K h1 h2 h3 h4;have hw : Region.wanted o (yielded ops a.tmps) = true:=by simp [Region.wanted,hg]
 rw [if_pos hw];exact h a w K h1 h2 (fun t ht => h3 t (by unfold Oper.looksAt;exact List.mem_append_left _ ht)) h4

def eH (P : Program) (ops : Array Oper) (Q : Exit → Act → World → Prop) (back : Option Oper) (a : Act) (w : World) : Prop :=
 match back with
 | none => Q .normal a w
 | some o => ∀ K : Act → World → Prop,(∀ a w,Q .normal a w → K a w) → if Region.wanted o (yielded ops a.tmps) = true then o.wp P a w K Q else K (a.put o.dst undef) w

def aE (a0 : Act) (known : List (Tmp × Fact)) (x : Tmp → Value) : Act:=known.foldr (fun p b => b.put (some p.1) (x p.1)) a0
def Fin (P : Program) (ops : Array Oper) (Q : Exit → Act → World → Prop) (W : World) (a0 : Act) (back : Option Oper) (known : List (Tmp × Fact)) : Prop :=
 ∀ (x : Tmp → Value) (w : World),Below W.heap.size W w → (∀ p ∈ known,p.2 (x p.1) w) → eH P ops Q back (aE a0 known x) w

def kn (d : Option Tmp) (φ : Fact) (known : List (Tmp × Fact)) : List (Tmp × Fact):=match d with | some t => (t,φ) :: known | none => known

def aw (P : Program) (ops : Array Oper) (Q : Exit → Act → World → Prop) (W : World) (a0 : Act) (back : Option Oper) : List Oper → List (Tmp × Fact) → Prop
 | [],known => Fin P ops Q W a0 back known
 | o :: rest,known => ∃ φ : Fact,φ.bw ∧ Obl P ops Q W a0 known o φ ∧ aw P ops Q W a0 back rest (kn o.dst φ known)
theorem aw.step {P : Program} {ops : Array Oper} {Q : Exit → Act → World → Prop} {W : World} {a0 : Act} {back : Option Oper} {o : Oper} {rest : List Oper} {known : List (Tmp × Fact)} {t : Tmp} (φ : Fact) (hd : o.dst = some t) (hφ : φ.bw) (ho : Obl P ops Q W a0 known o φ)
  (h : aw P ops Q W a0 back rest ((t,φ) :: known)) : aw P ops Q W a0 back (o :: rest) known:=⟨φ,hφ,ho,by rw [hd];exact h⟩
theorem aw.aq {P : Program} {ops : Array Oper} {Q : Exit → Act → World → Prop} {W : World} {a0 : Act} {back : Option Oper} {o : Oper} {rest : List Oper} {known : List (Tmp × Fact)} {t : Tmp} (c : Value) (hd : o.dst = some t) (ho : Obl P ops Q W a0 known o (fun v _ => v = c))
  (h : aw P ops Q W a0 back rest ((t,fun v _ => v = c) :: known)) : aw P ops Q W a0 back (o :: rest) known:=aw.step _ hd (Fact.bR c) ho h
theorem aw.done {P : Program} {ops : Array Oper} {Q : Exit → Act → World → Prop} {W : World} {a0 : Act} {back : Option Oper} {known : List (Tmp × Fact)} (h : Fin P ops Q W a0 back known) : aw P ops Q W a0 back [] known:=h

def growB (n : Nat) (front : List Oper) (back : Option Oper) : Bool :=
 let ops:=(front ++ back.toList).toArray
 decide ((front.filterMap (·.dst)).Nodup) && front.all (fun o => match o.dst with | some t => decide (t < n) | none => true) &&
 (List.range front.length).all (fun j => match front[j]? with
  | some o => (o.looksAt ops).all (fun t => (List.range front.length).all fun i => match front[i]? with
    | some p => p.dst != some t || (decide (i < j) && o.after.any fun e => e.on == i && Region.binds .any e)
    | none => true)
  | none => true) &&
 (List.range ops.size).all (fun j => match ops[j]? with | some o => o.after.all (fun e => decide (e.on < j)) | none => true) &&
 (match back with | some o => (List.range front.length).all (fun i => o.after.any fun e => e.on == i && Region.binds .any e) | none => true)

section
variable {P : Program} {ops : Array Oper} {Q : Exit → Act → World → Prop} {W : World} {a0 : Act} {back : Option Oper}

def knAll : List (Tmp × Fact) → List Oper → List Fact → List (Tmp × Fact)
 | known,o :: l,φ :: φs => knAll (kn o.dst φ known) l φs
 | known,_,_ => known
theorem bT (known : List (Tmp × Fact)) (φs : List Fact) : knAll known [] φs = known:=by cases φs <;> rfl

theorem aw.spec : ∀ (l : List Oper) (known : List (Tmp × Fact)),aw P ops Q W a0 back l known → ∃ φs : List Fact,φs.length = l.length ∧
  (∀ (i : Nat) (o : Oper) (φ : Fact),l[i]? = some o → φs[i]? = some φ → φ.bw ∧ Obl P ops Q W a0 (knAll known (l.take i) (φs.take i)) o φ) ∧ Fin P ops Q W a0 back (knAll known l φs)
 | [],known,h => ⟨[],rfl,fun i o φ h => by simp at h,by rw [bT];exact h⟩
 | o :: l,known,h => by
  exact uO

theorem gL (d : Option Tmp) (φ : Fact) (known : List (Tmp × Fact)) (t : Tmp) : (kn d φ known).lookup t = if d = some t then some φ else known.lookup t:=by
 exact xw

theorem bW : ∀ (l : List Oper) (φs : List Fact) (known : List (Tmp × Fact)) {t : Tmp} {φ : Fact},(knAll known l φs).lookup t = some φ →
  (∃ (i : Nat) (o : Oper),l[i]? = some o ∧ o.dst = some t ∧ φs[i]? = some φ) ∨ known.lookup t = some φ
 | [],φs,known,t,φ,h => by rw [bT] at h;exact .inr h
 | o :: l,[],known,t,φ,h => .inr h
 | o :: l,ψ :: φs,known,t,φ,h => by
  exact xN
theorem bY : ∀ (l : List Oper) (φs : List Fact) (known : List (Tmp × Fact)) {t : Tmp},(knAll known l φs).lookup t = none →
  known.lookup t = none ∧ ∀ (i : Nat) (o : Oper) (φ : Fact),l[i]? = some o → φs[i]? = some φ → o.dst ≠ some t
 | [],φs,known,t,h => by rw [bT] at h;exact ⟨h,fun i o φ h => by simp at h⟩
 | o :: l,[],known,t,h => ⟨h,fun i o φ _ h => by simp at h⟩
 | o :: l,ψ :: φs,known,t,h => by
  exact AY
theorem c_ : ∀ (l : List Oper) (φs : List Fact) (known : List (Tmp × Fact)) {p : Tmp × Fact},p ∈ knAll known l φs →
  (∃ (i : Nat) (o : Oper),l[i]? = some o ∧ o.dst = some p.1 ∧ φs[i]? = some p.2) ∨ p ∈ known
 | [],φs,known,p,h => by rw [bT] at h;exact .inr h
 | o :: l,[],known,p,h => .inr h
 | o :: l,ψ :: φs,known,p,h => by
  exact AT

theorem ga (a : Act) (d t : Tmp) (v : Value) : (a.put (some d) v).tmps.getD t undef = if d = t ∧ t < a.tmps.size then v else a.tmps.getD t undef:=by
 simp only [Act.put,Array.getD_eq_getD_getElem?,Array.getElem?_setIfInBounds];by_cases h : d = t
 ·subst h;by_cases h2 : d < a.tmps.size
  ·simp [h2]
  ·simp [h2]
 ·simp [h]
theorem size_put (a : Act) (d : Option Tmp) (v : Value) : (a.put d v).tmps.size = a.tmps.size:=by cases d <;> simp [Act.put]
theorem ef (a : Act) (d : Option Tmp) (v : Value) : (a.put d v).defers = a.defers:=by cases d <;> simp [Act.put]
theorem cR (a0 : Act) (x : Tmp → Value) : ∀ known,(aE a0 known x).tmps.size = a0.tmps.size
 | [] => rfl
 | p :: l => by unfold aE;rw [List.foldr_cons,size_put];exact cR a0 x l
theorem cS (a0 : Act) (x : Tmp → Value) : ∀ known,(aE a0 known x).defers = a0.defers
 | [] => rfl
 | p :: l => by unfold aE;rw [List.foldr_cons,ef];exact cS a0 x l
theorem fQ (a0 a : Act) (known : List (Tmp × Fact)) (hk : ∀ p ∈ known,p.1 < a0.tmps.size) (t : Tmp) (h : (∀ p ∈ known,p.1 ≠ t) → a.tmps.getD t undef = a0.tmps.getD t undef) :
  (aE a0 known (fun t => a.tmps.getD t undef)).tmps.getD t undef = a.tmps.getD t undef:=by
 exact A_
theorem zW {a b : Act} (hs : a.tmps.size = b.tmps.size) (hd : a.defers = b.defers) (h : ∀ t,a.tmps.getD t undef = b.tmps.getD t undef) : a = b:=by
 cases a with | mk at_ ad => cases b with | mk bt bd =>
 simp only at hs hd h;subst hd;congr 1;apply Array.ext hs;intro i h1 h2;have:=h i;simpa [Array.getD,h1,h2] using this

theorem bL {l : Array Bool} {i : Nat} (h : i < l.size) : l.getD i false = l.getD i true:=by simp [Array.getD,h]

structure At (front : List Oper) (φs : List Fact) (W : World) (a0 : Act) (listed : Array Bool) (a : Act) (w : World) : Prop where
 size : a.tmps.size = a0.tmps.size
 defers : a.defers = a0.defers
 below : Below W.heap.size W w
 known : ∀ (i : Nat) (o : Oper) (φ : Fact),front[i]? = some o → φs[i]? = some φ → ∀ t,o.dst = some t → listed.getD i false = true → φ (a.tmps.getD t undef) w
 other : ∀ t,(∀ (i : Nat) (o : Oper),front[i]? = some o → o.dst = some t → listed.getD i false = false) → a.tmps.getD t undef = a0.tmps.getD t undef

theorem dS : ∀ (l : List Oper),(l.filterMap (·.dst)).Nodup → ∀ {i j : Nat} {o p : Oper} {t : Tmp},l[i]? = some o → l[j]? = some p → o.dst = some t → p.dst = some t → i = j
 | [],_,i,j,o,p,t,h,_,_,_ => by simp at h
 | q :: l,hn,i,j,o,p,t,h1,h2,h3,h4 => by
  have hmem : ∀ {k : Nat} {r : Oper},l[k]? = some r → r.dst = some t → t ∈ l.filterMap (·.dst):=fun h h' => List.mem_filterMap.2 ⟨_,List.mem_of_getElem? h,h'⟩;have hn' : (l.filterMap (·.dst)).Nodup:=by
   rw [List.filterMap_cons] at hn;split at hn
   ·exact hn
   ·exact (List.nodup_cons.1 hn).2
  cases i with
  | zero =>
   simp only [List.getElem?_cons_zero,Option.some.injEq] at h1;subst h1
   cases j with
   | zero => rfl
   | succ j =>
    simp only [List.getElem?_cons_succ] at h2;rw [List.filterMap_cons,h3] at hn;exact absurd (hmem h2 h4) (List.nodup_cons.1 hn).1
  | succ i =>
   simp only [List.getElem?_cons_succ] at h1
   cases j with
   | zero =>
    simp only [List.getElem?_cons_zero,Option.some.injEq] at h2;subst h2;rw [List.filterMap_cons,h4] at hn;exact absurd (hmem h1 h3) (List.nodup_cons.1 hn).1
   | succ j =>
    simp only [List.getElem?_cons_succ] at h2;rw [dS l hn' h1 h2 h3 h4]

theorem At.step {front : List Oper} {φs : List Fact} {listed : Array Bool} {a : Act} {w w' : World} {j : Nat} {o : Oper} {φ : Fact} {v : Value} (h : At front φs W a0 listed a w)
  (hn : (front.filterMap (·.dst)).Nodup) (hin : ∀ o ∈ front,∀ t,o.dst = some t → t < a0.tmps.size) (hmono : ∀ (i : Nat) (o : Oper) (φ : Fact),front[i]? = some o → φs[i]? = some φ → φ.bw)
  (ho : front[j]? = some o) (hφ : φs[j]? = some φ) (hj : j < listed.size) (hb : Below w.heap.size w w') (hv : φ v w') : At front φs W a0 (listed.setIfInBounds j true) (a.put o.dst v) w':=by
 refine ⟨(size_put _ _ _).trans h.size,(ef _ _ _).trans h.defers,h.below.trans (hb.mono h.below.size),?_,?_⟩
 ·intro i p ψ hp hψ t ht hl;by_cases e : j = i
  ·subst e;obtain rfl : o = p:=Option.some.inj (ho.symm.trans hp);obtain rfl : φ = ψ:=Option.some.inj (hφ.symm.trans hψ);exact wI
  ·have hl' : listed.getD i false = true:=by
    simpa [Array.getD_eq_getD_getElem?,Array.getElem?_setIfInBounds,e] using hl
   have h1:=hmono i p ψ hp hψ _ _ _ (h.known i p ψ hp hψ t ht hl') hb;cases hd : o.dst with
   | none => exact h1
   | some d =>
    rw [ga,if_neg (fun hx => e (dS front hn ho hp (hd.trans (by rw [hx.1])) ht))];exact h1
 ·exact A8

theorem ct {n : Nat} {front : List Oper} {back : Option Oper} (h : growB n front back = true) :
  (front.filterMap (·.dst)).Nodup ∧ (∀ o ∈ front,∀ t,o.dst = some t → t < n) ∧
  (∀ (j : Nat) (o : Oper),front[j]? = some o → ∀ t ∈ o.looksAt (front ++ back.toList).toArray,∀ (i : Nat) (p : Oper),front[i]? = some p → p.dst = some t → i < j ∧ ∃ e ∈ o.after,e.on = i ∧ Region.binds .any e = true) ∧
  (∀ (j : Nat) o,(front ++ back.toList).toArray[j]? = some o → ∀ e ∈ o.after,e.on < j) ∧
  (∀ o,back = some o → ∀ i,i < front.length → ∃ e ∈ o.after,e.on = i ∧ Region.binds .any e = true):=by
 unfold growB at h;simp only [Bool.and_eq_true,decide_eq_true_eq] at h;obtain ⟨⟨⟨⟨h1,h2⟩,h3⟩,h4⟩,h5⟩:=h;refine ⟨h1,?_,?_,?_,?_⟩
 ·intro o ho t ht;have:=List.all_eq_true.1 h2 o ho;rw [ht] at this;simpa using this
 ·exact Bd
 ·exact xI
 ·intro o ho i hi;subst ho;have:=List.all_eq_true.1 h5 i (List.mem_range.2 hi);obtain ⟨k,hk,hx⟩:=Array.any_eq_true.1 this;exact lI

theorem eo {listed : Array Bool} (hs : listed.size = ops.size) (hlt : ∀ (j : Nat) o,ops[j]? = some o → ∀ e ∈ o.after,e.on < j) (hr : Region.ready .any ops listed = []) : ∀ i,i < ops.size → listed.getD i false = true:=by
 intro i;induction i using Nat.strongRecOn with
 | _ i ih =>
  intro hi
  cases hb : listed.getD i false with
  | true => rfl
  | false =>
   have ho : ops[i]? = some ops[i]:=Array.getElem?_eq_getElem hi;have hm : i ∈ Region.ready .any ops listed:=mem_ready.2 ⟨by rw [← bL af];exact hb,_,ho,fun e he _ => ih e.on (hlt i _ ho e he) (Nat.lt_trans (hlt i _ ho e he) hi)⟩;rw [hr] at hm
   cases hm

theorem di {listed : Array Bool} (h : listed.toList.count false = 0) (i : Nat) (hi : i < listed.size) : listed.getD i false = true:=by
 have hm : listed[i] ∈ listed.toList:=aN
 cases hb : listed[i] with
 | true => simp [Array.getD,hi,hb]
 | false =>
  rw [hb] at hm;exact absurd (List.count_pos_iff.2 hm) af
theorem count_set {listed : Array Bool} {i : Nat} (hi : i < listed.size) (hf : listed.getD i true = false) : (listed.setIfInBounds i true).toList.count false + 1 = listed.toList.count false:=by
 have hb : listed[i] = false:=by simpa [Array.getD,hi] using hf
 have hm : false ∈ listed.toList:=by rw [← hb];simp
 have hp:=List.count_pos_iff.2 hm;rw [Array.toList_setIfInBounds,List.count_set (by simpa using hi)];rw [Array.getElem_toList,hb];simp only [beq_self_eq_true,if_true,show (true == false) = false from rfl,Bool.false_eq_true,if_false];omega

theorem Fin.last {front : List Oper} {φs : List Fact} {listed : Array Bool} {a : Act} {w : World} (hf : Fin P ops Q W a0 back (knAll [] front φs)) (hlen : φs.length = front.length) (hin : ∀ o ∈ front,∀ t,o.dst = some t → t < a0.tmps.size)
  (h : At front φs W a0 listed a w) (hall : ∀ i,i < front.length → listed.getD i false = true) : eH P ops Q back a w:=by
 have h1:=hf (fun t => a.tmps.getD t undef) w h.below (fun p hp => by
  rcases c_ front φs [] hp with ⟨i,o,h1,h2,h3⟩ | h1
  ·exact h.known i o p.2 h1 h3 p.1 h2 (hall i (List.getElem?_eq_some_iff.1 h1).1)
  ·simp at h1)
 exact Bu

theorem bZ {front : List Oper} {φs : List Fact} (hops : ops = (front ++ back.toList).toArray) (hB : growB a0.tmps.size front back = true) (hlen : φs.length = front.length)
  (hs : ∀ (i : Nat) (o : Oper) (φ : Fact),front[i]? = some o → φs[i]? = some φ → φ.bw ∧ Obl P ops Q W a0 (knAll [] (front.take i) (φs.take i)) o φ) (hf : Fin P ops Q W a0 back (knAll [] front φs)) :
  ∀ (fuel : Nat) (listed : Array Bool) (a : Act) (w : World),listed.size = ops.size → listed.toList.count false ≤ fuel → (∀ o,back = some o → listed.getD front.length false = false) → At front φs W a0 listed a w → wpAny P .any ops Q fuel listed a w:=by
 obtain ⟨hn,hin,hdep,hlt,hback⟩:=ct hB;rw [← hops] at hdep hlt;have hsz : ops.size = front.length + back.toList.length:=by rw [hops];simp
 have hend : ∀ (listed : Array Bool) (a : Act) (w : World),listed.size = ops.size → (∀ i,i < ops.size → listed.getD i false = true) → (∀ o,back = some o → listed.getD front.length false = false) → At front φs W a0 listed a w → Q .normal a w:=by
  intro listed a w hz hall hb h;have h1:=hf.last hlen hin h (fun i hi => hall i af);exact pZ
 intro fuel;induction fuel with
 | zero =>
  intro listed a w hz hc hb h;have hall : ∀ i,i < ops.size → listed.getD i false = true:=fun i hi => di af i af;refine ⟨?_,hend listed a w hz hall hb h⟩
  cases hr : Region.ready .any ops listed with
  | nil => rfl
  | cons j js =>
   have hm : j ∈ Region.ready .any ops listed:=by rw [hr];simp
   obtain ⟨h1,o,ho,-⟩:=mem_ready.1 hm;have hj:=(Array.getElem?_eq_some_iff.1 ho).1;rw [← bL af,hall j hj] at h1
   cases h1
 | succ fuel ih =>
  intro listed a w hz hc hb h;refine ⟨fun hr => hend listed a w hz (eo hz hlt hr) hb h,fun j hj => ?_⟩;obtain ⟨hun,o,ho,hall⟩:=mem_ready.1 hj;have hjs : j < ops.size:=(Array.getElem?_eq_some_iff.1 ho).1;have hcs:=count_set (listed:=listed) (i:=j) af hun
  by_cases hjf : j < front.length
  ·have hof : front[j]? = some o:=by rw [hops] at ho;simpa [List.getElem?_append_left hjf] using ho
   have hφ : φs[j]? = some (φs[j]'(by omega)):=List.getElem?_eq_getElem _;obtain ⟨hm,hob⟩:=hs j o _ hof hφ
   have hfacts : ∀ t ∈ o.looksAt ops,ai a0 (knAll [] (front.take j) (φs.take j)) a w t:=by
    intro t ht;unfold ai
    cases hk : (knAll [] (front.take j) (φs.take j)).lookup t with
    | some φ =>
     rcases bW _ _ _ hk with ⟨i,p,h1,h2,h3⟩ | h1
     ·have hij : i < j:=by have:=(List.getElem?_eq_some_iff.1 h1).1;simp at this;omega
      rw [List.getElem?_take,if_pos hij] at h1 h3;obtain ⟨-,e,he,hon,hbi⟩:=hdep j o hof t ht i p h1 h2;have hl:=hall e he hbi;rw [hon] at hl;exact h.known i p φ h1 h3 t h2 hl
     ·simp at h1
    | none =>
     refine h.other t (fun i p hp hd => ?_)
     exfalso
     obtain ⟨hij,-⟩:=hdep j o hof t ht i p hp hd;have hi:=(List.getElem?_eq_some_iff.1 hp).1;exact (bY _ _ _ hk).2 i p (φs[i]'(by omega)) mQ mU hd
   have h1:=hob a w (wpAny P .any ops Q fuel (listed.setIfInBounds j true)) h.size h.below hfacts (fun v w' hbw hv => by
    refine ih _ _ _ g8 af (fun o' ho' => ?_) (h.step hn hin (fun i o φ h1 h2 => (hs i o φ h1 h2).1) hof hφ af hbw hv);have h2:=hb o' ho'
    have e : ¬ j = front.length:=af
    simpa [Array.getD_eq_getD_getElem?,Array.getElem?_setIfInBounds,e] using h2)
   unfold wpOp;rw [ho]
   simp only
   split
   ·rename_i hw;rw [if_pos hw] at h1;exact .inl h1
   ·rename_i hw;rw [if_neg hw] at h1;exact h1
  ·cases hk : back with
   | none => rw [hk] at hsz;simp at hsz;omega
   | some b =>
    have hjn : j = front.length:=by rw [hk] at hsz;simp at hsz;omega
    subst hjn
    have hob : o = b:=by
     rw [hops,hk] at ho
     simp at ho
     exact ho.symm
    subst hob
    have hfl : ∀ i,i < front.length → listed.getD i false = true:=fun i hi => by
     obtain ⟨e,he,hon,hbi⟩:=hback o hk i hi;have:=hall e he hbi
     rwa [hon] at this
    have h1:=hf.last hlen hin h hfl;rw [hk] at h1
    have h2:=h1 (wpAny P .any ops Q fuel (listed.setIfInBounds front.length true)) (fun a' w' hq => by
     have hr : Region.ready .any ops (listed.setIfInBounds front.length true) = []:=by
      cases hr : Region.ready .any ops (listed.setIfInBounds front.length true) with
      | nil => rfl
      | cons i is =>
       have hm : i ∈ Region.ready .any ops (listed.setIfInBounds front.length true):=by rw [hr];simp
       obtain ⟨h3,o',ho',-⟩:=mem_ready.1 hm;have hi:=(Array.getElem?_eq_some_iff.1 ho').1
       exfalso
       by_cases e : front.length = i
       ·subst e
        simp [Array.getD_eq_getD_getElem?,show front.length < listed.size from by omega] at h3
       ·have h4:=hfl i (by rw [hk] at hsz;simp at hsz;omega);rw [bL af] at h4
        simp [Array.getD_eq_getD_getElem?,e] at h3 h4
        rw [h3] at h4
        cases h4
     cases fuel with
     | zero => exact ⟨hr,hq⟩
     | succ fuel => exact ⟨fun _ => hq,fun i hi => by rw [hr] at hi;cases hi⟩)
    unfold wpOp;rw [ho]
    simp only
    split
    ·rename_i hw;rw [if_pos hw] at h2;exact .inl h2
    ·rename_i hw;rw [if_neg hw] at h2;exact h2
end

theorem a_ (n i : Nat) : (Array.replicate n false).getD i false = false:=by
 rw [Array.getD_eq_getD_getElem?,Array.getElem?_replicate];split <;> rfl
theorem bf {P : Program} {id : Nat} {Q : Exit → Act → World → Prop} {a0 : Act} {W : World} {l : List Oper} {front : List Oper} {back : Option Oper} (hm : P.follows .mixedOrders = true) (hl : l = front ++ back.toList) (hB : growB a0.tmps.size front back = true)
  (h : aw P l.toArray Q W a0 back front []) : (Code.region id l.toArray true).wp P Q a0 W:=by
 obtain ⟨φs,hlen,hs,hf⟩:=aw.spec _ _ h;refine wp_region_any hm (bZ (by rw [hl]) hB hlen hs hf _ _ _ _ aN ?_ (fun o ho => ?_) ⟨rfl,rfl,(Below.refl _ _).drew,fun i o φ h1 h2 t ht hx => ?_,fun t _ => rfl⟩)
 ·exact np
 ·exact a_ _ _
 ·rw [a_] at hx;cases hx
theorem aT {P : Program} {id : Nat} {Q : Exit → Act → World → Prop} {a0 : Act} {W : World} {l : List Oper} {front : List Oper} {last : Oper} (hm : P.follows .mixedOrders = true) (hf : l.dropLast = front) (hb : l.getLast? = some last) (hB : growB a0.tmps.size front (some last) = true)
  (h : aw P l.toArray Q W a0 (some last) front []) : (Code.region id l.toArray true).wp P Q a0 W:=by
 refine bf hm ?_ hB h;exact pG

structure Vd where
 n : ByteArray
 c : Int
 z : ByteArray
 k : ByteArray
 x : Bool
 m : ByteArray
 y : Bool
 zs : List ByteArray
def Vd.Fit (v : Vd) : Prop:=v.n.size ≤ 9223372036854775807 ∧ v.z.size ≤ 9223372036854775807 ∧ v.k.size ≤ 9223372036854775807 ∧ v.m.size ≤ 9223372036854775807
def Vd.At (v : Vd) (w : World) (b o : Nat) : Prop:=v.Fit ∧ ∃ a len cap,ay w a len cap v.zs ∧
 w.cell? ⟨b,o,none⟩ = some (.string v.n) ∧ w.cell? ⟨b,o + 1,none⟩ = some (.int .i64 v.c) ∧ w.cell? ⟨b,o + 2,none⟩ = some (.string v.z) ∧ w.cell? ⟨b,o + 3,none⟩ = some (.string v.k) ∧
 w.cell? ⟨b,o + 4,none⟩ = some (.bool v.x) ∧ w.cell? ⟨b,o + 5,none⟩ = some (.string v.m) ∧ w.cell? ⟨b,o + 6,none⟩ = some (.bool v.y) ∧ w.cell? ⟨b,o + 7,none⟩ = some (.slice a len cap)
theorem Vd.At.below {v : Vd} {w w' : World} {b o : Nat} (h : v.At w b o) (hl : b < w.heap.size) (hb : Below w.heap.size w w') : v.At w' b o:=by
 obtain ⟨hf,a,len,cap,hr,h0,h1,h2,h3,h4,h5,h6,h7⟩:=h;exact ⟨hf,a,len,cap,hr.below hb,(ak hb hl).trans h0,(ak hb hl).trans h1,(ak hb hl).trans h2,(ak hb hl).trans h3,(ak hb hl).trans h4,(ak hb hl).trans h5,(ak hb hl).trans h6,(ak hb hl).trans h7⟩
def dV (w : World) (a : Option Addr) (len cap : Nat) (vs : List Vd) : Prop :=
 vs.length = len ∧ len ≤ cap ∧ cap ≤ 9223372036854775807 ∧
 (vs = [] ∨ ∃ b o,a = some ⟨b,o,none⟩ ∧ b < w.heap.size ∧ ∀ (j : Nat) v,vs[j]? = some v → v.At w b (o + j * 8))
theorem dV.below {w w' : World} {a : Option Addr} {len cap : Nat} {vs : List Vd} (h : dV w a len cap vs) (hb : Below w.heap.size w w') : dV w' a len cap vs:=by
 exact xq
theorem dV.at {w : World} {a : Option Addr} {len cap : Nat} {vs : List Vd} (h : dV w a len cap vs) {j : Nat} (hj : j < len) :
  ∃ b o v,a = some ⟨b,o,none⟩ ∧ b < w.heap.size ∧ vs[j]? = some v ∧ v.At w b (o + j * 8):=by
 obtain ⟨h1,h2,h3,h5⟩:=h;have hx : vs[j]? = some (vs[j]'(by omega)):=List.getElem?_eq_getElem _;exact wN

def yI (w : World) (g len X Y : Nat) : Prop :=
 X ≤ g ∧ g < Y ∧ ∃ cur : Array Value,w.heap[g]? = some (.cells cur 118 (0,0)) ∧ cur.size = len * 8 ∧
  ∀ j,j < len → ∃ a l c,cur[j * 8 + 7]? = some (.slice a l c) ∧ l ≤ 1048576 ∧ (l = 0 ∨ ∃ h cu,a = some ⟨h,0,none⟩ ∧ X ≤ h ∧ h < Y ∧ ¬ h = g ∧ w.heap[h]? = some (.cells cu 9 (0,0)) ∧ l ≤ cu.size)
theorem yI.below {w w' : World} {g len X Y : Nat} (h : yI w g len X Y) (hY : Y ≤ w.heap.size) (hb : Below w.heap.size w w') : yI w' g len X Y:=by
 obtain ⟨h1,h2,cur,h3,h4,h5⟩:=h;refine ⟨h1,h2,cur,(hb.block _ (Nat.lt_of_lt_of_le h2 hY)).trans h3,h4,fun j hj => ?_⟩;obtain ⟨a,l,c,h6,h7,h8⟩:=h5 j hj;refine ⟨a,l,c,h6,h7,h8.imp id ?_⟩;rintro ⟨h,cu,h9,h10,h11,h12,h13,h14⟩;exact ⟨h,cu,h9,h10,h11,h12,(hb.block _ (Nat.lt_of_lt_of_le h11 hY)).trans h13,h14⟩

end Go.Proofs.YtdoldaceehdifaaGreatDoor

namespace Go.Proofs.YtdoldaceehdifaaGreatDoor
open Go.RowKit
namespace Rc
open Mk

structure Nd where
 n : ByteArray
 z : ByteArray
 c : Int
 s : Int
 u : Int
 d : Bool
 zs : List ByteArray

def ndF (x : Nd) : List Fv:=[.s x.n,.s x.z,.i x.c,.i x.s,.i x.u,.b x.d,.l x.zs]
theorem bc {w : World} {b o : Nat} {x : Nd} (h : RAt w b o (ndF x)) : ∃ a len cap,ay w a len cap x.zs ∧ x.n.size ≤ 9223372036854775807 ∧ x.z.size ≤ 9223372036854775807 ∧ w.cell? ⟨b,o,none⟩ = some (.string x.n) ∧ w.cell? ⟨b,o + 1,none⟩ = some (.string x.z) ∧ w.cell? ⟨b,o + 2,none⟩ = some (.int .i64 x.c) ∧ w.cell? ⟨b,o + 3,none⟩ = some (.int .i64 x.s) ∧ w.cell? ⟨b,o + 4,none⟩ = some (.int .i64 x.u) ∧ w.cell? ⟨b,o + 5,none⟩ = some (.bool x.d) ∧ w.cell? ⟨b,o + 6,none⟩ = some (.slice a len cap):=by
 obtain ⟨v0,h0,rfl,z0⟩:=h 0 _ rfl;obtain ⟨v1,h1,rfl,z1⟩:=h 1 _ rfl;obtain ⟨v2,h2,rfl⟩:=h 2 _ rfl;obtain ⟨v3,h3,rfl⟩:=h 3 _ rfl;obtain ⟨v4,h4,rfl⟩:=h 4 _ rfl;obtain ⟨v5,h5,rfl⟩:=h 5 _ rfl;obtain ⟨v6,h6,a,len,cap,rfl,hr⟩:=h 6 _ rfl;exact ⟨a,len,cap,hr,z0,z1,h0,h1,h2,h3,h4,h5,h6⟩
theorem cn {w : World} {a : Option Addr} {len cap : Nat} {xs : List Nd} (h : aI w a len cap 7 (xs.map ndF)) {j : Nat} (hj : j < len) :
  ∃ b o x,a = some ⟨b,o,none⟩ ∧ b < w.heap.size ∧ xs[j]? = some x ∧ RAt w b (o + j * 7) (ndF x):=by
 exact nu

theorem tC (a : Option Addr) (len cap : Nat) (xs : List Nd) (left : Int) (w : World) (hr : aI w a len cap 7 (xs.map ndF)) (h0 : 0 ≤ left) (h1 : left ≤ 1048576) :
  Calls Tryz.prog 16 #[.slice a len cap,.int .i64 left] w (SzB left (len ≤ 1048576 ∧ ∀ (j : Nat) x,xs[j]? = some x → x.zs.length ≤ 1048576) w):=by
 obtain ⟨HR,hvl,hlc⟩:=nf;clear hr;by_cases hl : left < (len : Int)
 ·go_enter Tryz.func16,Tryz.ntmps16;exact jd
 go_enter Tryz.func16,Tryz.ntmps16;go_wp2;go_loopw [1,5] (fun l i wr => ∃ (k : Nat) (m : Int),k ≤ len ∧ l = .int .i64 m ∧ i = .int .i64 k ∧ 0 ≤ m ∧ m ≤ left ∧ Hid (∀ (j : Nat) x,j < k → xs[j]? = some x → x.zs.length ≤ 1048576) ∧ Hid (Below w.heap.size w wr)) (fun _ i _ => len - (intOf i).toNat);case atStart => exact ⟨0,left - len,by omega,by go_num,rfl,by omega,by omega,fun j v hj => by omega,Below.refl _ _⟩
 case round =>
  obtain ⟨k,m,hk,rfl,rfl,hm0,hm1,HE,HB⟩:=hrel;by_cases hlt : k < len
  ·obtain ⟨b,o,v,rfl,hb,hv,hat⟩:=cn (HR.out.below HB.out) hlt;obtain ⟨va,vl,vc,hvr,z0,z1,c0,c1,c2,c3,c4,c5,c6⟩:=bc hat;have Hz0:=ae z0;have Hz1:=ae z1;have HV:=ae hv;have HT:=ae hvr;clear hvr;clear hat hv z0 z1;go_wp2_with fail;refine (oF v.n v.z v.c v.s v.u v.d va vl vc v.zs m _ Hz0.out Hz1.out HT.out hm0 af).mono ?_;rintro e w2 ⟨r,rfl,hr,hb2⟩;have HB2:=upB HB hb2;clear hb2 c0 c1 c2 c3 c4 c5 c6;exact uU
  ·exact uF

theorem yB (a a' : Option Addr) (len len' cap cap' : Nat) (xs : List Nd) (w : World) (hr : aI w a len cap 7 (xs.map ndF)) (hr' : aI w a' len' cap' 7 (xs.map ndF)) :
  Calls Tryz.prog 36 #[.slice a len cap,.slice a' len' cap'] w fun e w' => e = .returned (.bool true) ∧ Below w.heap.size w w':=by
 obtain rfl : len = len':=hr.1.symm.trans hr'.1;obtain ⟨HR,HR',hlc⟩:=nd;clear hr hr';go_enter Tryz.func36,Tryz.ntmps36;go_wp2;go_loopw [5] (fun i wr => ∃ k : Nat,k ≤ len ∧ i = .int .i64 k ∧ Hid (Below w.heap.size w wr)) (fun i _ => len - (intOf i).toNat);case atStart => exact ⟨0,by omega,rfl,Below.refl _ _⟩
 case round =>
  obtain ⟨k,hk,rfl,HB⟩:=hrel;by_cases hlt : k < len
  ·obtain ⟨b,o,v,rfl,hb,hv,hat⟩:=cn (HR.out.below HB.out) hlt;obtain ⟨b',o',v',rfl,hb',hv',hat'⟩:=cn (HR'.out.below HB.out) hlt;rw [hv] at hv';obtain rfl:=Option.some.inj hv';clear hv hv';obtain ⟨va,vl,vc,hvr,-,-,c0,c1,c2,c3,c4,c5,c6⟩:=bc hat;obtain ⟨va',vl',vc',hvr',-,-,d0,d1,d2,d3,d4,d5,d6⟩:=bc hat';clear hat hat';have HT:=ae hvr;have HT':=ae hvr';clear hvr hvr';have HE:=ae (fun q : Wd wr => qO v.n v.z v.c v.s v.u v.d va vl vc v.zs va' vl' vc' q.w (HT.out.below q.b) (HT'.out.below q.b));have hne:=Wd.ne wr;have e0 : ∀ q : Wd wr,q.w.cell? ⟨b,o + k * 7,none⟩ = some (.string v.n):=fun q => (q.cell hb).trans c0;have e1 : ∀ q : Wd wr,q.w.cell? ⟨b,o + k * 7 + 1,none⟩ = some (.string v.z):=fun q => (q.cell hb).trans c1;have e2 : ∀ q : Wd wr,q.w.cell? ⟨b,o + k * 7 + 2,none⟩ = some (.int .i64 v.c):=fun q => (q.cell hb).trans c2;have e3 : ∀ q : Wd wr,q.w.cell? ⟨b,o + k * 7 + 3,none⟩ = some (.int .i64 v.s):=fun q => (q.cell hb).trans c3;have e4 : ∀ q : Wd wr,q.w.cell? ⟨b,o + k * 7 + 4,none⟩ = some (.int .i64 v.u):=fun q => (q.cell hb).trans c4;have e5 : ∀ q : Wd wr,q.w.cell? ⟨b,o + k * 7 + 5,none⟩ = some (.bool v.d):=fun q => (q.cell hb).trans c5;have e6 : ∀ q : Wd wr,q.w.cell? ⟨b,o + k * 7 + 6,none⟩ = some (.slice va vl vc):=fun q => (q.cell hb).trans c6;have f0 : ∀ q : Wd wr,q.w.cell? ⟨b',o' + k * 7,none⟩ = some (.string v.n):=fun q => (q.cell hb').trans d0;have f1 : ∀ q : Wd wr,q.w.cell? ⟨b',o' + k * 7 + 1,none⟩ = some (.string v.z):=fun q => (q.cell hb').trans d1;have f2 : ∀ q : Wd wr,q.w.cell? ⟨b',o' + k * 7 + 2,none⟩ = some (.int .i64 v.c):=fun q => (q.cell hb').trans d2;have f3 : ∀ q : Wd wr,q.w.cell? ⟨b',o' + k * 7 + 3,none⟩ = some (.int .i64 v.s):=fun q => (q.cell hb').trans d3;have f4 : ∀ q : Wd wr,q.w.cell? ⟨b',o' + k * 7 + 4,none⟩ = some (.int .i64 v.u):=fun q => (q.cell hb').trans d4;have f5 : ∀ q : Wd wr,q.w.cell? ⟨b',o' + k * 7 + 5,none⟩ = some (.bool v.d):=fun q => (q.cell hb').trans d5;have f6 : ∀ q : Wd wr,q.w.cell? ⟨b',o' + k * 7 + 6,none⟩ = some (.slice va' vl' vc'):=fun q => (q.cell hb').trans d6;clear c0 c1 c2 c3 c4 c5 c6 d0 d1 d2 d3 d4 d5 d6;go_wp2_with fail;refine aj av av ?_;repeat (go_big_quiet_step (first | (go_at_call 80;exact Calls.wide (HE.out _)) | fail))
   exact ny
  ·exact jf

structure Kd where
 n : ByteArray
 x : Bool
 y : Bool
 z : ByteArray

def kdF (x : Kd) : List Fv:=[.s x.n,.b x.x,.b x.y,.s x.z]
theorem cr {w : World} {b o : Nat} {x : Kd} (h : RAt w b o (kdF x)) : x.n.size ≤ 9223372036854775807 ∧ x.z.size ≤ 9223372036854775807 ∧ w.cell? ⟨b,o,none⟩ = some (.string x.n) ∧ w.cell? ⟨b,o + 1,none⟩ = some (.bool x.x) ∧ w.cell? ⟨b,o + 2,none⟩ = some (.bool x.y) ∧ w.cell? ⟨b,o + 3,none⟩ = some (.string x.z):=by
 obtain ⟨v0,h0,rfl,z0⟩:=h 0 _ rfl;obtain ⟨v1,h1,rfl⟩:=h 1 _ rfl;obtain ⟨v2,h2,rfl⟩:=h 2 _ rfl;obtain ⟨v3,h3,rfl,z3⟩:=h 3 _ rfl;exact ⟨z0,z3,h0,h1,h2,h3⟩
theorem et {w : World} {a : Option Addr} {len cap : Nat} {xs : List Kd} (h : aI w a len cap 4 (xs.map kdF)) {j : Nat} (hj : j < len) :
  ∃ b o x,a = some ⟨b,o,none⟩ ∧ b < w.heap.size ∧ xs[j]? = some x ∧ RAt w b (o + j * 4) (kdF x):=by
 exact nu

theorem tD (a : Option Addr) (len cap : Nat) (xs : List Kd) (left : Int) (w : World) (hr : aI w a len cap 4 (xs.map kdF)) (h0 : 0 ≤ left) (h1 : left ≤ 1048576) :
  Calls Tryz.prog 17 #[.slice a len cap,.int .i64 left] w (SzB left (len ≤ 1048576) w):=by
 obtain ⟨HR,hvl,hlc⟩:=nf;clear hr;by_cases hl : left < (len : Int)
 ·go_enter Tryz.func17,Tryz.ntmps17;exact jd
 go_enter Tryz.func17,Tryz.ntmps17;go_wp2;go_loopw [1,5] (fun l i wr => ∃ (k : Nat) (m : Int),k ≤ len ∧ l = .int .i64 m ∧ i = .int .i64 k ∧ 0 ≤ m ∧ m ≤ left ∧ Hid (Below w.heap.size w wr)) (fun _ i _ => len - (intOf i).toNat);case atStart => exact ⟨0,left - len,by omega,by go_num,rfl,by omega,by omega,Below.refl _ _⟩
 case round =>
  obtain ⟨k,m,hk,rfl,rfl,hm0,hm1,HB⟩:=hrel;by_cases hlt : k < len
  ·obtain ⟨b,o,v,rfl,hb,hv,hat⟩:=et (HR.out.below HB.out) hlt;obtain ⟨z0,z3,c0,c1,c2,c3⟩:=cr hat;have Hz0:=ae z0;have Hz3:=ae z3;clear hat hv z0 z3;go_wp2_with fail;refine (mw v.n v.x v.y v.z m _ Hz0.out Hz3.out hm0 af).mono ?_;rintro e w2 ⟨r,rfl,hr,hb2⟩;have HB2:=upB HB hb2;clear hb2 c0 c1 c2 c3;exact xo
  ·exact wH

theorem od (n : ByteArray) (x : Bool) (y : Bool) (z : ByteArray) (w : World) :
  Calls Tryz.prog 81 #[.agg #[.string n,.bool x,.bool y,.string z],.agg #[.string n,.bool x,.bool y,.string z]] w fun e w' => e = .returned (.bool true) ∧ Below w.heap.size w w':=by
 go_enter Tryz.func81,Tryz.ntmps81;go_wp2;go_ret;exact ⟨rfl,aF _ _ _⟩

theorem yC (a a' : Option Addr) (len len' cap cap' : Nat) (xs : List Kd) (w : World) (hr : aI w a len cap 4 (xs.map kdF)) (hr' : aI w a' len' cap' 4 (xs.map kdF)) :
  Calls Tryz.prog 37 #[.slice a len cap,.slice a' len' cap'] w fun e w' => e = .returned (.bool true) ∧ Below w.heap.size w w':=by
 obtain rfl : len = len':=hr.1.symm.trans hr'.1;obtain ⟨HR,HR',hlc⟩:=nd;clear hr hr';go_enter Tryz.func37,Tryz.ntmps37;go_wp2;go_loopw [5] (fun i wr => ∃ k : Nat,k ≤ len ∧ i = .int .i64 k ∧ Hid (Below w.heap.size w wr)) (fun i _ => len - (intOf i).toNat);case atStart => exact ⟨0,by omega,rfl,Below.refl _ _⟩
 case round =>
  obtain ⟨k,hk,rfl,HB⟩:=hrel;by_cases hlt : k < len
  ·obtain ⟨b,o,v,rfl,hb,hv,hat⟩:=et (HR.out.below HB.out) hlt;obtain ⟨b',o',v',rfl,hb',hv',hat'⟩:=et (HR'.out.below HB.out) hlt;rw [hv] at hv';obtain rfl:=Option.some.inj hv';clear hv hv';obtain ⟨-,-,c0,c1,c2,c3⟩:=cr hat;obtain ⟨-,-,d0,d1,d2,d3⟩:=cr hat';clear hat hat';have HE:=ae (fun q : Wd wr => od v.n v.x v.y v.z q.w);have hne:=Wd.ne wr;have e0 : ∀ q : Wd wr,q.w.cell? ⟨b,o + k * 4,none⟩ = some (.string v.n):=fun q => (q.cell hb).trans c0;have e1 : ∀ q : Wd wr,q.w.cell? ⟨b,o + k * 4 + 1,none⟩ = some (.bool v.x):=fun q => (q.cell hb).trans c1;have e2 : ∀ q : Wd wr,q.w.cell? ⟨b,o + k * 4 + 2,none⟩ = some (.bool v.y):=fun q => (q.cell hb).trans c2;have e3 : ∀ q : Wd wr,q.w.cell? ⟨b,o + k * 4 + 3,none⟩ = some (.string v.z):=fun q => (q.cell hb).trans c3;have f0 : ∀ q : Wd wr,q.w.cell? ⟨b',o' + k * 4,none⟩ = some (.string v.n):=fun q => (q.cell hb').trans d0;have f1 : ∀ q : Wd wr,q.w.cell? ⟨b',o' + k * 4 + 1,none⟩ = some (.bool v.x):=fun q => (q.cell hb').trans d1;have f2 : ∀ q : Wd wr,q.w.cell? ⟨b',o' + k * 4 + 2,none⟩ = some (.bool v.y):=fun q => (q.cell hb').trans d2;have f3 : ∀ q : Wd wr,q.w.cell? ⟨b',o' + k * 4 + 3,none⟩ = some (.string v.z):=fun q => (q.cell hb').trans d3;clear c0 c1 c2 c3 d0 d1 d2 d3;go_wp2_with fail;refine aj av av ?_;repeat (go_big_quiet_step (first | (go_at_call 81;exact Calls.wide (HE.out _)) | fail))
   exact ny
  ·exact jf

def vdF (x : Vd) : List Fv:=[.s x.n,.i x.c,.s x.z,.s x.k,.b x.x,.s x.m,.b x.y,.l x.zs]
theorem aK {w : World} {b o : Nat} {x : Vd} (h : RAt w b o (vdF x)) : ∃ a len cap,ay w a len cap x.zs ∧ x.n.size ≤ 9223372036854775807 ∧ x.z.size ≤ 9223372036854775807 ∧ x.k.size ≤ 9223372036854775807 ∧ x.m.size ≤ 9223372036854775807 ∧ w.cell? ⟨b,o,none⟩ = some (.string x.n) ∧ w.cell? ⟨b,o + 1,none⟩ = some (.int .i64 x.c) ∧ w.cell? ⟨b,o + 2,none⟩ = some (.string x.z) ∧ w.cell? ⟨b,o + 3,none⟩ = some (.string x.k) ∧ w.cell? ⟨b,o + 4,none⟩ = some (.bool x.x) ∧ w.cell? ⟨b,o + 5,none⟩ = some (.string x.m) ∧ w.cell? ⟨b,o + 6,none⟩ = some (.bool x.y) ∧ w.cell? ⟨b,o + 7,none⟩ = some (.slice a len cap):=by
 obtain ⟨v0,h0,rfl,z0⟩:=h 0 _ rfl;obtain ⟨v1,h1,rfl⟩:=h 1 _ rfl;obtain ⟨v2,h2,rfl,z2⟩:=h 2 _ rfl;obtain ⟨v3,h3,rfl,z3⟩:=h 3 _ rfl;obtain ⟨v4,h4,rfl⟩:=h 4 _ rfl;obtain ⟨v5,h5,rfl,z5⟩:=h 5 _ rfl;obtain ⟨v6,h6,rfl⟩:=h 6 _ rfl;obtain ⟨v7,h7,a,len,cap,rfl,hr⟩:=h 7 _ rfl;exact ⟨a,len,cap,hr,z0,z2,z3,z5,h0,h1,h2,h3,h4,h5,h6,h7⟩
theorem bC {w : World} {a : Option Addr} {len cap : Nat} {xs : List Vd} (h : aI w a len cap 8 (xs.map vdF)) {j : Nat} (hj : j < len) :
  ∃ b o x,a = some ⟨b,o,none⟩ ∧ b < w.heap.size ∧ xs[j]? = some x ∧ RAt w b (o + j * 8) (vdF x):=by
 exact nu

theorem tA (a : Option Addr) (len cap : Nat) (xs : List Vd) (left : Int) (w : World) (hr : aI w a len cap 8 (xs.map vdF)) (h0 : 0 ≤ left) (h1 : left ≤ 1048576) :
  Calls Tryz.prog 18 #[.slice a len cap,.int .i64 left] w (SzB left (len ≤ 1048576 ∧ ∀ (j : Nat) x,xs[j]? = some x → x.zs.length ≤ 1048576) w):=by
 obtain ⟨HR,hvl,hlc⟩:=nf;clear hr;by_cases hl : left < (len : Int)
 ·go_enter Tryz.func18,Tryz.ntmps18;exact jd
 go_enter Tryz.func18,Tryz.ntmps18;go_wp2;go_loopw [1,5] (fun l i wr => ∃ (k : Nat) (m : Int),k ≤ len ∧ l = .int .i64 m ∧ i = .int .i64 k ∧ 0 ≤ m ∧ m ≤ left ∧ Hid (∀ (j : Nat) x,j < k → xs[j]? = some x → x.zs.length ≤ 1048576) ∧ Hid (Below w.heap.size w wr)) (fun _ i _ => len - (intOf i).toNat);case atStart => exact ⟨0,left - len,by omega,by go_num,rfl,by omega,by omega,fun j v hj => by omega,Below.refl _ _⟩
 case round =>
  obtain ⟨k,m,hk,rfl,rfl,hm0,hm1,HE,HB⟩:=hrel;by_cases hlt : k < len
  ·obtain ⟨b,o,v,rfl,hb,hv,hat⟩:=bC (HR.out.below HB.out) hlt;obtain ⟨va,vl,vc,hvr,z0,z2,z3,z5,c0,c1,c2,c3,c4,c5,c6,c7⟩:=aK hat;have Hz0:=ae z0;have Hz2:=ae z2;have Hz3:=ae z3;have Hz5:=ae z5;have HV:=ae hv;have HT:=ae hvr;clear hvr;clear hat hv z0 z2 z3 z5;go_wp2_with fail;refine (lx v.n v.c v.z v.k v.x v.m v.y va vl vc v.zs m _ Hz0.out Hz2.out Hz3.out Hz5.out HT.out hm0 af).mono ?_;rintro e w2 ⟨r,rfl,hr,hb2⟩;have HB2:=upB HB hb2;clear hb2 c0 c1 c2 c3 c4 c5 c6 c7;exact uU
  ·exact uF

theorem yz (a a' : Option Addr) (len len' cap cap' : Nat) (xs : List Vd) (w : World) (hr : aI w a len cap 8 (xs.map vdF)) (hr' : aI w a' len' cap' 8 (xs.map vdF)) :
  Calls Tryz.prog 38 #[.slice a len cap,.slice a' len' cap'] w fun e w' => e = .returned (.bool true) ∧ Below w.heap.size w w':=by
 obtain rfl : len = len':=hr.1.symm.trans hr'.1;obtain ⟨HR,HR',hlc⟩:=nd;clear hr hr';go_enter Tryz.func38,Tryz.ntmps38;go_wp2;go_loopw [5] (fun i wr => ∃ k : Nat,k ≤ len ∧ i = .int .i64 k ∧ Hid (Below w.heap.size w wr)) (fun i _ => len - (intOf i).toNat);case atStart => exact ⟨0,by omega,rfl,Below.refl _ _⟩
 case round =>
  obtain ⟨k,hk,rfl,HB⟩:=hrel;by_cases hlt : k < len
  ·obtain ⟨b,o,v,rfl,hb,hv,hat⟩:=bC (HR.out.below HB.out) hlt;obtain ⟨b',o',v',rfl,hb',hv',hat'⟩:=bC (HR'.out.below HB.out) hlt;rw [hv] at hv';obtain rfl:=Option.some.inj hv';clear hv hv';obtain ⟨va,vl,vc,hvr,-,-,-,-,c0,c1,c2,c3,c4,c5,c6,c7⟩:=aK hat;obtain ⟨va',vl',vc',hvr',-,-,-,-,d0,d1,d2,d3,d4,d5,d6,d7⟩:=aK hat';clear hat hat';have HT:=ae hvr;have HT':=ae hvr';clear hvr hvr';have HE:=ae (fun q : Wd wr => lS v.n v.c v.z v.k v.x v.m v.y va vl vc v.zs va' vl' vc' q.w (HT.out.below q.b) (HT'.out.below q.b));have hne:=Wd.ne wr;have e0 : ∀ q : Wd wr,q.w.cell? ⟨b,o + k * 8,none⟩ = some (.string v.n):=fun q => (q.cell hb).trans c0;have e1 : ∀ q : Wd wr,q.w.cell? ⟨b,o + k * 8 + 1,none⟩ = some (.int .i64 v.c):=fun q => (q.cell hb).trans c1;have e2 : ∀ q : Wd wr,q.w.cell? ⟨b,o + k * 8 + 2,none⟩ = some (.string v.z):=fun q => (q.cell hb).trans c2;have e3 : ∀ q : Wd wr,q.w.cell? ⟨b,o + k * 8 + 3,none⟩ = some (.string v.k):=fun q => (q.cell hb).trans c3;have e4 : ∀ q : Wd wr,q.w.cell? ⟨b,o + k * 8 + 4,none⟩ = some (.bool v.x):=fun q => (q.cell hb).trans c4;have e5 : ∀ q : Wd wr,q.w.cell? ⟨b,o + k * 8 + 5,none⟩ = some (.string v.m):=fun q => (q.cell hb).trans c5;have e6 : ∀ q : Wd wr,q.w.cell? ⟨b,o + k * 8 + 6,none⟩ = some (.bool v.y):=fun q => (q.cell hb).trans c6;have e7 : ∀ q : Wd wr,q.w.cell? ⟨b,o + k * 8 + 7,none⟩ = some (.slice va vl vc):=fun q => (q.cell hb).trans c7;have f0 : ∀ q : Wd wr,q.w.cell? ⟨b',o' + k * 8,none⟩ = some (.string v.n):=fun q => (q.cell hb').trans d0;have f1 : ∀ q : Wd wr,q.w.cell? ⟨b',o' + k * 8 + 1,none⟩ = some (.int .i64 v.c):=fun q => (q.cell hb').trans d1;have f2 : ∀ q : Wd wr,q.w.cell? ⟨b',o' + k * 8 + 2,none⟩ = some (.string v.z):=fun q => (q.cell hb').trans d2;have f3 : ∀ q : Wd wr,q.w.cell? ⟨b',o' + k * 8 + 3,none⟩ = some (.string v.k):=fun q => (q.cell hb').trans d3;have f4 : ∀ q : Wd wr,q.w.cell? ⟨b',o' + k * 8 + 4,none⟩ = some (.bool v.x):=fun q => (q.cell hb').trans d4;have f5 : ∀ q : Wd wr,q.w.cell? ⟨b',o' + k * 8 + 5,none⟩ = some (.string v.m):=fun q => (q.cell hb').trans d5;have f6 : ∀ q : Wd wr,q.w.cell? ⟨b',o' + k * 8 + 6,none⟩ = some (.bool v.y):=fun q => (q.cell hb').trans d6;have f7 : ∀ q : Wd wr,q.w.cell? ⟨b',o' + k * 8 + 7,none⟩ = some (.slice va' vl' vc'):=fun q => (q.cell hb').trans d7;clear c0 c1 c2 c3 c4 c5 c6 c7 d0 d1 d2 d3 d4 d5 d6 d7;go_wp2_with fail;refine aj av av ?_;repeat (go_big_quiet_step (first | (go_at_call 82;exact Calls.wide (HE.out _)) | fail))
   exact ny
  ·exact jf

structure Xd where
 n : ByteArray
 z : Int
 k : ByteArray
 x : Bool
 v : ByteArray

def xdF (x : Xd) : List Fv:=[.s x.n,.i x.z,.s x.k,.b x.x,.s x.v]
theorem bB {w : World} {b o : Nat} {x : Xd} (h : RAt w b o (xdF x)) : x.n.size ≤ 9223372036854775807 ∧ x.k.size ≤ 9223372036854775807 ∧ x.v.size ≤ 9223372036854775807 ∧ w.cell? ⟨b,o,none⟩ = some (.string x.n) ∧ w.cell? ⟨b,o + 1,none⟩ = some (.int .i64 x.z) ∧ w.cell? ⟨b,o + 2,none⟩ = some (.string x.k) ∧ w.cell? ⟨b,o + 3,none⟩ = some (.bool x.x) ∧ w.cell? ⟨b,o + 4,none⟩ = some (.string x.v):=by
 obtain ⟨v0,h0,rfl,z0⟩:=h 0 _ rfl;obtain ⟨v1,h1,rfl⟩:=h 1 _ rfl;obtain ⟨v2,h2,rfl,z2⟩:=h 2 _ rfl;obtain ⟨v3,h3,rfl⟩:=h 3 _ rfl;obtain ⟨v4,h4,rfl,z4⟩:=h 4 _ rfl;exact ⟨z0,z2,z4,h0,h1,h2,h3,h4⟩
theorem de {w : World} {a : Option Addr} {len cap : Nat} {xs : List Xd} (h : aI w a len cap 5 (xs.map xdF)) {j : Nat} (hj : j < len) :
  ∃ b o x,a = some ⟨b,o,none⟩ ∧ b < w.heap.size ∧ xs[j]? = some x ∧ RAt w b (o + j * 5) (xdF x):=by
 exact nu

theorem tz (a : Option Addr) (len cap : Nat) (xs : List Xd) (left : Int) (w : World) (hr : aI w a len cap 5 (xs.map xdF)) (h0 : 0 ≤ left) (h1 : left ≤ 1048576) :
  Calls Tryz.prog 19 #[.slice a len cap,.int .i64 left] w (SzB left (len ≤ 1048576) w):=by
 obtain ⟨HR,hvl,hlc⟩:=nf;clear hr;by_cases hl : left < (len : Int)
 ·go_enter Tryz.func19,Tryz.ntmps19;exact jd
 go_enter Tryz.func19,Tryz.ntmps19;go_wp2;go_loopw [1,5] (fun l i wr => ∃ (k : Nat) (m : Int),k ≤ len ∧ l = .int .i64 m ∧ i = .int .i64 k ∧ 0 ≤ m ∧ m ≤ left ∧ Hid (Below w.heap.size w wr)) (fun _ i _ => len - (intOf i).toNat);case atStart => exact ⟨0,left - len,by omega,by go_num,rfl,by omega,by omega,Below.refl _ _⟩
 case round =>
  obtain ⟨k,m,hk,rfl,rfl,hm0,hm1,HB⟩:=hrel;by_cases hlt : k < len
  ·obtain ⟨b,o,v,rfl,hb,hv,hat⟩:=de (HR.out.below HB.out) hlt;obtain ⟨z0,z2,z4,c0,c1,c2,c3,c4⟩:=bB hat;have Hz0:=ae z0;have Hz2:=ae z2;have Hz4:=ae z4;clear hat hv z0 z2 z4;go_wp2_with fail;refine (mx v.n v.z v.k v.x v.v m _ Hz0.out Hz2.out Hz4.out hm0 af).mono ?_;rintro e w2 ⟨r,rfl,hr,hb2⟩;have HB2:=upB HB hb2;clear hb2 c0 c1 c2 c3 c4;exact xo
  ·exact wH

theorem oe (n : ByteArray) (z : Int) (k : ByteArray) (x : Bool) (v : ByteArray) (w : World) :
  Calls Tryz.prog 83 #[.agg #[.string n,.int .i64 z,.string k,.bool x,.string v],.agg #[.string n,.int .i64 z,.string k,.bool x,.string v]] w fun e w' => e = .returned (.bool true) ∧ Below w.heap.size w w':=by
 go_enter Tryz.func83,Tryz.ntmps83;go_wp2;go_ret;exact ⟨rfl,aF _ _ _⟩

theorem yy (a a' : Option Addr) (len len' cap cap' : Nat) (xs : List Xd) (w : World) (hr : aI w a len cap 5 (xs.map xdF)) (hr' : aI w a' len' cap' 5 (xs.map xdF)) :
  Calls Tryz.prog 39 #[.slice a len cap,.slice a' len' cap'] w fun e w' => e = .returned (.bool true) ∧ Below w.heap.size w w':=by
 obtain rfl : len = len':=hr.1.symm.trans hr'.1;obtain ⟨HR,HR',hlc⟩:=nd;clear hr hr';go_enter Tryz.func39,Tryz.ntmps39;go_wp2;go_loopw [5] (fun i wr => ∃ k : Nat,k ≤ len ∧ i = .int .i64 k ∧ Hid (Below w.heap.size w wr)) (fun i _ => len - (intOf i).toNat);case atStart => exact ⟨0,by omega,rfl,Below.refl _ _⟩
 case round =>
  obtain ⟨k,hk,rfl,HB⟩:=hrel;by_cases hlt : k < len
  ·obtain ⟨b,o,v,rfl,hb,hv,hat⟩:=de (HR.out.below HB.out) hlt;obtain ⟨b',o',v',rfl,hb',hv',hat'⟩:=de (HR'.out.below HB.out) hlt;rw [hv] at hv';obtain rfl:=Option.some.inj hv';clear hv hv';obtain ⟨-,-,-,c0,c1,c2,c3,c4⟩:=bB hat;obtain ⟨-,-,-,d0,d1,d2,d3,d4⟩:=bB hat';clear hat hat';have HE:=ae (fun q : Wd wr => oe v.n v.z v.k v.x v.v q.w);have hne:=Wd.ne wr;have e0 : ∀ q : Wd wr,q.w.cell? ⟨b,o + k * 5,none⟩ = some (.string v.n):=fun q => (q.cell hb).trans c0;have e1 : ∀ q : Wd wr,q.w.cell? ⟨b,o + k * 5 + 1,none⟩ = some (.int .i64 v.z):=fun q => (q.cell hb).trans c1;have e2 : ∀ q : Wd wr,q.w.cell? ⟨b,o + k * 5 + 2,none⟩ = some (.string v.k):=fun q => (q.cell hb).trans c2;have e3 : ∀ q : Wd wr,q.w.cell? ⟨b,o + k * 5 + 3,none⟩ = some (.bool v.x):=fun q => (q.cell hb).trans c3;have e4 : ∀ q : Wd wr,q.w.cell? ⟨b,o + k * 5 + 4,none⟩ = some (.string v.v):=fun q => (q.cell hb).trans c4;have f0 : ∀ q : Wd wr,q.w.cell? ⟨b',o' + k * 5,none⟩ = some (.string v.n):=fun q => (q.cell hb').trans d0;have f1 : ∀ q : Wd wr,q.w.cell? ⟨b',o' + k * 5 + 1,none⟩ = some (.int .i64 v.z):=fun q => (q.cell hb').trans d1;have f2 : ∀ q : Wd wr,q.w.cell? ⟨b',o' + k * 5 + 2,none⟩ = some (.string v.k):=fun q => (q.cell hb').trans d2;have f3 : ∀ q : Wd wr,q.w.cell? ⟨b',o' + k * 5 + 3,none⟩ = some (.bool v.x):=fun q => (q.cell hb').trans d3;have f4 : ∀ q : Wd wr,q.w.cell? ⟨b',o' + k * 5 + 4,none⟩ = some (.string v.v):=fun q => (q.cell hb').trans d4;clear c0 c1 c2 c3 c4 d0 d1 d2 d3 d4;go_wp2_with fail;refine aj av av ?_;repeat (go_big_quiet_step (first | (go_at_call 83;exact Calls.wide (HE.out _)) | fail))
   exact ny
  ·exact jf

structure Pd where
 n : ByteArray
 c : Int
 z : ByteArray
 zs : List ByteArray
 d : ByteArray
 p : Int

def pdF (x : Pd) : List Fv:=[.s x.n,.i x.c,.s x.z,.l x.zs,.s x.d,.i x.p]
theorem aU {w : World} {b o : Nat} {x : Pd} (h : RAt w b o (pdF x)) : ∃ a len cap,ay w a len cap x.zs ∧ x.n.size ≤ 9223372036854775807 ∧ x.z.size ≤ 9223372036854775807 ∧ x.d.size ≤ 9223372036854775807 ∧ w.cell? ⟨b,o,none⟩ = some (.string x.n) ∧ w.cell? ⟨b,o + 1,none⟩ = some (.int .i64 x.c) ∧ w.cell? ⟨b,o + 2,none⟩ = some (.string x.z) ∧ w.cell? ⟨b,o + 3,none⟩ = some (.slice a len cap) ∧ w.cell? ⟨b,o + 4,none⟩ = some (.string x.d) ∧ w.cell? ⟨b,o + 5,none⟩ = some (.int .i64 x.p):=by
 obtain ⟨v0,h0,rfl,z0⟩:=h 0 _ rfl;obtain ⟨v1,h1,rfl⟩:=h 1 _ rfl;obtain ⟨v2,h2,rfl,z2⟩:=h 2 _ rfl;obtain ⟨v3,h3,a,len,cap,rfl,hr⟩:=h 3 _ rfl;obtain ⟨v4,h4,rfl,z4⟩:=h 4 _ rfl;obtain ⟨v5,h5,rfl⟩:=h 5 _ rfl;exact ⟨a,len,cap,hr,z0,z2,z4,h0,h1,h2,h3,h4,h5⟩
theorem bQ {w : World} {a : Option Addr} {len cap : Nat} {xs : List Pd} (h : aI w a len cap 6 (xs.map pdF)) {j : Nat} (hj : j < len) :
  ∃ b o x,a = some ⟨b,o,none⟩ ∧ b < w.heap.size ∧ xs[j]? = some x ∧ RAt w b (o + j * 6) (pdF x):=by
 exact nu

theorem tB (a : Option Addr) (len cap : Nat) (xs : List Pd) (left : Int) (w : World) (hr : aI w a len cap 6 (xs.map pdF)) (h0 : 0 ≤ left) (h1 : left ≤ 1048576) :
  Calls Tryz.prog 20 #[.slice a len cap,.int .i64 left] w (SzB left (len ≤ 1048576 ∧ ∀ (j : Nat) x,xs[j]? = some x → x.zs.length ≤ 1048576) w):=by
 obtain ⟨HR,hvl,hlc⟩:=nf;clear hr;by_cases hl : left < (len : Int)
 ·go_enter Tryz.func20,Tryz.ntmps20;exact jd
 go_enter Tryz.func20,Tryz.ntmps20;go_wp2;go_loopw [1,5] (fun l i wr => ∃ (k : Nat) (m : Int),k ≤ len ∧ l = .int .i64 m ∧ i = .int .i64 k ∧ 0 ≤ m ∧ m ≤ left ∧ Hid (∀ (j : Nat) x,j < k → xs[j]? = some x → x.zs.length ≤ 1048576) ∧ Hid (Below w.heap.size w wr)) (fun _ i _ => len - (intOf i).toNat);case atStart => exact ⟨0,left - len,by omega,by go_num,rfl,by omega,by omega,fun j v hj => by omega,Below.refl _ _⟩
 case round =>
  obtain ⟨k,m,hk,rfl,rfl,hm0,hm1,HE,HB⟩:=hrel;by_cases hlt : k < len
  ·obtain ⟨b,o,v,rfl,hb,hv,hat⟩:=bQ (HR.out.below HB.out) hlt;obtain ⟨va,vl,vc,hvr,z0,z2,z4,c0,c1,c2,c3,c4,c5⟩:=aU hat;have Hz0:=ae z0;have Hz2:=ae z2;have Hz4:=ae z4;have HV:=ae hv;have HT:=ae hvr;clear hvr;clear hat hv z0 z2 z4;go_wp2_with fail;refine (sg v.n v.c v.z va vl vc v.zs v.d v.p m _ Hz0.out Hz2.out Hz4.out HT.out hm0 af).mono ?_;rintro e w2 ⟨r,rfl,hr,hb2⟩;have HB2:=upB HB hb2;clear hb2 c0 c1 c2 c3 c4 c5;exact uU
  ·exact uF

theorem yA (a a' : Option Addr) (len len' cap cap' : Nat) (xs : List Pd) (w : World) (hr : aI w a len cap 6 (xs.map pdF)) (hr' : aI w a' len' cap' 6 (xs.map pdF)) :
  Calls Tryz.prog 40 #[.slice a len cap,.slice a' len' cap'] w fun e w' => e = .returned (.bool true) ∧ Below w.heap.size w w':=by
 obtain rfl : len = len':=hr.1.symm.trans hr'.1;obtain ⟨HR,HR',hlc⟩:=nd;clear hr hr';go_enter Tryz.func40,Tryz.ntmps40;go_wp2;go_loopw [5] (fun i wr => ∃ k : Nat,k ≤ len ∧ i = .int .i64 k ∧ Hid (Below w.heap.size w wr)) (fun i _ => len - (intOf i).toNat);case atStart => exact ⟨0,by omega,rfl,Below.refl _ _⟩
 case round =>
  obtain ⟨k,hk,rfl,HB⟩:=hrel;by_cases hlt : k < len
  ·obtain ⟨b,o,v,rfl,hb,hv,hat⟩:=bQ (HR.out.below HB.out) hlt;obtain ⟨b',o',v',rfl,hb',hv',hat'⟩:=bQ (HR'.out.below HB.out) hlt;rw [hv] at hv';obtain rfl:=Option.some.inj hv';clear hv hv';obtain ⟨va,vl,vc,hvr,-,-,-,c0,c1,c2,c3,c4,c5⟩:=aU hat;obtain ⟨va',vl',vc',hvr',-,-,-,d0,d1,d2,d3,d4,d5⟩:=aU hat';clear hat hat';have HT:=ae hvr;have HT':=ae hvr';clear hvr hvr';have HE:=ae (fun q : Wd wr => sS v.n v.c v.z va vl vc v.zs v.d v.p va' vl' vc' q.w (HT.out.below q.b) (HT'.out.below q.b));have hne:=Wd.ne wr;have e0 : ∀ q : Wd wr,q.w.cell? ⟨b,o + k * 6,none⟩ = some (.string v.n):=fun q => (q.cell hb).trans c0;have e1 : ∀ q : Wd wr,q.w.cell? ⟨b,o + k * 6 + 1,none⟩ = some (.int .i64 v.c):=fun q => (q.cell hb).trans c1;have e2 : ∀ q : Wd wr,q.w.cell? ⟨b,o + k * 6 + 2,none⟩ = some (.string v.z):=fun q => (q.cell hb).trans c2;have e3 : ∀ q : Wd wr,q.w.cell? ⟨b,o + k * 6 + 3,none⟩ = some (.slice va vl vc):=fun q => (q.cell hb).trans c3;have e4 : ∀ q : Wd wr,q.w.cell? ⟨b,o + k * 6 + 4,none⟩ = some (.string v.d):=fun q => (q.cell hb).trans c4;have e5 : ∀ q : Wd wr,q.w.cell? ⟨b,o + k * 6 + 5,none⟩ = some (.int .i64 v.p):=fun q => (q.cell hb).trans c5;have f0 : ∀ q : Wd wr,q.w.cell? ⟨b',o' + k * 6,none⟩ = some (.string v.n):=fun q => (q.cell hb').trans d0;have f1 : ∀ q : Wd wr,q.w.cell? ⟨b',o' + k * 6 + 1,none⟩ = some (.int .i64 v.c):=fun q => (q.cell hb').trans d1;have f2 : ∀ q : Wd wr,q.w.cell? ⟨b',o' + k * 6 + 2,none⟩ = some (.string v.z):=fun q => (q.cell hb').trans d2;have f3 : ∀ q : Wd wr,q.w.cell? ⟨b',o' + k * 6 + 3,none⟩ = some (.slice va' vl' vc'):=fun q => (q.cell hb').trans d3;have f4 : ∀ q : Wd wr,q.w.cell? ⟨b',o' + k * 6 + 4,none⟩ = some (.string v.d):=fun q => (q.cell hb').trans d4;have f5 : ∀ q : Wd wr,q.w.cell? ⟨b',o' + k * 6 + 5,none⟩ = some (.int .i64 v.p):=fun q => (q.cell hb').trans d5;clear c0 c1 c2 c3 c4 c5 d0 d1 d2 d3 d4 d5;go_wp2_with fail;refine aj av av ?_;repeat (go_big_quiet_step (first | (go_at_call 84;exact Calls.wide (HE.out _)) | fail))
   exact ny
  ·exact jf

structure Cl where
 ns : List Nd
 ks : List Kd
 vs : List Vd
 xs : List Xd
 ps : List Pd
 now : Int
structure Cr where
 n : List (List Fv)
 k : List (List Fv)
 v : List (List Fv)
 x : List (List Fv)
 p : List (List Fv)
def Cl.raw (c : Cl) : Cr:=⟨c.ns.map ndF,c.ks.map kdF,c.vs.map vdF,c.xs.map xdF,c.ps.map pdF⟩
structure Ad where
 a1 : Option Addr
 l1 : Nat
 c1 : Nat
 a2 : Option Addr
 l2 : Nat
 c2 : Nat
 a3 : Option Addr
 l3 : Nat
 c3 : Nat
 a4 : Option Addr
 l4 : Nat
 c4 : Nat
 a5 : Option Addr
 l5 : Nat
 c5 : Nat
structure aM (w : World) (d : Ad) (c : Cr) : Prop where
 n : aI w d.a1 d.l1 d.c1 7 c.n
 k : aI w d.a2 d.l2 d.c2 4 c.k
 v : aI w d.a3 d.l3 d.c3 8 c.v
 x : aI w d.a4 d.l4 d.c4 5 c.x
 p : aI w d.a5 d.l5 d.c5 6 c.p
theorem aM.below {w w' : World} {d : Ad} {c : Cr} (h : aM w d c) (hb : Below w.heap.size w w') : aM w' d c:=⟨h.n.below hb,h.k.below hb,h.v.below hb,h.x.below hb,h.p.below hb⟩
structure eL (w : World) (d : Ad) (c : Cr) (S : Nat → Prop) (P : Nat → Nat) : Prop where
 n : aB w d.a1 d.l1 d.c1 7 72 c.n (fun k => S k ∧ P k = 1)
 k : aB w d.a2 d.l2 d.c2 4 116 c.k (fun k => S k ∧ P k = 2)
 v : aB w d.a3 d.l3 d.c3 8 118 c.v (fun k => S k ∧ P k = 3)
 x : aB w d.a4 d.l4 d.c4 5 120 c.x (fun k => S k ∧ P k = 4)
 p : aB w d.a5 d.l5 d.c5 6 65 c.p (fun k => S k ∧ P k = 5)
def cf (w : World) (d : Ad) (c : Cr) (S : Nat → Prop) : Prop:=∃ P,eL w d c S P
theorem eL.row {w : World} {d : Ad} {c : Cr} {S : Nat → Prop} {P : Nat → Nat} (h : eL w d c S P) : aM w d c:=⟨h.n.row,h.k.row,h.v.row,h.x.row,h.p.row⟩
theorem cf.row {w : World} {d : Ad} {c : Cr} {S : Nat → Prop} (h : cf w d c S) : aM w d c:=by obtain ⟨P,h⟩:=h;exact h.row
theorem eL.aH {w w' : World} {d : Ad} {c : Cr} {S S' : Nat → Prop} {P : Nat → Nat} (h : eL w d c S P) (hk : ∀ k,k < w.heap.size → S k → w'.heap[k]? = w.heap[k]?) (hs : ∀ k,k < w.heap.size → S k → S' k) : eL w' d c S' P :=
 ⟨h.n.aH (fun k hl s => hk k hl s.1) (fun k hl s => ⟨hs k hl s.1,s.2⟩),h.k.aH (fun k hl s => hk k hl s.1) (fun k hl s => ⟨hs k hl s.1,s.2⟩),h.v.aH (fun k hl s => hk k hl s.1) (fun k hl s => ⟨hs k hl s.1,s.2⟩),h.x.aH (fun k hl s => hk k hl s.1) (fun k hl s => ⟨hs k hl s.1,s.2⟩),h.p.aH (fun k hl s => hk k hl s.1) (fun k hl s => ⟨hs k hl s.1,s.2⟩)⟩
theorem cf.below {w w' : World} {d : Ad} {c : Cr} {S : Nat → Prop} (h : cf w d c S) (hb : Below w.heap.size w w') : cf w' d c S:=by
 obtain ⟨P,h⟩:=h;exact ⟨P,h.aH (fun k hk _ => hb.block k hk) (fun _ _ s => s)⟩
theorem cf.kept {w w' : World} {d : Ad} {c : Cr} {S S' : Nat → Prop} (h : cf w d c S) (hb : aP S' w w') (hd : ∀ k,S k → ¬ S' k) : cf w' d c S:=by
 obtain ⟨P,h⟩:=h;exact ⟨P,h.aH (fun k hk s => hb.block k hk (hd k s)) (fun _ _ s => s)⟩
theorem cf.bs {w : World} {d : Ad} {c : Cr} {S S' : Nat → Prop} (h : cf w d c S) (hs : ∀ k,k < w.heap.size → S k → S' k) : cf w d c S':=by
 obtain ⟨P,h⟩:=h;exact ⟨P,h.aH (fun _ _ _ => rfl) hs⟩
def qk (N : Int) (c : Cr) : Int:=(dP (dP (dP (dP (dP N c.n) c.k) c.v) c.x) c.p)
theorem j0 (d d' : Ad) (c : Cl) (w : World) (hr : aM w d c.raw) (hr' : aM w d' c.raw) :
  Calls Tryz.prog 9 #[.agg #[.slice d.a1 d.l1 d.c1,.slice d.a2 d.l2 d.c2,.slice d.a3 d.l3 d.c3,.slice d.a4 d.l4 d.c4,.slice d.a5 d.l5 d.c5,.int .i64 c.now],.agg #[.slice d'.a1 d'.l1 d'.c1,.slice d'.a2 d'.l2 d'.c2,.slice d'.a3 d'.l3 d'.c3,.slice d'.a4 d'.l4 d'.c4,.slice d'.a5 d'.l5 d'.c5,.int .i64 c.now]] w fun e w' => e = .returned (.bool true) ∧ Below w.heap.size w w':=by
 have HR:=ae (hr.below (aF w (.cells #[.slice d.a1 d.l1 d.c1,.slice d.a2 d.l2 d.c2,.slice d.a3 d.l3 d.c3,.slice d.a4 d.l4 d.c4,.slice d.a5 d.l5 d.c5,.int .i64 c.now] 37) (.cells #[.slice d'.a1 d'.l1 d'.c1,.slice d'.a2 d'.l2 d'.c2,.slice d'.a3 d'.l3 d'.c3,.slice d'.a4 d'.l4 d'.c4,.slice d'.a5 d'.l5 d'.c5,.int .i64 c.now] 37)));have HR':=ae (hr'.below (aF w (.cells #[.slice d.a1 d.l1 d.c1,.slice d.a2 d.l2 d.c2,.slice d.a3 d.l3 d.c3,.slice d.a4 d.l4 d.c4,.slice d.a5 d.l5 d.c5,.int .i64 c.now] 37) (.cells #[.slice d'.a1 d'.l1 d'.c1,.slice d'.a2 d'.l2 d'.c2,.slice d'.a3 d'.l3 d'.c3,.slice d'.a4 d'.l4 d'.c4,.slice d'.a5 d'.l5 d'.c5,.int .i64 c.now] 37)));have HB0:=ae (aF w (.cells #[.slice d.a1 d.l1 d.c1,.slice d.a2 d.l2 d.c2,.slice d.a3 d.l3 d.c3,.slice d.a4 d.l4 d.c4,.slice d.a5 d.l5 d.c5,.int .i64 c.now] 37) (.cells #[.slice d'.a1 d'.l1 d'.c1,.slice d'.a2 d'.l2 d'.c2,.slice d'.a3 d'.l3 d'.c3,.slice d'.a4 d'.l4 d'.c4,.slice d'.a5 d'.l5 d'.c5,.int .i64 c.now] 37));have HG0:=ae (cK w (.cells #[.slice d.a1 d.l1 d.c1,.slice d.a2 d.l2 d.c2,.slice d.a3 d.l3 d.c3,.slice d.a4 d.l4 d.c4,.slice d.a5 d.l5 d.c5,.int .i64 c.now] 37) (.cells #[.slice d'.a1 d'.l1 d'.c1,.slice d'.a2 d'.l2 d'.c2,.slice d'.a3 d'.l3 d'.c3,.slice d'.a4 d'.l4 d'.c4,.slice d'.a5 d'.l5 d'.c5,.int .i64 c.now] 37));have HG1:=ae (bK w (.cells #[.slice d.a1 d.l1 d.c1,.slice d.a2 d.l2 d.c2,.slice d.a3 d.l3 d.c3,.slice d.a4 d.l4 d.c4,.slice d.a5 d.l5 d.c5,.int .i64 c.now] 37) (.cells #[.slice d'.a1 d'.l1 d'.c1,.slice d'.a2 d'.l2 d'.c2,.slice d'.a3 d'.l3 d'.c3,.slice d'.a4 d'.l4 d'.c4,.slice d'.a5 d'.l5 d'.c5,.int .i64 c.now] 37));clear hr hr';go_enter Tryz.func9,Tryz.ntmps9;go_wp2_with fail;refine (yB d.a1 d'.a1 d.l1 d'.l1 d.c1 d'.c1 c.ns _ HR.out.n HR'.out.n).mono ?_;rintro e w1 ⟨rfl,hb⟩;have HR1:=ae (HR.out.below hb);have HR'1:=ae (HR'.out.below hb);have HB1:=ae (HB0.out.trans (hb.mono (HB0.out.size)));have HG01:=upK HG0 hb;have HG11:=upK HG1 hb;clear hb HR HR' HB0 HG0 HG1;have HR:=HR1;have HR':=HR'1;have HG0:=HG01;have HG1:=HG11;clear HR1 HR'1 HG01 HG11;have c0 : w1.cell? ⟨w.heap.size,1,none⟩ = some (.slice d.a2 d.l2 d.c2):=ah HG0.out 1;have c1 : w1.cell? ⟨w.heap.size + 1,1,none⟩ = some (.slice d'.a2 d'.l2 d'.c2):=ah HG1.out 1;go_wp2_with fail;refine (yC d.a2 d'.a2 d.l2 d'.l2 d.c2 d'.c2 c.ks _ HR.out.k HR'.out.k).mono ?_;rintro e w2 ⟨rfl,hb⟩;have HR2:=ae (HR.out.below hb);have HR'2:=ae (HR'.out.below hb);have HB2:=ae (HB1.out.trans (hb.mono (HB1.out.size)));have HG02:=upK HG0 hb;have HG12:=upK HG1 hb;clear hb HR HR' HB1 HG0 HG1 c0 c1;have HR:=HR2;have HR':=HR'2;have HG0:=HG02;have HG1:=HG12;clear HR2 HR'2 HG02 HG12;have c0 : w2.cell? ⟨w.heap.size,2,none⟩ = some (.slice d.a3 d.l3 d.c3):=ah HG0.out 2;have c1 : w2.cell? ⟨w.heap.size + 1,2,none⟩ = some (.slice d'.a3 d'.l3 d'.c3):=ah HG1.out 2;go_wp2_with fail;refine (yz d.a3 d'.a3 d.l3 d'.l3 d.c3 d'.c3 c.vs _ HR.out.v HR'.out.v).mono ?_;rintro e w3 ⟨rfl,hb⟩;have HR3:=ae (HR.out.below hb)
 have HR'3:=ae (HR'.out.below hb);have HB3:=ae (HB2.out.trans (hb.mono (HB2.out.size)));have HG03:=upK HG0 hb;have HG13:=upK HG1 hb;clear hb HR HR' HB2 HG0 HG1 c0 c1;have HR:=HR3;have HR':=HR'3;have HG0:=HG03;have HG1:=HG13;clear HR3 HR'3 HG03 HG13;have c0 : w3.cell? ⟨w.heap.size,3,none⟩ = some (.slice d.a4 d.l4 d.c4):=ah HG0.out 3;have c1 : w3.cell? ⟨w.heap.size + 1,3,none⟩ = some (.slice d'.a4 d'.l4 d'.c4):=ah HG1.out 3;go_wp2_with fail;refine (yy d.a4 d'.a4 d.l4 d'.l4 d.c4 d'.c4 c.xs _ HR.out.x HR'.out.x).mono ?_;rintro e w4 ⟨rfl,hb⟩;have HR4:=ae (HR.out.below hb);have HR'4:=ae (HR'.out.below hb);have HB4:=ae (HB3.out.trans (hb.mono (HB3.out.size)));have HG04:=upK HG0 hb;have HG14:=upK HG1 hb;clear hb HR HR' HB3 HG0 HG1 c0 c1;have HR:=HR4;have HR':=HR'4;have HG0:=HG04;have HG1:=HG14;clear HR4 HR'4 HG04 HG14;have c0 : w4.cell? ⟨w.heap.size,4,none⟩ = some (.slice d.a5 d.l5 d.c5):=ah HG0.out 4;have c1 : w4.cell? ⟨w.heap.size + 1,4,none⟩ = some (.slice d'.a5 d'.l5 d'.c5):=ah HG1.out 4;go_wp2_with fail;refine (yA d.a5 d'.a5 d.l5 d'.l5 d.c5 d'.c5 c.ps _ HR.out.p HR'.out.p).mono ?_;rintro e w5 ⟨rfl,hb⟩;have HR5:=ae (HR.out.below hb);have HR'5:=ae (HR'.out.below hb);have HB5:=ae (HB4.out.trans (hb.mono (HB4.out.size)));have HG05:=upK HG0 hb;have HG15:=upK HG1 hb;clear hb HR HR' HB4 HG0 HG1 c0 c1;have HR:=HR5;have HR':=HR'5;have HG0:=HG05;have HG1:=HG15;clear HR5 HR'5 HG05 HG15;have c0 : w5.cell? ⟨w.heap.size,5,none⟩ = some (.int .i64 c.now):=ah HG0.out 5;have c1 : w5.cell? ⟨w.heap.size + 1,5,none⟩ = some (.int .i64 c.now):=ah HG1.out 5;go_wp2;go_ret;exact ⟨rfl,HB5.out⟩

end Rc
end Go.Proofs.YtdoldaceehdifaaGreatDoor

namespace Go.Proofs.YtdoldaceehdifaaGreatDoor
open Go.RowKit
namespace Rc

theorem dj : ∀ x : List UInt8,Op.bytesLess x x = false
 | [] => rfl
 | a :: x => by simp [Op.bytesLess,dj x]
theorem cq : ∀ x y z : List UInt8,Op.bytesLess x y = true → Op.bytesLess y z = true → Op.bytesLess x z = true
 | _,[],_,h,_ => by cases ‹List UInt8› <;> simp [Op.bytesLess] at h
 | _,_ :: _,[],_,h => by simp [Op.bytesLess] at h
 | [],_ :: _,_ :: _,_,_ => rfl
 | a :: x,b :: y,c :: z,h,k => by
  simp only [Op.bytesLess,Bool.or_eq_true,decide_eq_true_eq,Bool.and_eq_true,beq_iff_eq] at h k ⊢;rcases h with h | ⟨rfl,h⟩
  ·rcases k with k | ⟨rfl,k⟩
   ·exact .inl (UInt8.lt_trans h k)
   ·exact .inl h
  ·rcases k with k | ⟨rfl,k⟩
   ·exact .inl k
   ·exact .inr ⟨rfl,cq x y z h k⟩
section
variable {α : Type} {nm : α → ByteArray} {xs : List α} {t : ByteArray}
def aJ (nm : α → ByteArray) (xs : List α) : Prop:=∀ (j : Nat) x y,xs[j + 1]? = some x → xs[j]? = some y → Op.bytesLess (nm y).toList (nm x).toList = true
theorem aJ.lt (h : aJ nm xs) {i j : Nat} {x y : α} (hij : i < j) (hi : xs[i]? = some x) (hj : xs[j]? = some y) : Op.bytesLess (nm x).toList (nm y).toList = true:=by
 induction j generalizing y with
 | zero => omega
 | succ j ih =>
  by_cases e : i = j
  ·subst e;exact h i y x hj hi
  ·have hl : j < xs.length:=by have:=(List.getElem?_eq_some_iff.1 hj).1;omega
   have hz : xs[j]? = some (xs[j]'hl):=List.getElem?_eq_getElem _;exact cq _ _ _ (ih af hz) (h j y _ hj hz)
theorem aJ.inj (h : aJ nm xs) {i j : Nat} {x y : α} (hi : xs[i]? = some x) (hj : xs[j]? = some y) (e : nm x = nm y) : i = j ∧ x = y:=by
 have hij : i = j:=by
  rcases Nat.lt_trichotomy i j with k | k | k
  ·have:=h.lt k hi hj;rw [e,dj] at this;cases this
  ·exact k
  ·have:=h.lt k hj hi;rw [e,dj] at this;cases this
 subst hij;rw [hi] at hj;exact ⟨rfl,Option.some.inj hj⟩
def pl (nm : α → ByteArray) (xs : List α) (t : ByteArray) : Nat:=xs.findIdx (fun x => !Op.bytesLess (nm x).toList t.toList)
def hit (nm : α → ByteArray) (xs : List α) (t : ByteArray) : Bool:=match xs[pl nm xs t]? with | some x => (nm x).toList == t.toList | none => false
theorem nL {k : Nat} {x : α} (h : ∀ (j : Nat) y,j < k → xs[j]? = some y → Op.bytesLess (nm y).toList t.toList = true) (hx : xs[k]? = some x) (hl : Op.bytesLess (nm x).toList t.toList = false) : pl nm xs t = k:=by
 have hk : k < xs.length:=(List.getElem?_eq_some_iff.1 hx).1;have hxe : xs[k] = x:=(List.getElem?_eq_some_iff.1 hx).2;unfold pl;rw [List.findIdx_eq hk];refine ⟨by rw [hxe,hl];rfl,fun j hj => ?_⟩;rw [h j _ hj (List.getElem?_eq_getElem af)];rfl
theorem fw (h : ∀ (j : Nat) y,xs[j]? = some y → Op.bytesLess (nm y).toList t.toList = true) : pl nm xs t = xs.length:=by
 unfold pl;rw [List.findIdx_eq_length];intro x hx;obtain ⟨j,hj,rfl⟩:=List.mem_iff_getElem.1 hx;rw [h j _ (List.getElem?_eq_getElem hj)];rfl
theorem fp {a b : ByteArray} (h : (a.toList == b.toList) = true) : a = b:=by
 by_cases e : a = b
 ·exact e
 ·rw [bo e] at h;cases h
theorem bU (hr : aJ nm xs) {j : Nat} {x : α} (hx : xs[j]? = some x) (hn : nm x = t) : pl nm xs t = j ∧ hit nm xs t = true:=by
 have h : pl nm xs t = j:=nL (fun i y hi hy => by rw [← hn];exact hr.lt hi hy hx) hx (by rw [hn];exact dj _);refine ⟨h,?_⟩;unfold hit;rw [h,hx];exact aV hn
theorem yu (h : ∀ (j : Nat) x,xs[j]? = some x → ¬ nm x = t) : hit nm xs t = false:=by
 unfold hit;split
 ·next x hx => exact bo (h _ x hx)
 ·rfl
theorem da (h : hit nm xs t = true) : ∃ x,xs[pl nm xs t]? = some x ∧ nm x = t:=by
 unfold hit at h;split at h
 ·next x hx => exact ⟨x,hx,fp h⟩
 ·cases h
def dE (ok : α → Prop) (nm : α → ByteArray) (xs : List α) (most : Int) : Prop:=(xs.length : Int) ≤ most ∧ (∀ (j : Nat) x,xs[j]? = some x → ok x) ∧ aJ nm xs
end
theorem ar.yes {p : Prop} {w w' : World} {e : Ending} (h : ar p w e w') (hp : p) : e = .returned (.bool true) ∧ Below w.heap.size w w':=by
 obtain ⟨r,rfl,hr,hb⟩:=h;exact ⟨by rw [hr.2 hp],hb⟩
theorem ar.no {p : Prop} {w w' : World} {e : Ending} (h : ar p w e w') (hp : ¬ p) : e = .returned (.bool false) ∧ Below w.heap.size w w':=by
 obtain ⟨r,rfl,hr,hb⟩:=h;cases r
 ·exact ⟨rfl,hb⟩
 ·exact absurd (hr.1 rfl) hp
theorem ar.t {p : Prop} {w w' : World} (hp : p) (hb : Below w.heap.size w w') : ar p w (.returned (.bool true)) w':=⟨true,rfl,⟨fun _ => hp,fun _ => rfl⟩,hb⟩
theorem ar.f {p : Prop} {w w' : World} (hp : ¬ p) (hb : Below w.heap.size w w') : ar p w (.returned (.bool false)) w':=⟨false,rfl,⟨fun h => (by cases h),fun h => absurd h hp⟩,hb⟩
def nQ (x : Nd) : Prop:=qT x.n x.z x.c x.s x.u x.zs
def qu (x : Kd) : Prop:=gq x.n x.z
def oB (v : Vd) : Prop:=rS v.n v.c v.z v.k v.x v.m v.y v.zs
def oq (x : Xd) : Prop:=e_ x.n x.z x.k x.v
def qf (x : Pd) : Prop:=yK x.n x.c x.z x.zs x.d x.p

end Rc
end Go.Proofs.YtdoldaceehdifaaGreatDoor

namespace Go.Proofs.YtdoldaceehdifaaGreatDoor
open Go.RowKit

theorem n8 (n : ByteArray) (c : Int) (z k : ByteArray) (x : Bool) (m : ByteArray) (y : Bool) (a : Option Addr) (len cap : Nat) (zs : List ByteArray) (w : World) (hn : n.size ≤ 9223372036854775807) (hz : z.size ≤ 9223372036854775807) (hk : k.size ≤ 9223372036854775807) (hm : m.size ≤ 9223372036854775807) (hr : ay w a len cap zs) :
  Calls Tryz.prog 197 #[.agg #[.string n,.int .i64 c,.string z,.string k,.bool x,.string m,.bool y,.slice a len cap]] w (ar (rS n c z k x m y zs) w):=by
 have HR : Hid (ay w a len cap zs):=hr;have hzl : zs.length = len:=hr.1;have hlc : len ≤ 9223372036854775807:=Nat.le_trans hr.2.1 hr.2.2.1;clear hr;cases y
 ·have HY : Hid (false = true → m = ⟨#[]⟩):=fun h => bM;by_cases p0 : aL n;case neg =>
   exact A5
  have F0 : Hid (∀ w,Calls Tryz.prog 189 #[.string n] w fun e w' => e = .returned (.bool true) ∧ w' = w):=fun w => (aW n w hn).mono fun _ _ h => h.yes p0;by_cases p1 : Inn c 1 1048576;case neg =>
   exact Be
  have F1 : Hid (∀ w,Calls Tryz.prog 46 #[.int .i64 c,.int .i64 1,.int .i64 1048576] w fun e w' => e = .returned (.bool true) ∧ w' = w):=fun w => (bO c 1 1048576 w).mono fun _ _ h => h.yes p1;by_cases p2 : aL z;case neg =>
   exact Bl
  have F2 : Hid (∀ w,Calls Tryz.prog 189 #[.string z] w fun e w' => e = .returned (.bool true) ∧ w' = w):=fun w => (aW z w hz).mono fun _ _ h => h.yes p2;by_cases p3 : aL k;case neg =>
   exact Bm
  have F3 : Hid (∀ w,Calls Tryz.prog 189 #[.string k] w fun e w' => e = .returned (.bool true) ∧ w' = w):=fun w => (aW k w hk).mono fun _ _ h => h.yes p3;by_cases p4 : cB m;case neg =>
   have F4 : Hid (∀ w,Calls Tryz.prog 183 #[.string m] w fun e w' => e = .returned (.bool false) ∧ w' = w):=fun w => (cy m w hm).mono fun _ _ h => h.no p4;have HP:=ae p4;clear p4;go_enter Tryz.func197,Tryz.ntmps197;go_wp2_with fail;go_quiet ((first | (go_at_call_of 189 (Value.string n);exact Calls.quiet_of_same (F0.out _)) | (go_at_call_of 46 (Value.int .i64 c);exact Calls.quiet_of_same (F1.out _)) | (go_at_call_of 189 (Value.string z);exact Calls.quiet_of_same (F2.out _)) | (go_at_call_of 189 (Value.string k);exact Calls.quiet_of_same (F3.out _)) | (go_at_call_of 183 (Value.string m);exact Calls.quiet_of_same (F4.out _))));exact wY
  have F4 : Hid (∀ w,Calls Tryz.prog 183 #[.string m] w fun e w' => e = .returned (.bool true) ∧ w' = w):=fun w => (cy m w hm).mono fun _ _ h => h.yes p4;obtain ⟨q,hq⟩ : ∃ q : Int,q = if x = true then 1 else 6:=⟨_,rfl⟩;have HM : Hid (∀ w,Calls Tryz.prog 208 #[.agg #[.string n,.int .i64 c,.string z,.string k,.bool x,.string m,.bool false,.slice a len cap]] w fun e w' => e = .returned (.int .i64 q) ∧ Below w.heap.size w w'):=fun w => by rw [hq];exact jm n c z k x m false a len cap w
  have HQ : Hid (q = if x = true then 1 else 6):=hq;clear hq;go_enter Tryz.func197,Tryz.ntmps197;go_wp2_with fail;go_region_with (first | (go_at_call_of 189 (Value.string n);refine (F0.out _).mono ?_;rintro e w1 ⟨rfl,rfl⟩) | (go_at_call_of 46 (Value.int .i64 c);refine (F1.out _).mono ?_;rintro e w1 ⟨rfl,rfl⟩) | (go_at_call_of 189 (Value.string z);refine (F2.out _).mono ?_;rintro e w1 ⟨rfl,rfl⟩) | (go_at_call_of 189 (Value.string k);refine (F3.out _).mono ?_;rintro e w1 ⟨rfl,rfl⟩) | (go_at_call_of 183 (Value.string m);refine (F4.out _).mono ?_;rintro e w1 ⟨rfl,rfl⟩) | (go_at_call 208;refine (HM.out _).mono ?_;rintro e w1 ⟨rfl,hb⟩;have hc7:=ah (gy hb).1 7;simp only [List.getElem?_toArray,List.getElem?_cons_succ,List.getElem?_cons_zero] at hc7) | (go_at_call 207;refine (ec a len cap zs _ _ (HR.out.below (gy hb).2.1)).mono ?_;rintro e w2 ⟨r,rfl,hr,rfl⟩));all_goals (
   go_wp2_with fail;go_ret
   exact ⟨r,rfl,⟨fun h => ⟨p0,p1,p2,p3,p4,HY.out,HQ.out ▸ hr.1 h⟩,fun h => hr.2 (HQ.out ▸ h.2.2.2.2.2.2)⟩,(gy hb).2.1⟩)
 by_cases hm0 : m = ⟨#[]⟩
 ·subst hm0;have HY : Hid True:=trivial;by_cases p0 : aL n;case neg =>
   exact A5
  have F0 : Hid (∀ w,Calls Tryz.prog 189 #[.string n] w fun e w' => e = .returned (.bool true) ∧ w' = w):=fun w => (aW n w hn).mono fun _ _ h => h.yes p0;by_cases p1 : Inn c 1 1048576;case neg =>
   exact Be
  have F1 : Hid (∀ w,Calls Tryz.prog 46 #[.int .i64 c,.int .i64 1,.int .i64 1048576] w fun e w' => e = .returned (.bool true) ∧ w' = w):=fun w => (bO c 1 1048576 w).mono fun _ _ h => h.yes p1;by_cases p2 : aL z;case neg =>
   exact Bl
  have F2 : Hid (∀ w,Calls Tryz.prog 189 #[.string z] w fun e w' => e = .returned (.bool true) ∧ w' = w):=fun w => (aW z w hz).mono fun _ _ h => h.yes p2;by_cases p3 : aL k;case neg =>
   exact Bm
  have F3 : Hid (∀ w,Calls Tryz.prog 189 #[.string k] w fun e w' => e = .returned (.bool true) ∧ w' = w):=fun w => (aW k w hk).mono fun _ _ h => h.yes p3;by_cases p4 : cB (⟨#[]⟩ : ByteArray);case neg =>
   have F4 : Hid (∀ w,Calls Tryz.prog 183 #[.string (⟨#[]⟩ : ByteArray)] w fun e w' => e = .returned (.bool false) ∧ w' = w):=fun w => (cy (⟨#[]⟩ : ByteArray) w hm).mono fun _ _ h => h.no p4;have HP:=ae p4;clear p4;go_enter Tryz.func197,Tryz.ntmps197;go_wp2_with fail;go_quiet ((first | (go_at_call_of 189 (Value.string n);exact Calls.quiet_of_same (F0.out _)) | (go_at_call_of 46 (Value.int .i64 c);exact Calls.quiet_of_same (F1.out _)) | (go_at_call_of 189 (Value.string z);exact Calls.quiet_of_same (F2.out _)) | (go_at_call_of 189 (Value.string k);exact Calls.quiet_of_same (F3.out _)) | (go_at_call_of 183 (Value.string (⟨#[]⟩ : ByteArray));exact Calls.quiet_of_same (F4.out _))));exact wY
  have F4 : Hid (∀ w,Calls Tryz.prog 183 #[.string (⟨#[]⟩ : ByteArray)] w fun e w' => e = .returned (.bool true) ∧ w' = w):=fun w => (cy (⟨#[]⟩ : ByteArray) w hm).mono fun _ _ h => h.yes p4;obtain ⟨q,hq⟩ : ∃ q : Int,q = if x = true then 1 else 6:=⟨_,rfl⟩;have HM : Hid (∀ w,Calls Tryz.prog 208 #[.agg #[.string n,.int .i64 c,.string z,.string k,.bool x,.string (⟨#[]⟩ : ByteArray),.bool true,.slice a len cap]] w fun e w' => e = .returned (.int .i64 q) ∧ Below w.heap.size w w'):=fun w => by rw [hq];exact jm n c z k x (⟨#[]⟩ : ByteArray) true a len cap w
  have HQ : Hid (q = if x = true then 1 else 6):=hq;clear hq;go_enter Tryz.func197,Tryz.ntmps197;go_wp2_with fail;go_region_with (first | (go_at_call_of 189 (Value.string n);refine (F0.out _).mono ?_;rintro e w1 ⟨rfl,rfl⟩) | (go_at_call_of 46 (Value.int .i64 c);refine (F1.out _).mono ?_;rintro e w1 ⟨rfl,rfl⟩) | (go_at_call_of 189 (Value.string z);refine (F2.out _).mono ?_;rintro e w1 ⟨rfl,rfl⟩) | (go_at_call_of 189 (Value.string k);refine (F3.out _).mono ?_;rintro e w1 ⟨rfl,rfl⟩) | (go_at_call_of 183 (Value.string (⟨#[]⟩ : ByteArray));refine (F4.out _).mono ?_;rintro e w1 ⟨rfl,rfl⟩) | (go_at_call 208;refine (HM.out _).mono ?_;rintro e w1 ⟨rfl,hb⟩;have hc7:=ah (gy hb).1 7;simp only [List.getElem?_toArray,List.getElem?_cons_succ,List.getElem?_cons_zero] at hc7) | (go_at_call 207;refine (ec a len cap zs _ _ (HR.out.below (gy hb).2.1)).mono ?_;rintro e w2 ⟨r,rfl,hr,rfl⟩));all_goals (
   go_wp2_with fail;go_ret
   exact ⟨r,rfl,⟨fun h => ⟨p0,p1,p2,p3,p4,(fun _ => rfl),HQ.out ▸ hr.1 h⟩,fun h => hr.2 (HQ.out ▸ h.2.2.2.2.2.2)⟩,(gy hb).2.1⟩)
 have hq9 : m.toList.isEmpty = false:=aY hm0;go_enter Tryz.func197,Tryz.ntmps197;exact vK

end Go.Proofs.YtdoldaceehdifaaGreatDoor

namespace Go.Proofs.YtdoldaceehdifaaGreatDoor
open Go.RowKit
namespace Rc
open Mk

theorem lU (x : Nd) (va : Option Addr) (vl vc : Nat) (w : World) :
  Calls Tryz.prog 232 #[.agg #[.string x.n,.string x.z,.int .i64 x.c,.int .i64 x.s,.int .i64 x.u,.bool x.d,.slice va vl vc]] w fun e w' => e = .returned (.string x.n) ∧ Below w.heap.size w w':=by
 go_enter Tryz.func232,Tryz.ntmps232;go_wp2;go_ret;exact ⟨rfl,an _ _⟩

theorem mL (x : Nd) (va : Option Addr) (vl vc : Nat) (w : World) (hn : x.n.size ≤ 9223372036854775807) (hz : x.z.size ≤ 9223372036854775807) (hr : ay w va vl vc x.zs) :
  Calls Tryz.prog 233 #[.agg #[.string x.n,.string x.z,.int .i64 x.c,.int .i64 x.s,.int .i64 x.u,.bool x.d,.slice va vl vc]] w (ar (nQ x) w):=by
 have HR:=ae (hr.below (an w (.cells #[.string x.n,.string x.z,.int .i64 x.c,.int .i64 x.s,.int .i64 x.u,.bool x.d,.slice va vl vc] 72)));clear hr;go_enter Tryz.func233,Tryz.ntmps233;go_wp2_with fail;refine (sJ x.n x.z x.c x.s x.u x.d va vl vc x.zs _ hn hz HR.out).mono ?_;exact nt

theorem nJ (a : Option Addr) (len cap : Nat) (xs : List Nd) (t : ByteArray) (w : World) (hr : aI w a len cap 7 (xs.map ndF)) :
  Calls Tryz.prog 125 #[.slice a len cap,.string t] w fun e w' => e = .returned (.tuple #[.int .i64 (pl Nd.n xs t : Nat),.bool (hit Nd.n xs t)]) ∧ Below w.heap.size w w':=by
 have HR:=ae hr;obtain ⟨hxl,hlc⟩:=fu;clear hr;have hmcalled : ∀ (v : Value) (w : World),(method 406 72 v "loop.example/g00571/impl.called").run Tryz.prog w = .ok (232,v) w:=fun _ _ => by kernel_rfl
 go_enter Tryz.func125,Tryz.ntmps125;go_wp2;go_loopw [10] (fun i wr => ∃ k : Nat,k ≤ len ∧ i = .int .i64 k ∧ Hid (∀ (j : Nat) y,j < k → xs[j]? = some y → Op.bytesLess y.n.toList t.toList = true) ∧ Hid (Below w.heap.size w wr)) (fun i _ => len - (intOf i).toNat);case atStart => exact ⟨0,by omega,rfl,fun j y hj => by omega,Below.refl _ _⟩
 case round =>
  obtain ⟨k,hk,rfl,HE,HB⟩:=hrel;by_cases hlt : k < len
  ·obtain ⟨b,o,x,rfl,hb,hx,hat⟩:=cn (HR.out.below HB.out) hlt;obtain ⟨va,vl,vc,hvr,z0,z1,c0,c1,c2,c3,c4,c5,c6⟩:=bc hat;have HX:=ae hx;clear hat hx z0 z1 hvr;obtain ⟨HC,HB1⟩:=Aj;go_wp2_with fail;refine (HC.out _).mono ?_;rintro e w1 ⟨rfl,hb1⟩;obtain ⟨g1,-,-⟩:=b_ hb1;have hs1:=hb1.size;rw [show (wr.alloc (.cells #[.string x.n,.string x.z,.int .i64 x.c,.int .i64 x.s,.int .i64 x.u,.bool x.d,.slice va vl vc] 72)).heap.size = wr.heap.size + 1 from by simp] at hs1;have HB2:=upB HB1 hb1;obtain ⟨d0,d1,d2,d3,d4,d5,d6⟩:=cs7 g1;clear g1 hb1 c0 c1 c2 c3 c4 c5 c6 HB1;cases hless : Op.bytesLess x.n.toList t.toList
   ·go_wp2_with fail;refine (HC.out _).mono ?_;rintro e w2 ⟨rfl,hb2⟩;obtain ⟨HB3,hp⟩:=ng;clear hb2;go_wp2_with fail;refine bodyPost_ret (v:=.tuple #[.int .i64 k,.bool (x.n.toList == t.toList)]) (by simp [results,Tryz.results125,go_sem]) rfl ⟨?_,HB3.out⟩;unfold hit;rw [hp,HX.out]
   ·exact nB
  ·obtain rfl : k = len:=af
   have hp : pl Nd.n xs t = xs.length:=fw (fun j y hy => HE.out j y ke hy);have hh : hit Nd.n xs t = false:=by unfold hit;rw [hp,List.getElem?_eq_none (Nat.le_refl _)]
   have HP:=ae hp;have HH:=ae hh;clear hp hh;go_wp2;exact bodyPost_ret (v:=.tuple #[.int .i64 k,.bool false]) (by simp [results,Tryz.results125,go_sem]) rfl ⟨by rw [HP.out,HH.out,hxl],HB.out⟩

def rW (xs : List Nd) (t : ByteArray) (r w : World) (e : Ending) (w' : World) : Prop :=
 Below w.heap.size w w' ∧ ((hit Nd.n xs t = true ∧ ∃ (x : Nd) (va : Option Addr) (vl vc : Nat),xs[pl Nd.n xs t]? = some x ∧ x.n = t ∧ e = .returned (.tuple #[.agg #[.string x.n,.string x.z,.int .i64 x.c,.int .i64 x.s,.int .i64 x.u,.bool x.d,.slice va vl vc],.bool true]) ∧ x.n.size ≤ 9223372036854775807 ∧ x.z.size ≤ 9223372036854775807 ∧ ay r va vl vc x.zs) ∨ (hit Nd.n xs t = false ∧ e = .returned (.tuple #[.agg #[.string ⟨#[]⟩,.string ⟨#[]⟩,.int .i64 0,.int .i64 0,.int .i64 0,.bool false,.slice none 0 0],.bool false])))

theorem qM (a : Option Addr) (len cap : Nat) (xs : List Nd) (t : ByteArray) (r w : World) (hr : aI r a len cap 7 (xs.map ndF)) (hrw : Below r.heap.size r w) :
  Calls Tryz.prog 76 #[.slice a len cap,.string t] w (rW xs t r w):=by
 have HR:=ae hr;have HRW:=ae hrw;obtain ⟨hxl,hlc⟩:=fu;have HR1:=ae ((hr.below hrw).below (an w (.cells #[.string ⟨#[]⟩,.string ⟨#[]⟩,.int .i64 0,.int .i64 0,.int .i64 0,.bool false,.slice none 0 0] 72)));have hsr:=hrw.size;clear hr hrw;go_enter Tryz.func76,Tryz.ntmps76;go_wp2_with fail;refine (nJ a len cap xs t _ HR1.out).mono ?_;rintro e w1 ⟨rfl,hb⟩;obtain ⟨g1,hb1,-⟩:=b_ hb;have d0 : w1.cell? ⟨w.heap.size,0,none⟩ = some (.string ⟨#[]⟩):=ah g1 0;have f0:=au g1 0;have d1 : w1.cell? ⟨w.heap.size,1,none⟩ = some (.string ⟨#[]⟩):=ah g1 1;have f1:=au g1 1;have d2 : w1.cell? ⟨w.heap.size,2,none⟩ = some (.int .i64 0):=ah g1 2;have f2:=au g1 2;have d3 : w1.cell? ⟨w.heap.size,3,none⟩ = some (.int .i64 0):=ah g1 3;have f3:=au g1 3;have d4 : w1.cell? ⟨w.heap.size,4,none⟩ = some (.int .i64 0):=ah g1 4;have f4:=au g1 4;have d5 : w1.cell? ⟨w.heap.size,5,none⟩ = some (.bool false):=ah g1 5;have f5:=au g1 5;have d6 : w1.cell? ⟨w.heap.size,6,none⟩ = some (.slice none 0 0):=ah g1 6;have f6:=au g1 6;have HB:=ae hb1;have hs1:=hb.size;rw [show (w.alloc (.cells #[.string ⟨#[]⟩,.string ⟨#[]⟩,.int .i64 0,.int .i64 0,.int .i64 0,.bool false,.slice none 0 0] 72)).heap.size = w.heap.size + 1 from by simp] at hs1;have hlt1 : w.heap.size < w1.heap.size:=af
 clear hb g1 HR1 hs1;cases hh : hit Nd.n xs t
 ·generalize pl Nd.n xs t = j;have HH:=ae hh;clear hh hb1 HR hxl hlc;go_wp2;refine bodyPost_ret (v:=.tuple #[.agg #[.string ⟨#[]⟩,.string ⟨#[]⟩,.int .i64 0,.int .i64 0,.int .i64 0,.bool false,.slice none 0 0],.bool false]) (by simp [results,Tryz.results76,go_sem, *]) rfl ⟨?_,.inr ⟨HH.out,rfl⟩⟩;exact Below.alloc (ag (Nat.le_refl _) (ag (Nat.le_refl _) (ag (Nat.le_refl _) (ag (Nat.le_refl _) (ag (Nat.le_refl _) (ag (Nat.le_refl _) (ag (Nat.le_refl _) (HB.out)))))))) iR _
 ·obtain ⟨x,hx,hn⟩:=da hh;have hj : pl Nd.n xs t < len:=by have:=(List.getElem?_eq_some_iff.1 hx).1;omega
  obtain ⟨b,o,y,rfl,hbl,hy,hat⟩:=cn HR.out hj;rw [hx] at hy;obtain rfl:=Option.some.inj hy;obtain ⟨va,vl,vc,hvr,z0,z1,c0,c1,c2,c3,c4,c5,c6⟩:=bc hat;obtain ⟨hbw,e0,e1,e2,e3⟩:=tZ;obtain ⟨e4,e5⟩:=uh;have e6:=(ak hb1 hbw).trans ((ak HRW.out hbl).trans c6);have HI : Hid (rW xs t r w (.returned (.tuple #[.agg #[.string x.n,.string x.z,.int .i64 x.c,.int .i64 x.s,.int .i64 x.u,.bool x.d,.slice va vl vc],.bool true])) w):=⟨Below.refl _ _,.inl ⟨hh,x,va,vl,vc,hx,hn,rfl,z0,z1,hvr⟩⟩;clear c0 c1 c2 c3 c4 c5 c6 hat hx hn hy hh z0 z1 hvr HR HRW hb1 hsr;have hne : ¬ b = w.heap.size:=af
  obtain ⟨j,hjj⟩ : ∃ j,pl Nd.n xs t = j:=⟨_,rfl⟩;rw [hjj] at hj;simp only [hjj] at *;clear hjj;go_wp2;refine bodyPost_ret (v:=.tuple #[.agg #[.string x.n,.string x.z,.int .i64 x.c,.int .i64 x.s,.int .i64 x.u,.bool x.d,.slice va vl vc],.bool true]) (by simp [results,Tryz.results76,go_sem, *]) rfl ⟨?_,HI.out.2⟩;exact ag (Nat.le_refl _) (ag (Nat.le_refl _) (ag (Nat.le_refl _) (ag (Nat.le_refl _) (ag (Nat.le_refl _) (ag (Nat.le_refl _) (ag (Nat.le_refl _) (HB.out)))))))

theorem eO (d : Ad) (now : Int) (xs : List Nd) (t : ByteArray) (r w : World) (hr : aI r d.a1 d.l1 d.c1 7 (xs.map ndF)) (hrw : Below r.heap.size r w) :
  Calls Tryz.prog 33 #[.agg #[.slice d.a1 d.l1 d.c1,.slice d.a2 d.l2 d.c2,.slice d.a3 d.l3 d.c3,.slice d.a4 d.l4 d.c4,.slice d.a5 d.l5 d.c5,.int .i64 now],.string t] w (rW xs t r w):=by
 have HR:=ae hr;have HRW:=ae (hrw.trans ((aF w (.cells #[.slice d.a1 d.l1 d.c1,.slice d.a2 d.l2 d.c2,.slice d.a3 d.l3 d.c3,.slice d.a4 d.l4 d.c4,.slice d.a5 d.l5 d.c5,.int .i64 now] 37) (.cells #[.string ⟨#[]⟩,.string ⟨#[]⟩,.int .i64 0,.int .i64 0,.int .i64 0,.bool false,.slice none 0 0] 72)).mono hrw.size));clear hr hrw;go_enter Tryz.func33,Tryz.ntmps33;go_wp2_with fail;refine (qM _ _ _ xs t r _ HR.out HRW.out).mono ?_;rintro e w1 ⟨hb,hf⟩;obtain ⟨g1,d0,f0⟩:=rv;have d1 : w1.cell? ⟨w.heap.size + 1,1,none⟩ = some (.string ⟨#[]⟩):=ah g1 1;have f1:=au g1 1;have d2 : w1.cell? ⟨w.heap.size + 1,2,none⟩ = some (.int .i64 0):=ah g1 2;have f2:=au g1 2;have d3 : w1.cell? ⟨w.heap.size + 1,3,none⟩ = some (.int .i64 0):=ah g1 3;have f3:=au g1 3;have d4 : w1.cell? ⟨w.heap.size + 1,4,none⟩ = some (.int .i64 0):=ah g1 4;have f4:=au g1 4;have d5 : w1.cell? ⟨w.heap.size + 1,5,none⟩ = some (.bool false):=ah g1 5;have f5:=au g1 5;have d6 : w1.cell? ⟨w.heap.size + 1,6,none⟩ = some (.slice none 0 0):=ah g1 6;have f6:=au g1 6;have HB : Hid (Below w.heap.size w w1):=(aF _ _ _).trans (hb.mono bF);clear g1 hb HR HRW;rcases hf with ⟨hh,x,va,vl,vc,hx,hn,rfl,z0,z1,hvr⟩ | ⟨hh,rfl⟩
 ·have HI : Hid (rW xs t r w (.returned (.tuple #[.agg #[.string x.n,.string x.z,.int .i64 x.c,.int .i64 x.s,.int .i64 x.u,.bool x.d,.slice va vl vc],.bool true])) w):=⟨Below.refl _ _,.inl ⟨hh,x,va,vl,vc,hx,hn,rfl,z0,z1,hvr⟩⟩;clear hx hn hh z0 z1 hvr;go_wp2;refine bodyPost_ret (v:=.tuple #[.agg #[.string x.n,.string x.z,.int .i64 x.c,.int .i64 x.s,.int .i64 x.u,.bool x.d,.slice va vl vc],.bool true]) (by simp [results,Tryz.results33,go_sem, *]) rfl ⟨?_,HI.out.2⟩;exact xp
 ·have HH:=ae hh;clear hh;go_wp2;refine bodyPost_ret (v:=.tuple #[.agg #[.string ⟨#[]⟩,.string ⟨#[]⟩,.int .i64 0,.int .i64 0,.int .i64 0,.bool false,.slice none 0 0],.bool false]) (by simp [results,Tryz.results33,go_sem, *]) rfl ⟨?_,.inr ⟨HH.out,rfl⟩⟩;exact xp

theorem oR (a : Option Addr) (len cap : Nat) (xs : List Nd) (most : Int) (w : World) (hr : aI w a len cap 7 (xs.map ndF)) :
  Calls Tryz.prog 133 #[.slice a len cap,.int .i64 most] w (ar (dE nQ Nd.n xs most) w):=by
 have HR:=ae hr;obtain ⟨hxl,hlc⟩:=fu;clear hr;have hmcalled : ∀ (v : Value) (w : World),(method 406 72 v "loop.example/g00571/impl.called").run Tryz.prog w = .ok (232,v) w:=fun _ _ => by kernel_rfl
 have hmright : ∀ (v : Value) (w : World),(method 406 72 v "loop.example/g00571/impl.right").run Tryz.prog w = .ok (233,v) w:=fun _ _ => by kernel_rfl
 by_cases hmo : most < (len : Int)
 ·go_enter Tryz.func133,Tryz.ntmps133;exact jg
 go_enter Tryz.func133,Tryz.ntmps133;go_wp2;go_loopw [5,14] (fun q i wr => ∃ (k : Nat) (y : ByteArray),k ≤ len ∧ q = .string y ∧ i = .int .i64 k ∧ Hid (k = 0 → y = ⟨#[]⟩) ∧ Hid (∀ z,0 < k → xs[k - 1]? = some z → z.n = y) ∧ Hid (∀ (j : Nat) z,j < k → xs[j]? = some z → nQ z) ∧ Hid (∀ (j : Nat) z u,j + 1 < k → xs[j + 1]? = some z → xs[j]? = some u → Op.bytesLess u.n.toList z.n.toList = true) ∧ Hid (Below w.heap.size w wr)) (fun _ i _ => len - (intOf i).toNat);case atStart => exact ⟨0,_,by omega,rfl,rfl,fun _ => rfl,fun _ h => absurd h af,fun _ _ h => absurd h af,fun _ _ _ h => absurd h af,Below.refl _ _⟩
 case round =>
  obtain ⟨k,y,hk,rfl,rfl,H0,H1,HE,HO,HB⟩:=hrel;by_cases hlt : k < len
  ·obtain ⟨b,o,x,rfl,hb,hx,hat⟩:=cn (HR.out.below HB.out) hlt;obtain ⟨va,vl,vc,hvr,z0,z1,c0,c1,c2,c3,c4,c5,c6⟩:=bc hat;have HX:=ae hx;obtain ⟨HC,HB1⟩:=Aj;have HRt:=ae (mL x va vl vc (wr.alloc (.cells #[.string x.n,.string x.z,.int .i64 x.c,.int .i64 x.s,.int .i64 x.u,.bool x.d,.slice va vl vc] 72)) z0 z1 (hvr.below (an _ _)));clear hat hx z0 z1 hvr;go_wp2_with fail;refine HRt.out.mono ?_;rintro e w1 ⟨r,rfl,hrt,hb1⟩;obtain ⟨g1,-,-⟩:=b_ hb1;have hs1:=hb1.size;rw [show (wr.alloc (.cells #[.string x.n,.string x.z,.int .i64 x.c,.int .i64 x.s,.int .i64 x.u,.bool x.d,.slice va vl vc] 72)).heap.size = wr.heap.size + 1 from by simp] at hs1;have HB2:=upB HB1 hb1;obtain ⟨d0,d1,d2,d3,d4,d5,d6⟩:=cs7 g1;have HG:=ae g1;have HI:=ae hrt;clear g1 hb1 HB1 HRt hrt c0 c1 c2 c3 c4 c5 c6;cases r
   ·exact nk
   have HOK:=ae (HI.out.1 rfl);clear HI;go_wp2_with fail;refine (HC.out _).mono ?_;rintro e w2 ⟨rfl,hb2⟩;obtain ⟨HB3,g2,hs2,htri⟩:=nj;clear HG hb2 HB2 d0 d1 d2 d3 d4 d5 d6;obtain ⟨d0,d1,d2,d3,d4,d5,d6⟩:=cs7 g2;clear g2;cases hless : Op.bytesLess y.toList x.n.toList
   ·exact nG
   ·rw [hless] at htri;go_wp2_with fail;refine (HC.out _).mono ?_;rintro e w3 ⟨rfl,hb3⟩;have HB4:=ae (HB3.out.trans (hb3.mono (Nat.le_trans HB.out.size af)));clear hb3 d0 d1 d2 d3 d4 d5 d6;exact uC
  ·exact nC

def DU (xs : List Nd) (t : ByteArray) (w : World) (e : Ending) (w' : World) : Prop :=
 Below w.heap.size w w' ∧ ((∃ (j : Nat) (x : Nd),xs[j]? = some x ∧ x.n = t ∧ e = .returned (.int .i64 j)) ∨ ((∀ (j : Nat) x,xs[j]? = some x → ¬ x.n = t) ∧ e = .returned (.int .i64 (-1))))

theorem eA (d : Ad) (now : Int) (xs : List Nd) (t : ByteArray) (w : World) (hr : aI w d.a1 d.l1 d.c1 7 (xs.map ndF)) :
  Calls Tryz.prog 23 #[.agg #[.slice d.a1 d.l1 d.c1,.slice d.a2 d.l2 d.c2,.slice d.a3 d.l3 d.c3,.slice d.a4 d.l4 d.c4,.slice d.a5 d.l5 d.c5,.int .i64 now],.string t] w (DU xs t w):=by
 have HR:=ae hr;have hxl : xs.length = d.l1:=cY
 have hlc : d.l1 ≤ 9223372036854775807:=Nat.le_trans hr.2.1 hr.2.2.1;clear hr;go_enter Tryz.func23,Tryz.ntmps23;go_wp2;go_loopw [5] (fun i wr => ∃ k : Nat,k ≤ d.l1 ∧ i = .int .i64 k ∧ wr = w.alloc (.cells #[.slice d.a1 d.l1 d.c1,.slice d.a2 d.l2 d.c2,.slice d.a3 d.l3 d.c3,.slice d.a4 d.l4 d.c4,.slice d.a5 d.l5 d.c5,.int .i64 now] 37) ∧ Hid (∀ (j : Nat) z,j < k → xs[j]? = some z → ¬ z.n = t)) (fun i _ => d.l1 - (intOf i).toNat);case atStart => exact ⟨0,by omega,rfl,rfl,fun _ _ h => absurd h af⟩
 case round =>
  obtain ⟨k,hk,rfl,rfl,HE⟩:=hrel;by_cases hlt : k < d.l1
  ·obtain ⟨b,o,x,ha,hb,hx,hat⟩:=cn HR.out hlt;obtain ⟨va,vl,vc,hvr,-,-,c0,-,-,-,-,-,-⟩:=bc hat;have HX:=ae hx;clear hat hx hvr;exact nF
  ·obtain rfl : k = d.l1:=af
   exact nr

theorem gm (x : Kd)  (w : World) :
  Calls Tryz.prog 235 #[.agg #[.string x.n,.bool x.x,.bool x.y,.string x.z]] w fun e w' => e = .returned (.string x.n) ∧ Below w.heap.size w w':=by
 go_enter Tryz.func235,Tryz.ntmps235;go_wp2;go_ret;exact ⟨rfl,an _ _⟩

theorem mM (x : Kd)  (w : World) (hn : x.n.size ≤ 9223372036854775807) (hz : x.z.size ≤ 9223372036854775807) :
  Calls Tryz.prog 236 #[.agg #[.string x.n,.bool x.x,.bool x.y,.string x.z]] w (ar (qu x) w):=by
 skip;skip;go_enter Tryz.func236,Tryz.ntmps236;go_wp2_with fail;refine (fz x.n x.z x.x x.y _ hn hz).mono ?_;exact nt

theorem nK (a : Option Addr) (len cap : Nat) (xs : List Kd) (t : ByteArray) (w : World) (hr : aI w a len cap 4 (xs.map kdF)) :
  Calls Tryz.prog 171 #[.slice a len cap,.string t] w fun e w' => e = .returned (.tuple #[.int .i64 (pl Kd.n xs t : Nat),.bool (hit Kd.n xs t)]) ∧ Below w.heap.size w w':=by
 have HR:=ae hr;obtain ⟨hxl,hlc⟩:=fu;clear hr;have hmcalled : ∀ (v : Value) (w : World),(method 406 116 v "loop.example/g00571/impl.called").run Tryz.prog w = .ok (235,v) w:=fun _ _ => by kernel_rfl
 go_enter Tryz.func171,Tryz.ntmps171;go_wp2;go_loopw [10] (fun i wr => ∃ k : Nat,k ≤ len ∧ i = .int .i64 k ∧ Hid (∀ (j : Nat) y,j < k → xs[j]? = some y → Op.bytesLess y.n.toList t.toList = true) ∧ Hid (Below w.heap.size w wr)) (fun i _ => len - (intOf i).toNat);case atStart => exact ⟨0,by omega,rfl,fun j y hj => by omega,Below.refl _ _⟩
 case round =>
  obtain ⟨k,hk,rfl,HE,HB⟩:=hrel;by_cases hlt : k < len
  ·obtain ⟨b,o,x,rfl,hb,hx,hat⟩:=et (HR.out.below HB.out) hlt;obtain ⟨z0,z3,c0,c1,c2,c3⟩:=cr hat;have HX:=ae hx;clear hat hx z0 z3;have HC:=ae (fun v : World => gm x v);have HB1:=ae (HB.out.alloc HB.out.size (.cells #[.string x.n,.bool x.x,.bool x.y,.string x.z] 116));go_wp2_with fail;refine (HC.out _).mono ?_;rintro e w1 ⟨rfl,hb1⟩;obtain ⟨g1,-,-⟩:=b_ hb1;have hs1:=hb1.size;rw [show (wr.alloc (.cells #[.string x.n,.bool x.x,.bool x.y,.string x.z] 116)).heap.size = wr.heap.size + 1 from by simp] at hs1;have HB2:=upB HB1 hb1;obtain ⟨d0,d1,d2,d3⟩:=cs4 g1;clear g1 hb1 c0 c1 c2 c3 HB1;cases hless : Op.bytesLess x.n.toList t.toList
   ·go_wp2_with fail;refine (HC.out _).mono ?_;rintro e w2 ⟨rfl,hb2⟩;obtain ⟨HB3,hp⟩:=ng;clear hb2;go_wp2_with fail;refine bodyPost_ret (v:=.tuple #[.int .i64 k,.bool (x.n.toList == t.toList)]) (by simp [results,Tryz.results171,go_sem]) rfl ⟨?_,HB3.out⟩;unfold hit;rw [hp,HX.out]
   ·exact nB
  ·obtain rfl : k = len:=af
   have hp : pl Kd.n xs t = xs.length:=fw (fun j y hy => HE.out j y ke hy);have hh : hit Kd.n xs t = false:=by unfold hit;rw [hp,List.getElem?_eq_none (Nat.le_refl _)]
   have HP:=ae hp;have HH:=ae hh;clear hp hh;go_wp2;exact bodyPost_ret (v:=.tuple #[.int .i64 k,.bool false]) (by simp [results,Tryz.results171,go_sem]) rfl ⟨by rw [HP.out,HH.out,hxl],HB.out⟩

def rX (xs : List Kd) (t : ByteArray) (_r w : World) (e : Ending) (w' : World) : Prop :=
 Below w.heap.size w w' ∧ ((hit Kd.n xs t = true ∧ ∃ (x : Kd),xs[pl Kd.n xs t]? = some x ∧ x.n = t ∧ e = .returned (.tuple #[.agg #[.string x.n,.bool x.x,.bool x.y,.string x.z],.bool true]) ∧ x.n.size ≤ 9223372036854775807 ∧ x.z.size ≤ 9223372036854775807) ∨ (hit Kd.n xs t = false ∧ e = .returned (.tuple #[.agg #[.string ⟨#[]⟩,.bool false,.bool false,.string ⟨#[]⟩],.bool false])))

theorem qN (a : Option Addr) (len cap : Nat) (xs : List Kd) (t : ByteArray) (r w : World) (hr : aI r a len cap 4 (xs.map kdF)) (hrw : Below r.heap.size r w) :
  Calls Tryz.prog 160 #[.slice a len cap,.string t] w (rX xs t r w):=by
 have HR:=ae hr;have HRW:=ae hrw;obtain ⟨hxl,hlc⟩:=fu;have HR1:=ae ((hr.below hrw).below (an w (.cells #[.string ⟨#[]⟩,.bool false,.bool false,.string ⟨#[]⟩] 116)));have hsr:=hrw.size;clear hr hrw;go_enter Tryz.func160,Tryz.ntmps160;go_wp2_with fail;refine (nK a len cap xs t _ HR1.out).mono ?_;rintro e w1 ⟨rfl,hb⟩;obtain ⟨g1,hb1,-⟩:=b_ hb;have d0 : w1.cell? ⟨w.heap.size,0,none⟩ = some (.string ⟨#[]⟩):=ah g1 0;have f0:=au g1 0;have d1 : w1.cell? ⟨w.heap.size,1,none⟩ = some (.bool false):=ah g1 1;have f1:=au g1 1;have d2 : w1.cell? ⟨w.heap.size,2,none⟩ = some (.bool false):=ah g1 2;have f2:=au g1 2;have d3 : w1.cell? ⟨w.heap.size,3,none⟩ = some (.string ⟨#[]⟩):=ah g1 3;have f3:=au g1 3;have HB:=ae hb1;have hs1:=hb.size;rw [show (w.alloc (.cells #[.string ⟨#[]⟩,.bool false,.bool false,.string ⟨#[]⟩] 116)).heap.size = w.heap.size + 1 from by simp] at hs1;have hlt1 : w.heap.size < w1.heap.size:=af
 clear hb g1 HR1 hs1;cases hh : hit Kd.n xs t
 ·generalize pl Kd.n xs t = j;have HH:=ae hh;clear hh hb1 HR hxl hlc;go_wp2;refine bodyPost_ret (v:=.tuple #[.agg #[.string ⟨#[]⟩,.bool false,.bool false,.string ⟨#[]⟩],.bool false]) (by simp [results,Tryz.results160,go_sem, *]) rfl ⟨?_,.inr ⟨HH.out,rfl⟩⟩;exact Below.alloc (ag (Nat.le_refl _) (ag (Nat.le_refl _) (ag (Nat.le_refl _) (ag (Nat.le_refl _) (HB.out))))) iR _
 ·obtain ⟨x,hx,hn⟩:=da hh;have hj : pl Kd.n xs t < len:=by have:=(List.getElem?_eq_some_iff.1 hx).1;omega
  obtain ⟨b,o,y,rfl,hbl,hy,hat⟩:=et HR.out hj;rw [hx] at hy;obtain rfl:=Option.some.inj hy;obtain ⟨z0,z3,c0,c1,c2,c3⟩:=cr hat;obtain ⟨hbw,e0,e1,e2,e3⟩:=tZ;have HI : Hid (rX xs t r w (.returned (.tuple #[.agg #[.string x.n,.bool x.x,.bool x.y,.string x.z],.bool true])) w):=⟨Below.refl _ _,.inl ⟨hh,x,hx,hn,rfl,z0,z3⟩⟩;clear c0 c1 c2 c3 hat hx hn hy hh z0 z3 HR HRW hb1 hsr;have hne : ¬ b = w.heap.size:=af
  obtain ⟨j,hjj⟩ : ∃ j,pl Kd.n xs t = j:=⟨_,rfl⟩;rw [hjj] at hj;simp only [hjj] at *;clear hjj;go_wp2;refine bodyPost_ret (v:=.tuple #[.agg #[.string x.n,.bool x.x,.bool x.y,.string x.z],.bool true]) (by simp [results,Tryz.results160,go_sem, *]) rfl ⟨?_,HI.out.2⟩;exact ag (Nat.le_refl _) (ag (Nat.le_refl _) (ag (Nat.le_refl _) (ag (Nat.le_refl _) (HB.out))))

theorem gu (d : Ad) (now : Int) (xs : List Kd) (t : ByteArray) (r w : World) (hr : aI r d.a2 d.l2 d.c2 4 (xs.map kdF)) (hrw : Below r.heap.size r w) :
  Calls Tryz.prog 128 #[.agg #[.slice d.a1 d.l1 d.c1,.slice d.a2 d.l2 d.c2,.slice d.a3 d.l3 d.c3,.slice d.a4 d.l4 d.c4,.slice d.a5 d.l5 d.c5,.int .i64 now],.string t] w (rX xs t r w):=by
 have HR:=ae hr;have HRW:=ae (hrw.trans ((aF w (.cells #[.slice d.a1 d.l1 d.c1,.slice d.a2 d.l2 d.c2,.slice d.a3 d.l3 d.c3,.slice d.a4 d.l4 d.c4,.slice d.a5 d.l5 d.c5,.int .i64 now] 37) (.cells #[.string ⟨#[]⟩,.bool false,.bool false,.string ⟨#[]⟩] 116)).mono hrw.size));clear hr hrw;go_enter Tryz.func128,Tryz.ntmps128;go_wp2_with fail;refine (qN _ _ _ xs t r _ HR.out HRW.out).mono ?_;rintro e w1 ⟨hb,hf⟩;obtain ⟨g1,d0,f0⟩:=rv;have d1 : w1.cell? ⟨w.heap.size + 1,1,none⟩ = some (.bool false):=ah g1 1;have f1:=au g1 1;have d2 : w1.cell? ⟨w.heap.size + 1,2,none⟩ = some (.bool false):=ah g1 2;have f2:=au g1 2;have d3 : w1.cell? ⟨w.heap.size + 1,3,none⟩ = some (.string ⟨#[]⟩):=ah g1 3;have f3:=au g1 3;have HB : Hid (Below w.heap.size w w1):=(aF _ _ _).trans (hb.mono bF);clear g1 hb HR HRW;rcases hf with ⟨hh,x,hx,hn,rfl,z0,z3⟩ | ⟨hh,rfl⟩
 ·have HI : Hid (rX xs t r w (.returned (.tuple #[.agg #[.string x.n,.bool x.x,.bool x.y,.string x.z],.bool true])) w):=⟨Below.refl _ _,.inl ⟨hh,x,hx,hn,rfl,z0,z3⟩⟩;clear hx hn hh z0 z3;go_wp2;refine bodyPost_ret (v:=.tuple #[.agg #[.string x.n,.bool x.x,.bool x.y,.string x.z],.bool true]) (by simp [results,Tryz.results128,go_sem, *]) rfl ⟨?_,HI.out.2⟩;exact wR
 ·have HH:=ae hh;clear hh;go_wp2;refine bodyPost_ret (v:=.tuple #[.agg #[.string ⟨#[]⟩,.bool false,.bool false,.string ⟨#[]⟩],.bool false]) (by simp [results,Tryz.results128,go_sem, *]) rfl ⟨?_,.inr ⟨HH.out,rfl⟩⟩;exact wR

theorem oS (a : Option Addr) (len cap : Nat) (xs : List Kd) (most : Int) (w : World) (hr : aI w a len cap 4 (xs.map kdF)) :
  Calls Tryz.prog 134 #[.slice a len cap,.int .i64 most] w (ar (dE qu Kd.n xs most) w):=by
 have HR:=ae hr;obtain ⟨hxl,hlc⟩:=fu;clear hr;have hmcalled : ∀ (v : Value) (w : World),(method 406 116 v "loop.example/g00571/impl.called").run Tryz.prog w = .ok (235,v) w:=fun _ _ => by kernel_rfl
 have hmright : ∀ (v : Value) (w : World),(method 406 116 v "loop.example/g00571/impl.right").run Tryz.prog w = .ok (236,v) w:=fun _ _ => by kernel_rfl
 by_cases hmo : most < (len : Int)
 ·go_enter Tryz.func134,Tryz.ntmps134;exact jg
 go_enter Tryz.func134,Tryz.ntmps134;go_wp2;go_loopw [5,14] (fun q i wr => ∃ (k : Nat) (y : ByteArray),k ≤ len ∧ q = .string y ∧ i = .int .i64 k ∧ Hid (k = 0 → y = ⟨#[]⟩) ∧ Hid (∀ z,0 < k → xs[k - 1]? = some z → z.n = y) ∧ Hid (∀ (j : Nat) z,j < k → xs[j]? = some z → qu z) ∧ Hid (∀ (j : Nat) z u,j + 1 < k → xs[j + 1]? = some z → xs[j]? = some u → Op.bytesLess u.n.toList z.n.toList = true) ∧ Hid (Below w.heap.size w wr)) (fun _ i _ => len - (intOf i).toNat);case atStart => exact ⟨0,_,by omega,rfl,rfl,fun _ => rfl,fun _ h => absurd h af,fun _ _ h => absurd h af,fun _ _ _ h => absurd h af,Below.refl _ _⟩
 case round =>
  obtain ⟨k,y,hk,rfl,rfl,H0,H1,HE,HO,HB⟩:=hrel;by_cases hlt : k < len
  ·obtain ⟨b,o,x,rfl,hb,hx,hat⟩:=et (HR.out.below HB.out) hlt;obtain ⟨z0,z3,c0,c1,c2,c3⟩:=cr hat;have HX:=ae hx;have HC:=ae (fun v : World => gm x v);have HB1:=ae (HB.out.alloc HB.out.size (.cells #[.string x.n,.bool x.x,.bool x.y,.string x.z] 116));have HRt:=ae (mM x (wr.alloc (.cells #[.string x.n,.bool x.x,.bool x.y,.string x.z] 116)) z0 z3);clear hat hx z0 z3;go_wp2_with fail;refine HRt.out.mono ?_;rintro e w1 ⟨r,rfl,hrt,hb1⟩;obtain ⟨g1,-,-⟩:=b_ hb1;have hs1:=hb1.size;rw [show (wr.alloc (.cells #[.string x.n,.bool x.x,.bool x.y,.string x.z] 116)).heap.size = wr.heap.size + 1 from by simp] at hs1;have HB2:=upB HB1 hb1;obtain ⟨d0,d1,d2,d3⟩:=cs4 g1;have HG:=ae g1;have HI:=ae hrt;clear g1 hb1 HB1 HRt hrt c0 c1 c2 c3;cases r
   ·exact nk
   have HOK:=ae (HI.out.1 rfl);clear HI;go_wp2_with fail;refine (HC.out _).mono ?_;rintro e w2 ⟨rfl,hb2⟩;obtain ⟨HB3,g2,hs2,htri⟩:=nj;clear HG hb2 HB2 d0 d1 d2 d3;obtain ⟨d0,d1,d2,d3⟩:=cs4 g2;clear g2;cases hless : Op.bytesLess y.toList x.n.toList
   ·exact nG
   ·rw [hless] at htri;go_wp2_with fail;refine (HC.out _).mono ?_;rintro e w3 ⟨rfl,hb3⟩;have HB4:=ae (HB3.out.trans (hb3.mono (Nat.le_trans HB.out.size af)));clear hb3 d0 d1 d2 d3;exact uC
  ·exact nC

def DV (xs : List Kd) (t : ByteArray) (w : World) (e : Ending) (w' : World) : Prop :=
 Below w.heap.size w w' ∧ ((∃ (j : Nat) (x : Kd),xs[j]? = some x ∧ x.n = t ∧ e = .returned (.int .i64 j)) ∨ ((∀ (j : Nat) x,xs[j]? = some x → ¬ x.n = t) ∧ e = .returned (.int .i64 (-1))))

theorem my (d : Ad) (now : Int) (xs : List Kd) (t : ByteArray) (w : World) (hr : aI w d.a2 d.l2 d.c2 4 (xs.map kdF)) :
  Calls Tryz.prog 111 #[.agg #[.slice d.a1 d.l1 d.c1,.slice d.a2 d.l2 d.c2,.slice d.a3 d.l3 d.c3,.slice d.a4 d.l4 d.c4,.slice d.a5 d.l5 d.c5,.int .i64 now],.string t] w (DV xs t w):=by
 have HR:=ae hr;have hxl : xs.length = d.l2:=cY
 have hlc : d.l2 ≤ 9223372036854775807:=Nat.le_trans hr.2.1 hr.2.2.1;clear hr;go_enter Tryz.func111,Tryz.ntmps111;go_wp2;go_loopw [5] (fun i wr => ∃ k : Nat,k ≤ d.l2 ∧ i = .int .i64 k ∧ wr = w.alloc (.cells #[.slice d.a1 d.l1 d.c1,.slice d.a2 d.l2 d.c2,.slice d.a3 d.l3 d.c3,.slice d.a4 d.l4 d.c4,.slice d.a5 d.l5 d.c5,.int .i64 now] 37) ∧ Hid (∀ (j : Nat) z,j < k → xs[j]? = some z → ¬ z.n = t)) (fun i _ => d.l2 - (intOf i).toNat);case atStart => exact ⟨0,by omega,rfl,rfl,fun _ _ h => absurd h af⟩
 case round =>
  obtain ⟨k,hk,rfl,rfl,HE⟩:=hrel;by_cases hlt : k < d.l2
  ·obtain ⟨b,o,x,ha,hb,hx,hat⟩:=et HR.out hlt;obtain ⟨-,-,c0,-,-,-⟩:=cr hat;have HX:=ae hx;clear hat hx;exact nF
  ·obtain rfl : k = d.l2:=af
   exact nr

theorem eh (x : Vd) (va : Option Addr) (vl vc : Nat) (w : World) :
  Calls Tryz.prog 237 #[.agg #[.string x.n,.int .i64 x.c,.string x.z,.string x.k,.bool x.x,.string x.m,.bool x.y,.slice va vl vc]] w fun e w' => e = .returned (.string x.n) ∧ Below w.heap.size w w':=by
 go_enter Tryz.func237,Tryz.ntmps237;go_wp2;go_ret;exact ⟨rfl,an _ _⟩

theorem mJ (x : Vd) (va : Option Addr) (vl vc : Nat) (w : World) (hn : x.n.size ≤ 9223372036854775807) (hz : x.z.size ≤ 9223372036854775807) (hk : x.k.size ≤ 9223372036854775807) (hm : x.m.size ≤ 9223372036854775807) (hr : ay w va vl vc x.zs) :
  Calls Tryz.prog 238 #[.agg #[.string x.n,.int .i64 x.c,.string x.z,.string x.k,.bool x.x,.string x.m,.bool x.y,.slice va vl vc]] w (ar (oB x) w):=by
 have HR:=ae (hr.below (an w (.cells #[.string x.n,.int .i64 x.c,.string x.z,.string x.k,.bool x.x,.string x.m,.bool x.y,.slice va vl vc] 118)));clear hr;go_enter Tryz.func238,Tryz.ntmps238;go_wp2_with fail;refine (n8 x.n x.c x.z x.k x.x x.m x.y va vl vc x.zs _ hn hz hk hm HR.out).mono ?_;exact nt

theorem eG (a : Option Addr) (len cap : Nat) (xs : List Vd) (t : ByteArray) (w : World) (hr : aI w a len cap 8 (xs.map vdF)) :
  Calls Tryz.prog 170 #[.slice a len cap,.string t] w fun e w' => e = .returned (.tuple #[.int .i64 (pl Vd.n xs t : Nat),.bool (hit Vd.n xs t)]) ∧ Below w.heap.size w w':=by
 have HR:=ae hr;obtain ⟨hxl,hlc⟩:=fu;clear hr;have hmcalled : ∀ (v : Value) (w : World),(method 406 118 v "loop.example/g00571/impl.called").run Tryz.prog w = .ok (237,v) w:=fun _ _ => by kernel_rfl
 go_enter Tryz.func170,Tryz.ntmps170;go_wp2;go_loopw [10] (fun i wr => ∃ k : Nat,k ≤ len ∧ i = .int .i64 k ∧ Hid (∀ (j : Nat) y,j < k → xs[j]? = some y → Op.bytesLess y.n.toList t.toList = true) ∧ Hid (Below w.heap.size w wr)) (fun i _ => len - (intOf i).toNat);case atStart => exact ⟨0,by omega,rfl,fun j y hj => by omega,Below.refl _ _⟩
 case round =>
  obtain ⟨k,hk,rfl,HE,HB⟩:=hrel;by_cases hlt : k < len
  ·obtain ⟨b,o,x,rfl,hb,hx,hat⟩:=bC (HR.out.below HB.out) hlt;obtain ⟨va,vl,vc,hvr,z0,z2,z3,z5,c0,c1,c2,c3,c4,c5,c6,c7⟩:=aK hat;have HX:=ae hx;clear hat hx z0 z2 z3 z5 hvr;obtain ⟨HC,HB1⟩:=Ak;go_wp2_with fail;refine (HC.out _).mono ?_;rintro e w1 ⟨rfl,hb1⟩;obtain ⟨g1,-,-⟩:=b_ hb1;have hs1:=hb1.size;rw [show (wr.alloc (.cells #[.string x.n,.int .i64 x.c,.string x.z,.string x.k,.bool x.x,.string x.m,.bool x.y,.slice va vl vc] 118)).heap.size = wr.heap.size + 1 from by simp] at hs1;have HB2:=upB HB1 hb1;obtain ⟨d0,d1,d2,d3,d4,d5,d6,d7⟩:=cs8 g1;clear g1 hb1 c0 c1 c2 c3 c4 c5 c6 c7 HB1;cases hless : Op.bytesLess x.n.toList t.toList
   ·go_wp2_with fail;refine (HC.out _).mono ?_;rintro e w2 ⟨rfl,hb2⟩;obtain ⟨HB3,hp⟩:=ng;clear hb2;go_wp2_with fail;refine bodyPost_ret (v:=.tuple #[.int .i64 k,.bool (x.n.toList == t.toList)]) (by simp [results,Tryz.results170,go_sem]) rfl ⟨?_,HB3.out⟩;unfold hit;rw [hp,HX.out]
   ·exact nB
  ·obtain rfl : k = len:=af
   have hp : pl Vd.n xs t = xs.length:=fw (fun j y hy => HE.out j y ke hy);have hh : hit Vd.n xs t = false:=by unfold hit;rw [hp,List.getElem?_eq_none (Nat.le_refl _)]
   have HP:=ae hp;have HH:=ae hh;clear hp hh;go_wp2;exact bodyPost_ret (v:=.tuple #[.int .i64 k,.bool false]) (by simp [results,Tryz.results170,go_sem]) rfl ⟨by rw [HP.out,HH.out,hxl],HB.out⟩

def rV (xs : List Vd) (t : ByteArray) (r w : World) (e : Ending) (w' : World) : Prop :=
 Below w.heap.size w w' ∧ ((hit Vd.n xs t = true ∧ ∃ (x : Vd) (va : Option Addr) (vl vc : Nat),xs[pl Vd.n xs t]? = some x ∧ x.n = t ∧ e = .returned (.tuple #[.agg #[.string x.n,.int .i64 x.c,.string x.z,.string x.k,.bool x.x,.string x.m,.bool x.y,.slice va vl vc],.bool true]) ∧ x.n.size ≤ 9223372036854775807 ∧ x.z.size ≤ 9223372036854775807 ∧ x.k.size ≤ 9223372036854775807 ∧ x.m.size ≤ 9223372036854775807 ∧ ay r va vl vc x.zs) ∨ (hit Vd.n xs t = false ∧ e = .returned (.tuple #[.agg #[.string ⟨#[]⟩,.int .i64 0,.string ⟨#[]⟩,.string ⟨#[]⟩,.bool false,.string ⟨#[]⟩,.bool false,.slice none 0 0],.bool false])))

theorem qK (a : Option Addr) (len cap : Nat) (xs : List Vd) (t : ByteArray) (r w : World) (hr : aI r a len cap 8 (xs.map vdF)) (hrw : Below r.heap.size r w) :
  Calls Tryz.prog 159 #[.slice a len cap,.string t] w (rV xs t r w):=by
 have HR:=ae hr;have HRW:=ae hrw;obtain ⟨hxl,hlc⟩:=fu;have HR1:=ae ((hr.below hrw).below (an w (.cells #[.string ⟨#[]⟩,.int .i64 0,.string ⟨#[]⟩,.string ⟨#[]⟩,.bool false,.string ⟨#[]⟩,.bool false,.slice none 0 0] 118)));have hsr:=hrw.size;clear hr hrw;go_enter Tryz.func159,Tryz.ntmps159;go_wp2_with fail;refine (eG a len cap xs t _ HR1.out).mono ?_;rintro e w1 ⟨rfl,hb⟩;obtain ⟨g1,hb1,-⟩:=b_ hb;obtain ⟨d0,f0,d1,f1,d2,f2⟩:=ur;have d3 : w1.cell? ⟨w.heap.size,3,none⟩ = some (.string ⟨#[]⟩):=ah g1 3;have f3:=au g1 3;have d4 : w1.cell? ⟨w.heap.size,4,none⟩ = some (.bool false):=ah g1 4;have f4:=au g1 4;have d5 : w1.cell? ⟨w.heap.size,5,none⟩ = some (.string ⟨#[]⟩):=ah g1 5;have f5:=au g1 5;have d6 : w1.cell? ⟨w.heap.size,6,none⟩ = some (.bool false):=ah g1 6;have f6:=au g1 6;have d7 : w1.cell? ⟨w.heap.size,7,none⟩ = some (.slice none 0 0):=ah g1 7;have f7:=au g1 7;have HB:=ae hb1;have hs1:=hb.size;rw [show (w.alloc (.cells #[.string ⟨#[]⟩,.int .i64 0,.string ⟨#[]⟩,.string ⟨#[]⟩,.bool false,.string ⟨#[]⟩,.bool false,.slice none 0 0] 118)).heap.size = w.heap.size + 1 from by simp] at hs1;have hlt1 : w.heap.size < w1.heap.size:=af
 clear hb g1 HR1 hs1;cases hh : hit Vd.n xs t
 ·generalize pl Vd.n xs t = j;have HH:=ae hh;clear hh hb1 HR hxl hlc;go_wp2;refine bodyPost_ret (v:=.tuple #[.agg #[.string ⟨#[]⟩,.int .i64 0,.string ⟨#[]⟩,.string ⟨#[]⟩,.bool false,.string ⟨#[]⟩,.bool false,.slice none 0 0],.bool false]) (by simp [results,Tryz.results159,go_sem, *]) rfl ⟨?_,.inr ⟨HH.out,rfl⟩⟩;exact Below.alloc (ag (Nat.le_refl _) (ag (Nat.le_refl _) (ag (Nat.le_refl _) (ag (Nat.le_refl _) (ag (Nat.le_refl _) (ag (Nat.le_refl _) (ag (Nat.le_refl _) (ag (Nat.le_refl _) (HB.out))))))))) iR _
 ·obtain ⟨x,hx,hn⟩:=da hh;have hj : pl Vd.n xs t < len:=by have:=(List.getElem?_eq_some_iff.1 hx).1;omega
  obtain ⟨b,o,y,rfl,hbl,hy,hat⟩:=bC HR.out hj;rw [hx] at hy;obtain rfl:=Option.some.inj hy;obtain ⟨va,vl,vc,hvr,z0,z2,z3,z5,c0,c1,c2,c3,c4,c5,c6,c7⟩:=aK hat;obtain ⟨hbw,e0,e1,e2,e3⟩:=tZ;obtain ⟨e4,e5⟩:=uh;have e6:=(ak hb1 hbw).trans ((ak HRW.out hbl).trans c6);have e7:=(ak hb1 hbw).trans ((ak HRW.out hbl).trans c7);have HI : Hid (rV xs t r w (.returned (.tuple #[.agg #[.string x.n,.int .i64 x.c,.string x.z,.string x.k,.bool x.x,.string x.m,.bool x.y,.slice va vl vc],.bool true])) w):=⟨Below.refl _ _,.inl ⟨hh,x,va,vl,vc,hx,hn,rfl,z0,z2,z3,z5,hvr⟩⟩;clear c0 c1 c2 c3 c4 c5 c6 c7 hat hx hn hy hh z0 z2 z3 z5 hvr HR HRW hb1 hsr;have hne : ¬ b = w.heap.size:=af
  obtain ⟨j,hjj⟩ : ∃ j,pl Vd.n xs t = j:=⟨_,rfl⟩;rw [hjj] at hj;simp only [hjj] at *;clear hjj;go_wp2;refine bodyPost_ret (v:=.tuple #[.agg #[.string x.n,.int .i64 x.c,.string x.z,.string x.k,.bool x.x,.string x.m,.bool x.y,.slice va vl vc],.bool true]) (by simp [results,Tryz.results159,go_sem, *]) rfl ⟨?_,HI.out.2⟩;exact ag (Nat.le_refl _) (ag (Nat.le_refl _) (ag (Nat.le_refl _) (ag (Nat.le_refl _) (ag (Nat.le_refl _) (ag (Nat.le_refl _) (ag (Nat.le_refl _) (ag (Nat.le_refl _) (HB.out))))))))

theorem dy (d : Ad) (now : Int) (xs : List Vd) (t : ByteArray) (r w : World) (hr : aI r d.a3 d.l3 d.c3 8 (xs.map vdF)) (hrw : Below r.heap.size r w) :
  Calls Tryz.prog 127 #[.agg #[.slice d.a1 d.l1 d.c1,.slice d.a2 d.l2 d.c2,.slice d.a3 d.l3 d.c3,.slice d.a4 d.l4 d.c4,.slice d.a5 d.l5 d.c5,.int .i64 now],.string t] w (rV xs t r w):=by
 have HR:=ae hr;have HRW:=ae (hrw.trans ((aF w (.cells #[.slice d.a1 d.l1 d.c1,.slice d.a2 d.l2 d.c2,.slice d.a3 d.l3 d.c3,.slice d.a4 d.l4 d.c4,.slice d.a5 d.l5 d.c5,.int .i64 now] 37) (.cells #[.string ⟨#[]⟩,.int .i64 0,.string ⟨#[]⟩,.string ⟨#[]⟩,.bool false,.string ⟨#[]⟩,.bool false,.slice none 0 0] 118)).mono hrw.size));clear hr hrw;go_enter Tryz.func127,Tryz.ntmps127;go_wp2_with fail;refine (qK _ _ _ xs t r _ HR.out HRW.out).mono ?_;rintro e w1 ⟨hb,hf⟩;obtain ⟨g1,d0,f0⟩:=rv;obtain ⟨d1,f1,d2,f2⟩:=Ag;have d3 : w1.cell? ⟨w.heap.size + 1,3,none⟩ = some (.string ⟨#[]⟩):=ah g1 3;have f3:=au g1 3;have d4 : w1.cell? ⟨w.heap.size + 1,4,none⟩ = some (.bool false):=ah g1 4;have f4:=au g1 4;have d5 : w1.cell? ⟨w.heap.size + 1,5,none⟩ = some (.string ⟨#[]⟩):=ah g1 5;have f5:=au g1 5;have d6 : w1.cell? ⟨w.heap.size + 1,6,none⟩ = some (.bool false):=ah g1 6;have f6:=au g1 6;have d7 : w1.cell? ⟨w.heap.size + 1,7,none⟩ = some (.slice none 0 0):=ah g1 7;have f7:=au g1 7;have HB : Hid (Below w.heap.size w w1):=(aF _ _ _).trans (hb.mono bF);clear g1 hb HR HRW;rcases hf with ⟨hh,x,va,vl,vc,hx,hn,rfl,z0,z2,z3,z5,hvr⟩ | ⟨hh,rfl⟩
 ·have HI : Hid (rV xs t r w (.returned (.tuple #[.agg #[.string x.n,.int .i64 x.c,.string x.z,.string x.k,.bool x.x,.string x.m,.bool x.y,.slice va vl vc],.bool true])) w):=⟨Below.refl _ _,.inl ⟨hh,x,va,vl,vc,hx,hn,rfl,z0,z2,z3,z5,hvr⟩⟩;clear hx hn hh z0 z2 z3 z5 hvr;go_wp2;refine bodyPost_ret (v:=.tuple #[.agg #[.string x.n,.int .i64 x.c,.string x.z,.string x.k,.bool x.x,.string x.m,.bool x.y,.slice va vl vc],.bool true]) (by simp [results,Tryz.results127,go_sem, *]) rfl ⟨?_,HI.out.2⟩;exact xz
 ·have HH:=ae hh;clear hh;go_wp2;refine bodyPost_ret (v:=.tuple #[.agg #[.string ⟨#[]⟩,.int .i64 0,.string ⟨#[]⟩,.string ⟨#[]⟩,.bool false,.string ⟨#[]⟩,.bool false,.slice none 0 0],.bool false]) (by simp [results,Tryz.results127,go_sem, *]) rfl ⟨?_,.inr ⟨HH.out,rfl⟩⟩;exact xz

end Rc
end Go.Proofs.YtdoldaceehdifaaGreatDoor

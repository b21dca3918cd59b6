import Derived.Test.YtdfgbboadbnodaaGreatDoorK1
import Derived.Deep.RegionWith
/-
 VolumeRight of the program.
-/
set_option maxRecDepth 100000
set_option maxHeartbeats 12800000
namespace Go.Proofs.YtdfgbboadbnodaaGreatDoor
open Go.RowKit

theorem ivol_any (n : ByteArray) (c : Int) (z k : ByteArray) (x : Bool) (m : ByteArray) (y : Bool) (a : Option Addr) (len cap : Nat) (zs : List ByteArray) (w : World) (hn : n.size ≤ 9223372036854775807) (hz : z.size ≤ 9223372036854775807) (hk : k.size ≤ 9223372036854775807) (hm : m.size ≤ 9223372036854775807) (hr : TxRow w a len cap zs) :
  Calls Tryz.prog 188 #[.agg #[.string n,.int .i64 c,.string z,.string k,.bool x,.string m,.bool y,.slice a len cap]] w (BoolB (VolOk n c z k x m y zs) w):=by
 have HR : Hid (TxRow w a len cap zs):=hr;clear hr
 cases y
 ·have HY : Hid (false = true → m = ⟨#[]⟩):=fun h => (by cases h)
  by_cases p0 : NameOk n
  case neg =>
   have F0 : Hid (∀ w,Calls Tryz.prog 182 #[.string n] w fun e w' => e = .returned (.bool false) ∧ w' = w):=fun w => (iname_any n w hn).mono fun _ _ h => h.no p0;have HP:=hidK p0;clear p0
   go_enter Tryz.func188,Tryz.ntmps188
   go_wp2_with fail
   go_quiet ((first | (go_at_call_of 182 (Value.string n);exact Calls.quiet_of_same (F0.out _))))
   go_wp2_with fail;go_ret;exact ⟨false,rfl,⟨fun h => (by cases h),fun h => (HP.out (h.1)).elim⟩,below_drewN (below1 _ _) _⟩
  have F0 : Hid (∀ w,Calls Tryz.prog 182 #[.string n] w fun e w' => e = .returned (.bool true) ∧ w' = w):=fun w => (iname_any n w hn).mono fun _ _ h => h.yes p0
  by_cases p1 : Inn c 1 1048576
  case neg =>
   have F1 : Hid (∀ w,Calls Tryz.prog 125 #[.int .i64 c,.int .i64 1,.int .i64 1048576] w fun e w' => e = .returned (.bool false) ∧ w' = w):=fun w => (kwithin_any c 1 1048576 w).mono fun _ _ h => h.no p1;have HP:=hidK p1;clear p1
   go_enter Tryz.func188,Tryz.ntmps188
   go_wp2_with fail
   go_quiet ((first | (go_at_call_of 182 (Value.string n);exact Calls.quiet_of_same (F0.out _)) | (go_at_call_of 125 (Value.int .i64 c);exact Calls.quiet_of_same (F1.out _))))
   go_wp2_with fail;go_ret;exact ⟨false,rfl,⟨fun h => (by cases h),fun h => (HP.out (h.2.1)).elim⟩,below_drewN (below1 _ _) _⟩
  have F1 : Hid (∀ w,Calls Tryz.prog 125 #[.int .i64 c,.int .i64 1,.int .i64 1048576] w fun e w' => e = .returned (.bool true) ∧ w' = w):=fun w => (kwithin_any c 1 1048576 w).mono fun _ _ h => h.yes p1
  by_cases p2 : NameOk z
  case neg =>
   have F2 : Hid (∀ w,Calls Tryz.prog 182 #[.string z] w fun e w' => e = .returned (.bool false) ∧ w' = w):=fun w => (iname_any z w hz).mono fun _ _ h => h.no p2;have HP:=hidK p2;clear p2
   go_enter Tryz.func188,Tryz.ntmps188
   go_wp2_with fail
   go_quiet ((first | (go_at_call_of 182 (Value.string n);exact Calls.quiet_of_same (F0.out _)) | (go_at_call_of 125 (Value.int .i64 c);exact Calls.quiet_of_same (F1.out _)) | (go_at_call_of 182 (Value.string z);exact Calls.quiet_of_same (F2.out _))))
   go_wp2_with fail;go_ret;exact ⟨false,rfl,⟨fun h => (by cases h),fun h => (HP.out (h.2.2.1)).elim⟩,below_drewN (below1 _ _) _⟩
  have F2 : Hid (∀ w,Calls Tryz.prog 182 #[.string z] w fun e w' => e = .returned (.bool true) ∧ w' = w):=fun w => (iname_any z w hz).mono fun _ _ h => h.yes p2
  by_cases p3 : NameOk k
  case neg =>
   have F3 : Hid (∀ w,Calls Tryz.prog 182 #[.string k] w fun e w' => e = .returned (.bool false) ∧ w' = w):=fun w => (iname_any k w hk).mono fun _ _ h => h.no p3;have HP:=hidK p3;clear p3
   go_enter Tryz.func188,Tryz.ntmps188
   go_wp2_with fail
   go_quiet ((first | (go_at_call_of 182 (Value.string n);exact Calls.quiet_of_same (F0.out _)) | (go_at_call_of 125 (Value.int .i64 c);exact Calls.quiet_of_same (F1.out _)) | (go_at_call_of 182 (Value.string z);exact Calls.quiet_of_same (F2.out _)) | (go_at_call_of 182 (Value.string k);exact Calls.quiet_of_same (F3.out _))))
   go_wp2_with fail;go_ret;exact ⟨false,rfl,⟨fun h => (by cases h),fun h => (HP.out (h.2.2.2.1)).elim⟩,below_drewN (below1 _ _) _⟩
  have F3 : Hid (∀ w,Calls Tryz.prog 182 #[.string k] w fun e w' => e = .returned (.bool true) ∧ w' = w):=fun w => (iname_any k w hk).mono fun _ _ h => h.yes p3
  by_cases p4 : ZoneOk m
  case neg =>
   have F4 : Hid (∀ w,Calls Tryz.prog 189 #[.string m] w fun e w' => e = .returned (.bool false) ∧ w' = w):=fun w => (izone_any m w hm).mono fun _ _ h => h.no p4;have HP:=hidK p4;clear p4
   go_enter Tryz.func188,Tryz.ntmps188
   go_wp2_with fail
   go_quiet ((first | (go_at_call_of 182 (Value.string n);exact Calls.quiet_of_same (F0.out _)) | (go_at_call_of 125 (Value.int .i64 c);exact Calls.quiet_of_same (F1.out _)) | (go_at_call_of 182 (Value.string z);exact Calls.quiet_of_same (F2.out _)) | (go_at_call_of 182 (Value.string k);exact Calls.quiet_of_same (F3.out _)) | (go_at_call_of 189 (Value.string m);exact Calls.quiet_of_same (F4.out _))))
   go_wp2_with fail;go_ret;exact ⟨false,rfl,⟨fun h => (by cases h),fun h => (HP.out (h.2.2.2.2.1)).elim⟩,below_drewN (below1 _ _) _⟩
  have F4 : Hid (∀ w,Calls Tryz.prog 189 #[.string m] w fun e w' => e = .returned (.bool true) ∧ w' = w):=fun w => (izone_any m w hm).mono fun _ _ h => h.yes p4;obtain ⟨q,hq⟩ : ∃ q : Int,q = if x = true then 1 else 6:=⟨_,rfl⟩
  have HM : Hid (∀ w,Calls Tryz.prog 190 #[.agg #[.string n,.int .i64 c,.string z,.string k,.bool x,.string m,.bool false,.slice a len cap]] w fun e w' => e = .returned (.int .i64 q) ∧ Below w.heap.size w w'):=fun w => by rw [hq];exact mostOn_any n c z k x m false a len cap w
  have HQ : Hid (q = if x = true then 1 else 6):=hq;clear hq
  go_enter Tryz.func188,Tryz.ntmps188
  go_wp2_with fail
  go_region_with (first | (go_at_call_of 182 (Value.string n);refine (F0.out _).mono ?_;rintro e w1 ⟨rfl,rfl⟩) | (go_at_call_of 125 (Value.int .i64 c);refine (F1.out _).mono ?_;rintro e w1 ⟨rfl,rfl⟩) | (go_at_call_of 182 (Value.string z);refine (F2.out _).mono ?_;rintro e w1 ⟨rfl,rfl⟩) | (go_at_call_of 182 (Value.string k);refine (F3.out _).mono ?_;rintro e w1 ⟨rfl,rfl⟩) | (go_at_call_of 189 (Value.string m);refine (F4.out _).mono ?_;rintro e w1 ⟨rfl,rfl⟩) | (go_at_call 190;refine (HM.out _).mono ?_;rintro e w1 ⟨rfl,hb⟩;have hc7:=cellK (slotKd hb).1 7;simp only [List.getElem?_toArray,List.getElem?_cons_succ,List.getElem?_cons_zero] at hc7) | (go_at_call 183;refine (inames_any a len cap zs _ _ (HR.out.below (slotKd hb).2.1)).mono ?_;rintro e w2 ⟨r,rfl,hr,rfl⟩))
  all_goals (
   go_wp2_with fail;go_ret
   exact ⟨r,rfl,⟨fun h => ⟨p0,p1,p2,p3,p4,HY.out,HQ.out ▸ hr.1 h⟩,fun h => hr.2 (HQ.out ▸ h.2.2.2.2.2.2)⟩,(slotKd hb).2.1⟩)
 by_cases hm0 : m = ⟨#[]⟩
 ·subst hm0;have HY : Hid True:=trivial
  by_cases p0 : NameOk n
  case neg =>
   have F0 : Hid (∀ w,Calls Tryz.prog 182 #[.string n] w fun e w' => e = .returned (.bool false) ∧ w' = w):=fun w => (iname_any n w hn).mono fun _ _ h => h.no p0;have HP:=hidK p0;clear p0
   go_enter Tryz.func188,Tryz.ntmps188
   go_wp2_with fail
   go_quiet ((first | (go_at_call_of 182 (Value.string n);exact Calls.quiet_of_same (F0.out _))))
   go_wp2_with fail;go_ret;exact ⟨false,rfl,⟨fun h => (by cases h),fun h => (HP.out (h.1)).elim⟩,below_drewN (below1 _ _) _⟩
  have F0 : Hid (∀ w,Calls Tryz.prog 182 #[.string n] w fun e w' => e = .returned (.bool true) ∧ w' = w):=fun w => (iname_any n w hn).mono fun _ _ h => h.yes p0
  by_cases p1 : Inn c 1 1048576
  case neg =>
   have F1 : Hid (∀ w,Calls Tryz.prog 125 #[.int .i64 c,.int .i64 1,.int .i64 1048576] w fun e w' => e = .returned (.bool false) ∧ w' = w):=fun w => (kwithin_any c 1 1048576 w).mono fun _ _ h => h.no p1;have HP:=hidK p1;clear p1
   go_enter Tryz.func188,Tryz.ntmps188
   go_wp2_with fail
   go_quiet ((first | (go_at_call_of 182 (Value.string n);exact Calls.quiet_of_same (F0.out _)) | (go_at_call_of 125 (Value.int .i64 c);exact Calls.quiet_of_same (F1.out _))))
   go_wp2_with fail;go_ret;exact ⟨false,rfl,⟨fun h => (by cases h),fun h => (HP.out (h.2.1)).elim⟩,below_drewN (below1 _ _) _⟩
  have F1 : Hid (∀ w,Calls Tryz.prog 125 #[.int .i64 c,.int .i64 1,.int .i64 1048576] w fun e w' => e = .returned (.bool true) ∧ w' = w):=fun w => (kwithin_any c 1 1048576 w).mono fun _ _ h => h.yes p1
  by_cases p2 : NameOk z
  case neg =>
   have F2 : Hid (∀ w,Calls Tryz.prog 182 #[.string z] w fun e w' => e = .returned (.bool false) ∧ w' = w):=fun w => (iname_any z w hz).mono fun _ _ h => h.no p2;have HP:=hidK p2;clear p2
   go_enter Tryz.func188,Tryz.ntmps188
   go_wp2_with fail
   go_quiet ((first | (go_at_call_of 182 (Value.string n);exact Calls.quiet_of_same (F0.out _)) | (go_at_call_of 125 (Value.int .i64 c);exact Calls.quiet_of_same (F1.out _)) | (go_at_call_of 182 (Value.string z);exact Calls.quiet_of_same (F2.out _))))
   go_wp2_with fail;go_ret;exact ⟨false,rfl,⟨fun h => (by cases h),fun h => (HP.out (h.2.2.1)).elim⟩,below_drewN (below1 _ _) _⟩
  have F2 : Hid (∀ w,Calls Tryz.prog 182 #[.string z] w fun e w' => e = .returned (.bool true) ∧ w' = w):=fun w => (iname_any z w hz).mono fun _ _ h => h.yes p2
  by_cases p3 : NameOk k
  case neg =>
   have F3 : Hid (∀ w,Calls Tryz.prog 182 #[.string k] w fun e w' => e = .returned (.bool false) ∧ w' = w):=fun w => (iname_any k w hk).mono fun _ _ h => h.no p3;have HP:=hidK p3;clear p3
   go_enter Tryz.func188,Tryz.ntmps188
   go_wp2_with fail
   go_quiet ((first | (go_at_call_of 182 (Value.string n);exact Calls.quiet_of_same (F0.out _)) | (go_at_call_of 125 (Value.int .i64 c);exact Calls.quiet_of_same (F1.out _)) | (go_at_call_of 182 (Value.string z);exact Calls.quiet_of_same (F2.out _)) | (go_at_call_of 182 (Value.string k);exact Calls.quiet_of_same (F3.out _))))
   go_wp2_with fail;go_ret;exact ⟨false,rfl,⟨fun h => (by cases h),fun h => (HP.out (h.2.2.2.1)).elim⟩,below_drewN (below1 _ _) _⟩
  have F3 : Hid (∀ w,Calls Tryz.prog 182 #[.string k] w fun e w' => e = .returned (.bool true) ∧ w' = w):=fun w => (iname_any k w hk).mono fun _ _ h => h.yes p3
  by_cases p4 : ZoneOk (⟨#[]⟩ : ByteArray)
  case neg =>
   have F4 : Hid (∀ w,Calls Tryz.prog 189 #[.string (⟨#[]⟩ : ByteArray)] w fun e w' => e = .returned (.bool false) ∧ w' = w):=fun w => (izone_any (⟨#[]⟩ : ByteArray) w hm).mono fun _ _ h => h.no p4;have HP:=hidK p4;clear p4
   go_enter Tryz.func188,Tryz.ntmps188
   go_wp2_with fail
   go_quiet ((first | (go_at_call_of 182 (Value.string n);exact Calls.quiet_of_same (F0.out _)) | (go_at_call_of 125 (Value.int .i64 c);exact Calls.quiet_of_same (F1.out _)) | (go_at_call_of 182 (Value.string z);exact Calls.quiet_of_same (F2.out _)) | (go_at_call_of 182 (Value.string k);exact Calls.quiet_of_same (F3.out _)) | (go_at_call_of 189 (Value.string (⟨#[]⟩ : ByteArray));exact Calls.quiet_of_same (F4.out _))))
   go_wp2_with fail;go_ret;exact ⟨false,rfl,⟨fun h => (by cases h),fun h => (HP.out (h.2.2.2.2.1)).elim⟩,below_drewN (below1 _ _) _⟩
  have F4 : Hid (∀ w,Calls Tryz.prog 189 #[.string (⟨#[]⟩ : ByteArray)] w fun e w' => e = .returned (.bool true) ∧ w' = w):=fun w => (izone_any (⟨#[]⟩ : ByteArray) w hm).mono fun _ _ h => h.yes p4;obtain ⟨q,hq⟩ : ∃ q : Int,q = if x = true then 1 else 6:=⟨_,rfl⟩
  have HM : Hid (∀ w,Calls Tryz.prog 190 #[.agg #[.string n,.int .i64 c,.string z,.string k,.bool x,.string (⟨#[]⟩ : ByteArray),.bool true,.slice a len cap]] w fun e w' => e = .returned (.int .i64 q) ∧ Below w.heap.size w w'):=fun w => by rw [hq];exact mostOn_any n c z k x (⟨#[]⟩ : ByteArray) true a len cap w
  have HQ : Hid (q = if x = true then 1 else 6):=hq;clear hq
  go_enter Tryz.func188,Tryz.ntmps188
  go_wp2_with fail
  go_region_with (first | (go_at_call_of 182 (Value.string n);refine (F0.out _).mono ?_;rintro e w1 ⟨rfl,rfl⟩) | (go_at_call_of 125 (Value.int .i64 c);refine (F1.out _).mono ?_;rintro e w1 ⟨rfl,rfl⟩) | (go_at_call_of 182 (Value.string z);refine (F2.out _).mono ?_;rintro e w1 ⟨rfl,rfl⟩) | (go_at_call_of 182 (Value.string k);refine (F3.out _).mono ?_;rintro e w1 ⟨rfl,rfl⟩) | (go_at_call_of 189 (Value.string (⟨#[]⟩ : ByteArray));refine (F4.out _).mono ?_;rintro e w1 ⟨rfl,rfl⟩) | (go_at_call 190;refine (HM.out _).mono ?_;rintro e w1 ⟨rfl,hb⟩;have hc7:=cellK (slotKd hb).1 7;simp only [List.getElem?_toArray,List.getElem?_cons_succ,List.getElem?_cons_zero] at hc7) | (go_at_call 183;refine (inames_any a len cap zs _ _ (HR.out.below (slotKd hb).2.1)).mono ?_;rintro e w2 ⟨r,rfl,hr,rfl⟩))
  all_goals (
   go_wp2_with fail;go_ret
   exact ⟨r,rfl,⟨fun h => ⟨p0,p1,p2,p3,p4,(fun _ => rfl),HQ.out ▸ hr.1 h⟩,fun h => hr.2 (HQ.out ▸ h.2.2.2.2.2.2)⟩,(slotKd hb).2.1⟩)
 have hq9:=isE_no hm0
 go_enter Tryz.func188,Tryz.ntmps188
 go_wp2
 go_ret;exact ⟨false,rfl,⟨fun h => (by cases h),fun h => absurd (h.2.2.2.2.2.1 rfl) hm0⟩,below1 _ _⟩

end Go.Proofs.YtdfgbboadbnodaaGreatDoor

namespace Go.Proofs.YtdfgbboadbnodaaGreatDoor
open Go.RowKit
namespace Rc
open Mk

theorem callednd_any (x : Nd) (va : Option Addr) (vl vc : Nat) (w : World) :
  Calls Tryz.prog 179 #[.agg #[.string x.n,.string x.z,.int .i64 x.c,.int .i64 x.s,.int .i64 x.u,.bool x.d,.slice va vl vc]] w fun e w' => e = .returned (.string x.n) ∧ Below w.heap.size w w':=by
 go_enter Tryz.func179,Tryz.ntmps179
 go_wp2
 go_ret;exact ⟨rfl,below1 _ _⟩

theorem rightnd_any (x : Nd) (va : Option Addr) (vl vc : Nat) (w : World) (hn : x.n.size ≤ 9223372036854775807) (hz : x.z.size ≤ 9223372036854775807) (hr : TxRow w va vl vc x.zs) :
  Calls Tryz.prog 180 #[.agg #[.string x.n,.string x.z,.int .i64 x.c,.int .i64 x.s,.int .i64 x.u,.bool x.d,.slice va vl vc]] w (BoolB (ndOk x) w):=by
 have HR:=hidK (hr.below (below1 w (.cells #[.string x.n,.string x.z,.int .i64 x.c,.int .i64 x.s,.int .i64 x.u,.bool x.d,.slice va vl vc] 56)));clear hr
 go_enter Tryz.func180,Tryz.ntmps180
 go_wp2_with fail;refine (inode_any x.n x.z x.c x.s x.u x.d va vl vc x.zs _ hn hz HR.out).mono ?_;rintro e w1 ⟨r,rfl,hr1,hb⟩;have HB:=hidK (slotK hb).2.1;have HI:=hidK hr1;clear hb hr1
 go_wp2
 go_ret;exact ⟨r,rfl,HI.out,HB.out⟩

theorem placend_any (a : Option Addr) (len cap : Nat) (xs : List Nd) (t : ByteArray) (w : World) (hr : RRow w a len cap 7 (xs.map ndF)) :
  Calls Tryz.prog 95 #[.slice a len cap,.string t] w fun e w' => e = .returned (.tuple #[.int .i64 (pl Nd.n xs t : Nat),.bool (hit Nd.n xs t)]) ∧ Below w.heap.size w w':=by
 have HR:=hidK hr
 have hxl : xs.length = len:=by simpa using hr.1
 have hlc:=Nat.le_trans hr.2.1 hr.2.2.1;clear hr
 have hmcalled : ∀ (v : Value) (w : World),(method 343 56 v "loop.example/g00571/impl.called").run Tryz.prog w = .ok (179,v) w:=fun _ _ => by kernel_rfl
 go_enter Tryz.func95,Tryz.ntmps95
 go_wp2
 go_loopw [10] (fun i wr => ∃ k : Nat,k ≤ len ∧ i = .int .i64 k ∧ Hid (∀ (j : Nat) y,j < k → xs[j]? = some y → Op.bytesLess y.n.toList t.toList = true) ∧ Hid (Below w.heap.size w wr)) (fun i _ => len - (intOf i).toNat)
 case atStart => exact ⟨0,by omega,rfl,fun j y hj => by omega,Below.refl _ _⟩
 case round =>
  obtain ⟨k,hk,rfl,HE,HB⟩:=hrel
  by_cases hlt : k < len
  ·obtain ⟨b,o,x,rfl,hb,hx,hat⟩:=nd_at (HR.out.below HB.out) hlt;obtain ⟨va,vl,vc,hvr,z0,z1,c0,c1,c2,c3,c4,c5,c6⟩:=nd_cells hat;have HX:=hidK hx;clear hat hx z0 z1 hvr;have HC:=hidK (fun v : World => callednd_any x va vl vc v);have HB1:=hidK (HB.out.alloc HB.out.size (.cells #[.string x.n,.string x.z,.int .i64 x.c,.int .i64 x.s,.int .i64 x.u,.bool x.d,.slice va vl vc] 56));go_wp2_with fail;refine (HC.out _).mono ?_;rintro e w1 ⟨rfl,hb1⟩;obtain ⟨g1,-,-⟩:=slotK hb1;have hs1:=hb1.size;rw [show (wr.alloc (.cells #[.string x.n,.string x.z,.int .i64 x.c,.int .i64 x.s,.int .i64 x.u,.bool x.d,.slice va vl vc] 56)).heap.size = wr.heap.size + 1 from by simp] at hs1;have HB2:=upB HB1 hb1;have d0:=ck0 g1;have d1:=ck1 g1;have d2:=ck2 g1;have d3:=ck3 g1;have d4:=ck4 g1;have d5:=ck5 g1;have d6:=ck6 g1;clear g1 hb1 c0 c1 c2 c3 c4 c5 c6 HB1
   cases hless : Op.bytesLess x.n.toList t.toList
   ·go_wp2_with fail;refine (HC.out _).mono ?_;rintro e w2 ⟨rfl,hb2⟩;have HB3:=hidK (HB2.out.trans (hb2.mono (Nat.le_trans HB.out.size (Nat.le_trans (Nat.le_succ _) hs1))));have hp:=pl_at HE.out HX.out hless;clear hb2;go_wp2_with fail;refine bodyPost_ret (v:=.tuple #[.int .i64 k,.bool (x.n.toList == t.toList)]) (by simp [results,Tryz.results95,go_sem]) rfl ⟨?_,HB3.out⟩;unfold hit;rw [hp,HX.out]
   ·go_wp2_with fail;refine ⟨⟨k + 1,by omega,by go_num,fun j y hj hy => ?_,HB2.out⟩,by simp [intOf];omega⟩
    by_cases e : j = k
    ·subst e;rw [HX.out] at hy;obtain rfl:=Option.some.inj hy;exact hless
    ·exact HE.out j y (by omega) hy
  ·obtain rfl : k = len:=by omega
   have hp : pl Nd.n xs t = xs.length:=pl_end (fun j y hy => HE.out j y (by have:=(List.getElem?_eq_some_iff.1 hy).1;omega) hy)
   have hh : hit Nd.n xs t = false:=by unfold hit;rw [hp,List.getElem?_eq_none (Nat.le_refl _)]
   have HP:=hidK hp;have HH:=hidK hh;clear hp hh
   go_wp2
   exact bodyPost_ret (v:=.tuple #[.int .i64 k,.bool false]) (by simp [results,Tryz.results95,go_sem]) rfl ⟨by rw [HP.out,HH.out,hxl],HB.out⟩

def Fndnd (xs : List Nd) (t : ByteArray) (r w : World) (e : Ending) (w' : World) : Prop :=
 Below w.heap.size w w' ∧ ((hit Nd.n xs t = true ∧ ∃ (x : Nd) (va : Option Addr) (vl vc : Nat),xs[pl Nd.n xs t]? = some x ∧ x.n = t ∧ e = .returned (.tuple #[.agg #[.string x.n,.string x.z,.int .i64 x.c,.int .i64 x.s,.int .i64 x.u,.bool x.d,.slice va vl vc],.bool true]) ∧ x.n.size ≤ 9223372036854775807 ∧ x.z.size ≤ 9223372036854775807 ∧ TxRow r va vl vc x.zs) ∨ (hit Nd.n xs t = false ∧ e = .returned (.tuple #[.agg #[.string ⟨#[]⟩,.string ⟨#[]⟩,.int .i64 0,.int .i64 0,.int .i64 0,.bool false,.slice none 0 0],.bool false])))

theorem findnd_any (a : Option Addr) (len cap : Nat) (xs : List Nd) (t : ByteArray) (r w : World) (hr : RRow r a len cap 7 (xs.map ndF)) (hrw : Below r.heap.size r w) :
  Calls Tryz.prog 131 #[.slice a len cap,.string t] w (Fndnd xs t r w):=by
 have HR:=hidK hr;have HRW:=hidK hrw
 have hxl : xs.length = len:=by simpa using hr.1
 have HR1:=hidK ((hr.below hrw).below (below1 w (.cells #[.string ⟨#[]⟩,.string ⟨#[]⟩,.int .i64 0,.int .i64 0,.int .i64 0,.bool false,.slice none 0 0] 56)));clear hr hrw
 go_enter Tryz.func131,Tryz.ntmps131
 go_wp2_with fail;refine (placend_any a len cap xs t _ HR1.out).mono ?_;rintro e w1 ⟨rfl,hb⟩;obtain ⟨g1,hb1,-⟩:=slotK hb;have d0:=ck0 g1;have f0:=froK g1 0;have d1:=ck1 g1;have f1:=froK g1 1;have d2:=ck2 g1;have f2:=froK g1 2;have d3:=ck3 g1;have f3:=froK g1 3;have d4:=ck4 g1;have f4:=froK g1 4;have d5:=ck5 g1;have f5:=froK g1 5;have d6:=ck6 g1;have f6:=froK g1 6;have HB:=hidK hb1;have hs1:=hb.size;rw [show (w.alloc (.cells #[.string ⟨#[]⟩,.string ⟨#[]⟩,.int .i64 0,.int .i64 0,.int .i64 0,.bool false,.slice none 0 0] 56)).heap.size = w.heap.size + 1 from by simp] at hs1
 have hlt1 : w.heap.size < w1.heap.size:=by omega
 clear hb g1 HR1 hs1
 cases hh : hit Nd.n xs t
 ·generalize pl Nd.n xs t = j
  have HH:=hidK hh;clear hh hb1 HR hxl
  go_wp2
  refine bodyPost_ret (v:=.tuple #[.agg #[.string ⟨#[]⟩,.string ⟨#[]⟩,.int .i64 0,.int .i64 0,.int .i64 0,.bool false,.slice none 0 0],.bool false]) (by simp [results,Tryz.results131,go_sem, *]) rfl ⟨?_,.inr ⟨HH.out,rfl⟩⟩;exact Below.alloc (set_below (Nat.le_refl _) (set_below (Nat.le_refl _) (set_below (Nat.le_refl _) (set_below (Nat.le_refl _) (set_below (Nat.le_refl _) (set_below (Nat.le_refl _) (set_below (Nat.le_refl _) (HB.out)))))))) (by simp [World.setCell];omega) _
 ·obtain ⟨x,hx,hn⟩:=hit_yes hh
  have hj : pl Nd.n xs t < len:=by have:=(List.getElem?_eq_some_iff.1 hx).1;omega
  obtain ⟨b,o,y,rfl,hbl,hy,hat⟩:=nd_at HR.out hj;rw [hx] at hy;obtain rfl:=Option.some.inj hy;obtain ⟨va,vl,vc,hvr,z0,z1,c0,c1,c2,c3,c4,c5,c6⟩:=nd_cells hat;have hbw:=Nat.lt_of_lt_of_le hbl HRW.out.size;have e0:=(cell_below hb1 hbw).trans ((cell_below HRW.out hbl).trans c0);have e1:=(cell_below hb1 hbw).trans ((cell_below HRW.out hbl).trans c1);have e2:=(cell_below hb1 hbw).trans ((cell_below HRW.out hbl).trans c2);have e3:=(cell_below hb1 hbw).trans ((cell_below HRW.out hbl).trans c3);have e4:=(cell_below hb1 hbw).trans ((cell_below HRW.out hbl).trans c4);have e5:=(cell_below hb1 hbw).trans ((cell_below HRW.out hbl).trans c5);have e6:=(cell_below hb1 hbw).trans ((cell_below HRW.out hbl).trans c6);have HI : Hid (Fndnd xs t r w (.returned (.tuple #[.agg #[.string x.n,.string x.z,.int .i64 x.c,.int .i64 x.s,.int .i64 x.u,.bool x.d,.slice va vl vc],.bool true])) w):=⟨Below.refl _ _,.inl ⟨hh,x,va,vl,vc,hx,hn,rfl,z0,z1,hvr⟩⟩;clear c0 c1 c2 c3 c4 c5 c6 hat hx hn hy hh z0 z1 hvr HR HRW hb1;obtain ⟨j,hjj⟩ : ∃ j,pl Nd.n xs t = j:=⟨_,rfl⟩;rw [hjj] at hj;simp only [hjj] at *;clear hjj
  go_wp2
  refine bodyPost_ret (v:=.tuple #[.agg #[.string x.n,.string x.z,.int .i64 x.c,.int .i64 x.s,.int .i64 x.u,.bool x.d,.slice va vl vc],.bool true]) (by simp [results,Tryz.results131,go_sem, *]) rfl ⟨?_,HI.out.2⟩;exact set_below (Nat.le_refl _) (set_below (Nat.le_refl _) (set_below (Nat.le_refl _) (set_below (Nat.le_refl _) (set_below (Nat.le_refl _) (set_below (Nat.le_refl _) (set_below (Nat.le_refl _) (HB.out)))))))

theorem thend_any (d : Ad) (now : Int) (xs : List Nd) (t : ByteArray) (r w : World) (hr : RRow r d.a1 d.l1 d.c1 7 (xs.map ndF)) (hrw : Below r.heap.size r w) :
  Calls Tryz.prog 109 #[.agg #[.slice d.a1 d.l1 d.c1,.slice d.a2 d.l2 d.c2,.slice d.a3 d.l3 d.c3,.slice d.a4 d.l4 d.c4,.slice d.a5 d.l5 d.c5,.int .i64 now],.string t] w (Fndnd xs t r w):=by
 have HR:=hidK hr;have HRW:=hidK (hrw.trans ((below2 w (.cells #[.slice d.a1 d.l1 d.c1,.slice d.a2 d.l2 d.c2,.slice d.a3 d.l3 d.c3,.slice d.a4 d.l4 d.c4,.slice d.a5 d.l5 d.c5,.int .i64 now] 36) (.cells #[.string ⟨#[]⟩,.string ⟨#[]⟩,.int .i64 0,.int .i64 0,.int .i64 0,.bool false,.slice none 0 0] 56)).mono hrw.size));clear hr hrw
 go_enter Tryz.func109,Tryz.ntmps109
 go_wp2_with fail;refine (findnd_any _ _ _ xs t r _ HR.out HRW.out).mono ?_;rintro e w1 ⟨hb,hf⟩;have g1:=(hb.block (w.heap.size + 1) (by simp)).trans (heap2_1 _ _ _);have d0:=ck0 g1;have f0:=froK g1 0;have d1:=ck1 g1;have f1:=froK g1 1;have d2:=ck2 g1;have f2:=froK g1 2;have d3:=ck3 g1;have f3:=froK g1 3;have d4:=ck4 g1;have f4:=froK g1 4;have d5:=ck5 g1;have f5:=froK g1 5;have d6:=ck6 g1;have f6:=froK g1 6;have HB : Hid (Below w.heap.size w w1):=(below2 _ _ _).trans (hb.mono (by simp;omega));clear g1 hb HR HRW
 rcases hf with ⟨hh,x,va,vl,vc,hx,hn,rfl,z0,z1,hvr⟩ | ⟨hh,rfl⟩
 ·have HI : Hid (Fndnd xs t r w (.returned (.tuple #[.agg #[.string x.n,.string x.z,.int .i64 x.c,.int .i64 x.s,.int .i64 x.u,.bool x.d,.slice va vl vc],.bool true])) w):=⟨Below.refl _ _,.inl ⟨hh,x,va,vl,vc,hx,hn,rfl,z0,z1,hvr⟩⟩;clear hx hn hh z0 z1 hvr
  go_wp2
  refine bodyPost_ret (v:=.tuple #[.agg #[.string x.n,.string x.z,.int .i64 x.c,.int .i64 x.s,.int .i64 x.u,.bool x.d,.slice va vl vc],.bool true]) (by simp [results,Tryz.results109,go_sem, *]) rfl ⟨?_,HI.out.2⟩;exact set_below (Nat.le_succ _) (set_below (Nat.le_succ _) (set_below (Nat.le_succ _) (set_below (Nat.le_succ _) (set_below (Nat.le_succ _) (set_below (Nat.le_succ _) (set_below (Nat.le_succ _) (HB.out)))))))
 ·have HH:=hidK hh;clear hh
  go_wp2
  refine bodyPost_ret (v:=.tuple #[.agg #[.string ⟨#[]⟩,.string ⟨#[]⟩,.int .i64 0,.int .i64 0,.int .i64 0,.bool false,.slice none 0 0],.bool false]) (by simp [results,Tryz.results109,go_sem, *]) rfl ⟨?_,.inr ⟨HH.out,rfl⟩⟩;exact set_below (Nat.le_succ _) (set_below (Nat.le_succ _) (set_below (Nat.le_succ _) (set_below (Nat.le_succ _) (set_below (Nat.le_succ _) (set_below (Nat.le_succ _) (set_below (Nat.le_succ _) (HB.out)))))))

theorem rowrnd_any (a : Option Addr) (len cap : Nat) (xs : List Nd) (most : Int) (w : World) (hr : RRow w a len cap 7 (xs.map ndF)) :
  Calls Tryz.prog 140 #[.slice a len cap,.int .i64 most] w (BoolB (RowOk ndOk Nd.n xs most) w):=by
 have HR:=hidK hr
 have hxl : xs.length = len:=by simpa using hr.1
 have hlc:=Nat.le_trans hr.2.1 hr.2.2.1;clear hr
 have hmcalled : ∀ (v : Value) (w : World),(method 343 56 v "loop.example/g00571/impl.called").run Tryz.prog w = .ok (179,v) w:=fun _ _ => by kernel_rfl
 have hmright : ∀ (v : Value) (w : World),(method 343 56 v "loop.example/g00571/impl.right").run Tryz.prog w = .ok (180,v) w:=fun _ _ => by kernel_rfl
 by_cases hmo : most < (len : Int)
 ·go_enter Tryz.func140,Tryz.ntmps140
  go_wp2
  go_ret;exact BoolB.f (fun h => by have:=h.1;omega) (Below.refl _ _)
 go_enter Tryz.func140,Tryz.ntmps140
 go_wp2
 go_loopw [5,14] (fun q i wr => ∃ (k : Nat) (y : ByteArray),k ≤ len ∧ q = .string y ∧ i = .int .i64 k ∧ Hid (k = 0 → y = ⟨#[]⟩) ∧ Hid (∀ z,0 < k → xs[k - 1]? = some z → z.n = y) ∧ Hid (∀ (j : Nat) z,j < k → xs[j]? = some z → ndOk z) ∧ Hid (∀ (j : Nat) z u,j + 1 < k → xs[j + 1]? = some z → xs[j]? = some u → Op.bytesLess u.n.toList z.n.toList = true) ∧ Hid (Below w.heap.size w wr)) (fun _ i _ => len - (intOf i).toNat)
 case atStart => exact ⟨0,_,by omega,rfl,rfl,fun _ => rfl,fun _ h => absurd h (by omega),fun _ _ h => absurd h (by omega),fun _ _ _ h => absurd h (by omega),Below.refl _ _⟩
 case round =>
  obtain ⟨k,y,hk,rfl,rfl,H0,H1,HE,HO,HB⟩:=hrel
  by_cases hlt : k < len
  ·obtain ⟨b,o,x,rfl,hb,hx,hat⟩:=nd_at (HR.out.below HB.out) hlt;obtain ⟨va,vl,vc,hvr,z0,z1,c0,c1,c2,c3,c4,c5,c6⟩:=nd_cells hat;have HX:=hidK hx;have HC:=hidK (fun v : World => callednd_any x va vl vc v);have HB1:=hidK (HB.out.alloc HB.out.size (.cells #[.string x.n,.string x.z,.int .i64 x.c,.int .i64 x.s,.int .i64 x.u,.bool x.d,.slice va vl vc] 56));have HRt:=hidK (rightnd_any x va vl vc (wr.alloc (.cells #[.string x.n,.string x.z,.int .i64 x.c,.int .i64 x.s,.int .i64 x.u,.bool x.d,.slice va vl vc] 56)) z0 z1 (hvr.below (below1 _ _)));clear hat hx z0 z1 hvr;go_wp2_with fail;refine HRt.out.mono ?_;rintro e w1 ⟨r,rfl,hrt,hb1⟩;obtain ⟨g1,-,-⟩:=slotK hb1;have hs1:=hb1.size;rw [show (wr.alloc (.cells #[.string x.n,.string x.z,.int .i64 x.c,.int .i64 x.s,.int .i64 x.u,.bool x.d,.slice va vl vc] 56)).heap.size = wr.heap.size + 1 from by simp] at hs1;have HB2:=upB HB1 hb1;have d0:=ck0 g1;have d1:=ck1 g1;have d2:=ck2 g1;have d3:=ck3 g1;have d4:=ck4 g1;have d5:=ck5 g1;have d6:=ck6 g1;have HG:=hidK g1;have HI:=hidK hrt;clear g1 hb1 HB1 HRt hrt c0 c1 c2 c3 c4 c5 c6
   cases r
   ·go_wp2
    go_ret;exact BoolB.f (fun h => by have:=HI.out.2 (h.2.1 k x HX.out);cases this) HB2.out
   have HOK:=hidK (HI.out.1 rfl);clear HI;go_wp2_with fail;refine (HC.out _).mono ?_;rintro e w2 ⟨rfl,hb2⟩;have HB3:=hidK (HB2.out.trans (hb2.mono (Nat.le_trans HB.out.size (Nat.le_trans (Nat.le_succ _) hs1))));have g2:=(hb2.block wr.heap.size (by omega)).trans HG.out;have hs2:=hb2.size;have htri:=less_tri y.toList x.n.toList;clear HG hb2 HB2 d0 d1 d2 d3 d4 d5 d6;have d0:=ck0 g2;have d1:=ck1 g2;have d2:=ck2 g2;have d3:=ck3 g2;have d4:=ck4 g2;have d5:=ck5 g2;have d6:=ck6 g2;clear g2
   cases hless : Op.bytesLess y.toList x.n.toList
   ·rw [hless] at htri
    go_wp2
    go_ret;refine BoolB.f (fun h => ?_) HB3.out
    by_cases hk0 : 0 < k
    ·have hz : xs[k - 1]? = some (xs[k - 1]'(by omega)):=List.getElem?_eq_getElem _;have h2:=H1.out _ hk0 hz;have h3:=h.2.2 (k - 1) x _ (by rw [Nat.sub_add_cancel hk0];exact HX.out) hz;rw [h2,hless] at h3
     cases h3
    ·have:=H0.out (by omega);subst this;have hnm:=HOK.out.1.1;rw [less_nil hnm] at hless
     cases hless
   ·rw [hless] at htri;go_wp2_with fail;refine (HC.out _).mono ?_;rintro e w3 ⟨rfl,hb3⟩;have HB4:=hidK (HB3.out.trans (hb3.mono (Nat.le_trans HB.out.size (by omega))));clear hb3 d0 d1 d2 d3 d4 d5 d6;go_wp2_with fail;refine ⟨⟨k + 1,x.n,by omega,rfl,by go_num,fun h => absurd h (by omega),fun z _ hz => ?_,fun j z hj hz => ?_,fun j z u hj hz hu => ?_,HB4.out⟩,by simp [intOf];omega⟩
    ·rw [Nat.add_sub_cancel,HX.out] at hz;rw [Option.some.inj hz]
    ·by_cases e : j = k
     ·subst e;rw [HX.out] at hz;obtain rfl:=Option.some.inj hz;exact HOK.out
     ·exact HE.out j z (by omega) hz
    ·by_cases e : j + 1 = k
     ·subst e;rw [HX.out] at hz;obtain rfl:=Option.some.inj hz;have:=H1.out u (by omega) (by rw [Nat.add_sub_cancel];exact hu);rw [this];exact hless
     ·exact HO.out j z u (by omega) hz hu
  ·obtain rfl : k = len:=by omega
   go_wp2
   go_ret;refine BoolB.t ⟨by omega,fun j z hz => HE.out j z (by have:=(List.getElem?_eq_some_iff.1 hz).1;omega) hz,fun j z u hz hu => HO.out j z u (by have:=(List.getElem?_eq_some_iff.1 hz).1;omega) hz hu⟩ HB.out

def Sxnd (xs : List Nd) (t : ByteArray) (w : World) (e : Ending) (w' : World) : Prop :=
 Below w.heap.size w w' ∧ ((∃ (j : Nat) (x : Nd),xs[j]? = some x ∧ x.n = t ∧ e = .returned (.int .i64 j)) ∨ ((∀ (j : Nat) x,xs[j]? = some x → ¬ x.n = t) ∧ e = .returned (.int .i64 (-1))))

theorem sxnd_any (d : Ad) (now : Int) (xs : List Nd) (t : ByteArray) (w : World) (hr : RRow w d.a1 d.l1 d.c1 7 (xs.map ndF)) :
  Calls Tryz.prog 51 #[.agg #[.slice d.a1 d.l1 d.c1,.slice d.a2 d.l2 d.c2,.slice d.a3 d.l3 d.c3,.slice d.a4 d.l4 d.c4,.slice d.a5 d.l5 d.c5,.int .i64 now],.string t] w (Sxnd xs t w):=by
 have HR:=hidK hr
 have hxl : xs.length = d.l1:=by simpa using hr.1
 have hlc:=Nat.le_trans hr.2.1 hr.2.2.1;clear hr
 go_enter Tryz.func51,Tryz.ntmps51
 go_wp2
 go_loopw [5] (fun i wr => ∃ k : Nat,k ≤ d.l1 ∧ i = .int .i64 k ∧ wr = w.alloc (.cells #[.slice d.a1 d.l1 d.c1,.slice d.a2 d.l2 d.c2,.slice d.a3 d.l3 d.c3,.slice d.a4 d.l4 d.c4,.slice d.a5 d.l5 d.c5,.int .i64 now] 36) ∧ Hid (∀ (j : Nat) z,j < k → xs[j]? = some z → ¬ z.n = t)) (fun i _ => d.l1 - (intOf i).toNat)
 case atStart => exact ⟨0,by omega,rfl,rfl,fun _ _ h => absurd h (by omega)⟩
 case round =>
  obtain ⟨k,hk,rfl,rfl,HE⟩:=hrel
  by_cases hlt : k < d.l1
  ·obtain ⟨b,o,x,ha,hb,hx,hat⟩:=nd_at HR.out hlt;obtain ⟨va,vl,vc,hvr,-,-,c0,-,-,-,-,-,-⟩:=nd_cells hat;have HX:=hidK hx;clear hat hx hvr
   by_cases hn : x.n = t
   ·have hq:=tl_yes hn;have HN:=hidK hn;clear hn
    go_wp2
    go_ret;exact ⟨below1 _ _,.inl ⟨k,x,HX.out,HN.out,rfl⟩⟩
   ·have hq:=tl_no hn;have HN:=hidK hn;clear hn
    go_wp2
    refine ⟨⟨k + 1,by omega,by go_num,by rw [ha],fun j z hj hz => ?_⟩,by simp [intOf];omega⟩
    by_cases e : j = k
    ·subst e;rw [HX.out] at hz;obtain rfl:=Option.some.inj hz;exact HN.out
    ·exact HE.out j z (by omega) hz
  ·obtain rfl : k = d.l1:=by omega
   go_wp2
   go_ret;exact ⟨below1 _ _,.inr ⟨fun j z hz => HE.out j z (by have:=(List.getElem?_eq_some_iff.1 hz).1;omega) hz,rfl⟩⟩

theorem calledkd_any (x : Kd)  (w : World) :
  Calls Tryz.prog 195 #[.agg #[.string x.n,.bool x.x,.bool x.y,.string x.z]] w fun e w' => e = .returned (.string x.n) ∧ Below w.heap.size w w':=by
 go_enter Tryz.func195,Tryz.ntmps195
 go_wp2
 go_ret;exact ⟨rfl,below1 _ _⟩

theorem rightkd_any (x : Kd)  (w : World) (hn : x.n.size ≤ 9223372036854775807) (hz : x.z.size ≤ 9223372036854775807) :
  Calls Tryz.prog 196 #[.agg #[.string x.n,.bool x.x,.bool x.y,.string x.z]] w (BoolB (kdOk x) w):=by
 skip
 skip
 go_enter Tryz.func196,Tryz.ntmps196
 go_wp2_with fail;refine (iclass_any x.n x.z x.x x.y _ hn hz).mono ?_;rintro e w1 ⟨r,rfl,hr1,hb⟩;have HB:=hidK (slotK hb).2.1;have HI:=hidK hr1;clear hb hr1
 go_wp2
 go_ret;exact ⟨r,rfl,HI.out,HB.out⟩

theorem placekd_any (a : Option Addr) (len cap : Nat) (xs : List Kd) (t : ByteArray) (w : World) (hr : RRow w a len cap 4 (xs.map kdF)) :
  Calls Tryz.prog 163 #[.slice a len cap,.string t] w fun e w' => e = .returned (.tuple #[.int .i64 (pl Kd.n xs t : Nat),.bool (hit Kd.n xs t)]) ∧ Below w.heap.size w w':=by
 have HR:=hidK hr
 have hxl : xs.length = len:=by simpa using hr.1
 have hlc:=Nat.le_trans hr.2.1 hr.2.2.1;clear hr
 have hmcalled : ∀ (v : Value) (w : World),(method 343 106 v "loop.example/g00571/impl.called").run Tryz.prog w = .ok (195,v) w:=fun _ _ => by kernel_rfl
 go_enter Tryz.func163,Tryz.ntmps163
 go_wp2
 go_loopw [10] (fun i wr => ∃ k : Nat,k ≤ len ∧ i = .int .i64 k ∧ Hid (∀ (j : Nat) y,j < k → xs[j]? = some y → Op.bytesLess y.n.toList t.toList = true) ∧ Hid (Below w.heap.size w wr)) (fun i _ => len - (intOf i).toNat)
 case atStart => exact ⟨0,by omega,rfl,fun j y hj => by omega,Below.refl _ _⟩
 case round =>
  obtain ⟨k,hk,rfl,HE,HB⟩:=hrel
  by_cases hlt : k < len
  ·obtain ⟨b,o,x,rfl,hb,hx,hat⟩:=kd_at (HR.out.below HB.out) hlt;obtain ⟨z0,z3,c0,c1,c2,c3⟩:=kd_cells hat;have HX:=hidK hx;clear hat hx z0 z3;have HC:=hidK (fun v : World => calledkd_any x v);have HB1:=hidK (HB.out.alloc HB.out.size (.cells #[.string x.n,.bool x.x,.bool x.y,.string x.z] 106));go_wp2_with fail;refine (HC.out _).mono ?_;rintro e w1 ⟨rfl,hb1⟩;obtain ⟨g1,-,-⟩:=slotK hb1;have hs1:=hb1.size;rw [show (wr.alloc (.cells #[.string x.n,.bool x.x,.bool x.y,.string x.z] 106)).heap.size = wr.heap.size + 1 from by simp] at hs1;have HB2:=upB HB1 hb1;have d0:=ck0 g1;have d1:=ck1 g1;have d2:=ck2 g1;have d3:=ck3 g1;clear g1 hb1 c0 c1 c2 c3 HB1
   cases hless : Op.bytesLess x.n.toList t.toList
   ·go_wp2_with fail;refine (HC.out _).mono ?_;rintro e w2 ⟨rfl,hb2⟩;have HB3:=hidK (HB2.out.trans (hb2.mono (Nat.le_trans HB.out.size (Nat.le_trans (Nat.le_succ _) hs1))));have hp:=pl_at HE.out HX.out hless;clear hb2;go_wp2_with fail;refine bodyPost_ret (v:=.tuple #[.int .i64 k,.bool (x.n.toList == t.toList)]) (by simp [results,Tryz.results163,go_sem]) rfl ⟨?_,HB3.out⟩;unfold hit;rw [hp,HX.out]
   ·go_wp2_with fail;refine ⟨⟨k + 1,by omega,by go_num,fun j y hj hy => ?_,HB2.out⟩,by simp [intOf];omega⟩
    by_cases e : j = k
    ·subst e;rw [HX.out] at hy;obtain rfl:=Option.some.inj hy;exact hless
    ·exact HE.out j y (by omega) hy
  ·obtain rfl : k = len:=by omega
   have hp : pl Kd.n xs t = xs.length:=pl_end (fun j y hy => HE.out j y (by have:=(List.getElem?_eq_some_iff.1 hy).1;omega) hy)
   have hh : hit Kd.n xs t = false:=by unfold hit;rw [hp,List.getElem?_eq_none (Nat.le_refl _)]
   have HP:=hidK hp;have HH:=hidK hh;clear hp hh
   go_wp2
   exact bodyPost_ret (v:=.tuple #[.int .i64 k,.bool false]) (by simp [results,Tryz.results163,go_sem]) rfl ⟨by rw [HP.out,HH.out,hxl],HB.out⟩

def Fndkd (xs : List Kd) (t : ByteArray) (_r w : World) (e : Ending) (w' : World) : Prop :=
 Below w.heap.size w w' ∧ ((hit Kd.n xs t = true ∧ ∃ (x : Kd),xs[pl Kd.n xs t]? = some x ∧ x.n = t ∧ e = .returned (.tuple #[.agg #[.string x.n,.bool x.x,.bool x.y,.string x.z],.bool true]) ∧ x.n.size ≤ 9223372036854775807 ∧ x.z.size ≤ 9223372036854775807) ∨ (hit Kd.n xs t = false ∧ e = .returned (.tuple #[.agg #[.string ⟨#[]⟩,.bool false,.bool false,.string ⟨#[]⟩],.bool false])))

theorem findkd_any (a : Option Addr) (len cap : Nat) (xs : List Kd) (t : ByteArray) (r w : World) (hr : RRow r a len cap 4 (xs.map kdF)) (hrw : Below r.heap.size r w) :
  Calls Tryz.prog 161 #[.slice a len cap,.string t] w (Fndkd xs t r w):=by
 have HR:=hidK hr;have HRW:=hidK hrw
 have hxl : xs.length = len:=by simpa using hr.1
 have HR1:=hidK ((hr.below hrw).below (below1 w (.cells #[.string ⟨#[]⟩,.bool false,.bool false,.string ⟨#[]⟩] 106)));clear hr hrw
 go_enter Tryz.func161,Tryz.ntmps161
 go_wp2_with fail;refine (placekd_any a len cap xs t _ HR1.out).mono ?_;rintro e w1 ⟨rfl,hb⟩;obtain ⟨g1,hb1,-⟩:=slotK hb;have d0:=ck0 g1;have f0:=froK g1 0;have d1:=ck1 g1;have f1:=froK g1 1;have d2:=ck2 g1;have f2:=froK g1 2;have d3:=ck3 g1;have f3:=froK g1 3;have HB:=hidK hb1;have hs1:=hb.size;rw [show (w.alloc (.cells #[.string ⟨#[]⟩,.bool false,.bool false,.string ⟨#[]⟩] 106)).heap.size = w.heap.size + 1 from by simp] at hs1
 have hlt1 : w.heap.size < w1.heap.size:=by omega
 clear hb g1 HR1 hs1
 cases hh : hit Kd.n xs t
 ·generalize pl Kd.n xs t = j
  have HH:=hidK hh;clear hh hb1 HR hxl
  go_wp2
  refine bodyPost_ret (v:=.tuple #[.agg #[.string ⟨#[]⟩,.bool false,.bool false,.string ⟨#[]⟩],.bool false]) (by simp [results,Tryz.results161,go_sem, *]) rfl ⟨?_,.inr ⟨HH.out,rfl⟩⟩;exact Below.alloc (set_below (Nat.le_refl _) (set_below (Nat.le_refl _) (set_below (Nat.le_refl _) (set_below (Nat.le_refl _) (HB.out))))) (by simp [World.setCell];omega) _
 ·obtain ⟨x,hx,hn⟩:=hit_yes hh
  have hj : pl Kd.n xs t < len:=by have:=(List.getElem?_eq_some_iff.1 hx).1;omega
  obtain ⟨b,o,y,rfl,hbl,hy,hat⟩:=kd_at HR.out hj;rw [hx] at hy;obtain rfl:=Option.some.inj hy;obtain ⟨z0,z3,c0,c1,c2,c3⟩:=kd_cells hat;have hbw:=Nat.lt_of_lt_of_le hbl HRW.out.size;have e0:=(cell_below hb1 hbw).trans ((cell_below HRW.out hbl).trans c0);have e1:=(cell_below hb1 hbw).trans ((cell_below HRW.out hbl).trans c1);have e2:=(cell_below hb1 hbw).trans ((cell_below HRW.out hbl).trans c2);have e3:=(cell_below hb1 hbw).trans ((cell_below HRW.out hbl).trans c3);have HI : Hid (Fndkd xs t r w (.returned (.tuple #[.agg #[.string x.n,.bool x.x,.bool x.y,.string x.z],.bool true])) w):=⟨Below.refl _ _,.inl ⟨hh,x,hx,hn,rfl,z0,z3⟩⟩;clear c0 c1 c2 c3 hat hx hn hy hh z0 z3 HR HRW hb1;obtain ⟨j,hjj⟩ : ∃ j,pl Kd.n xs t = j:=⟨_,rfl⟩;rw [hjj] at hj;simp only [hjj] at *;clear hjj
  go_wp2
  refine bodyPost_ret (v:=.tuple #[.agg #[.string x.n,.bool x.x,.bool x.y,.string x.z],.bool true]) (by simp [results,Tryz.results161,go_sem, *]) rfl ⟨?_,HI.out.2⟩;exact set_below (Nat.le_refl _) (set_below (Nat.le_refl _) (set_below (Nat.le_refl _) (set_below (Nat.le_refl _) (HB.out))))

theorem thekd_any (d : Ad) (now : Int) (xs : List Kd) (t : ByteArray) (r w : World) (hr : RRow r d.a2 d.l2 d.c2 4 (xs.map kdF)) (hrw : Below r.heap.size r w) :
  Calls Tryz.prog 157 #[.agg #[.slice d.a1 d.l1 d.c1,.slice d.a2 d.l2 d.c2,.slice d.a3 d.l3 d.c3,.slice d.a4 d.l4 d.c4,.slice d.a5 d.l5 d.c5,.int .i64 now],.string t] w (Fndkd xs t r w):=by
 have HR:=hidK hr;have HRW:=hidK (hrw.trans ((below2 w (.cells #[.slice d.a1 d.l1 d.c1,.slice d.a2 d.l2 d.c2,.slice d.a3 d.l3 d.c3,.slice d.a4 d.l4 d.c4,.slice d.a5 d.l5 d.c5,.int .i64 now] 36) (.cells #[.string ⟨#[]⟩,.bool false,.bool false,.string ⟨#[]⟩] 106)).mono hrw.size));clear hr hrw
 go_enter Tryz.func157,Tryz.ntmps157
 go_wp2_with fail;refine (findkd_any _ _ _ xs t r _ HR.out HRW.out).mono ?_;rintro e w1 ⟨hb,hf⟩;have g1:=(hb.block (w.heap.size + 1) (by simp)).trans (heap2_1 _ _ _);have d0:=ck0 g1;have f0:=froK g1 0;have d1:=ck1 g1;have f1:=froK g1 1;have d2:=ck2 g1;have f2:=froK g1 2;have d3:=ck3 g1;have f3:=froK g1 3;have HB : Hid (Below w.heap.size w w1):=(below2 _ _ _).trans (hb.mono (by simp;omega));clear g1 hb HR HRW
 rcases hf with ⟨hh,x,hx,hn,rfl,z0,z3⟩ | ⟨hh,rfl⟩
 ·have HI : Hid (Fndkd xs t r w (.returned (.tuple #[.agg #[.string x.n,.bool x.x,.bool x.y,.string x.z],.bool true])) w):=⟨Below.refl _ _,.inl ⟨hh,x,hx,hn,rfl,z0,z3⟩⟩;clear hx hn hh z0 z3
  go_wp2
  refine bodyPost_ret (v:=.tuple #[.agg #[.string x.n,.bool x.x,.bool x.y,.string x.z],.bool true]) (by simp [results,Tryz.results157,go_sem, *]) rfl ⟨?_,HI.out.2⟩;exact set_below (Nat.le_succ _) (set_below (Nat.le_succ _) (set_below (Nat.le_succ _) (set_below (Nat.le_succ _) (HB.out))))
 ·have HH:=hidK hh;clear hh
  go_wp2
  refine bodyPost_ret (v:=.tuple #[.agg #[.string ⟨#[]⟩,.bool false,.bool false,.string ⟨#[]⟩],.bool false]) (by simp [results,Tryz.results157,go_sem, *]) rfl ⟨?_,.inr ⟨HH.out,rfl⟩⟩;exact set_below (Nat.le_succ _) (set_below (Nat.le_succ _) (set_below (Nat.le_succ _) (set_below (Nat.le_succ _) (HB.out))))

theorem rowrkd_any (a : Option Addr) (len cap : Nat) (xs : List Kd) (most : Int) (w : World) (hr : RRow w a len cap 4 (xs.map kdF)) :
  Calls Tryz.prog 141 #[.slice a len cap,.int .i64 most] w (BoolB (RowOk kdOk Kd.n xs most) w):=by
 have HR:=hidK hr
 have hxl : xs.length = len:=by simpa using hr.1
 have hlc:=Nat.le_trans hr.2.1 hr.2.2.1;clear hr
 have hmcalled : ∀ (v : Value) (w : World),(method 343 106 v "loop.example/g00571/impl.called").run Tryz.prog w = .ok (195,v) w:=fun _ _ => by kernel_rfl
 have hmright : ∀ (v : Value) (w : World),(method 343 106 v "loop.example/g00571/impl.right").run Tryz.prog w = .ok (196,v) w:=fun _ _ => by kernel_rfl
 by_cases hmo : most < (len : Int)
 ·go_enter Tryz.func141,Tryz.ntmps141
  go_wp2
  go_ret;exact BoolB.f (fun h => by have:=h.1;omega) (Below.refl _ _)
 go_enter Tryz.func141,Tryz.ntmps141
 go_wp2
 go_loopw [5,14] (fun q i wr => ∃ (k : Nat) (y : ByteArray),k ≤ len ∧ q = .string y ∧ i = .int .i64 k ∧ Hid (k = 0 → y = ⟨#[]⟩) ∧ Hid (∀ z,0 < k → xs[k - 1]? = some z → z.n = y) ∧ Hid (∀ (j : Nat) z,j < k → xs[j]? = some z → kdOk z) ∧ Hid (∀ (j : Nat) z u,j + 1 < k → xs[j + 1]? = some z → xs[j]? = some u → Op.bytesLess u.n.toList z.n.toList = true) ∧ Hid (Below w.heap.size w wr)) (fun _ i _ => len - (intOf i).toNat)
 case atStart => exact ⟨0,_,by omega,rfl,rfl,fun _ => rfl,fun _ h => absurd h (by omega),fun _ _ h => absurd h (by omega),fun _ _ _ h => absurd h (by omega),Below.refl _ _⟩
 case round =>
  obtain ⟨k,y,hk,rfl,rfl,H0,H1,HE,HO,HB⟩:=hrel
  by_cases hlt : k < len
  ·obtain ⟨b,o,x,rfl,hb,hx,hat⟩:=kd_at (HR.out.below HB.out) hlt;obtain ⟨z0,z3,c0,c1,c2,c3⟩:=kd_cells hat;have HX:=hidK hx;have HC:=hidK (fun v : World => calledkd_any x v);have HB1:=hidK (HB.out.alloc HB.out.size (.cells #[.string x.n,.bool x.x,.bool x.y,.string x.z] 106));have HRt:=hidK (rightkd_any x (wr.alloc (.cells #[.string x.n,.bool x.x,.bool x.y,.string x.z] 106)) z0 z3);clear hat hx z0 z3;go_wp2_with fail;refine HRt.out.mono ?_;rintro e w1 ⟨r,rfl,hrt,hb1⟩;obtain ⟨g1,-,-⟩:=slotK hb1;have hs1:=hb1.size;rw [show (wr.alloc (.cells #[.string x.n,.bool x.x,.bool x.y,.string x.z] 106)).heap.size = wr.heap.size + 1 from by simp] at hs1;have HB2:=upB HB1 hb1;have d0:=ck0 g1;have d1:=ck1 g1;have d2:=ck2 g1;have d3:=ck3 g1;have HG:=hidK g1;have HI:=hidK hrt;clear g1 hb1 HB1 HRt hrt c0 c1 c2 c3
   cases r
   ·go_wp2
    go_ret;exact BoolB.f (fun h => by have:=HI.out.2 (h.2.1 k x HX.out);cases this) HB2.out
   have HOK:=hidK (HI.out.1 rfl);clear HI;go_wp2_with fail;refine (HC.out _).mono ?_;rintro e w2 ⟨rfl,hb2⟩;have HB3:=hidK (HB2.out.trans (hb2.mono (Nat.le_trans HB.out.size (Nat.le_trans (Nat.le_succ _) hs1))));have g2:=(hb2.block wr.heap.size (by omega)).trans HG.out;have hs2:=hb2.size;have htri:=less_tri y.toList x.n.toList;clear HG hb2 HB2 d0 d1 d2 d3;have d0:=ck0 g2;have d1:=ck1 g2;have d2:=ck2 g2;have d3:=ck3 g2;clear g2
   cases hless : Op.bytesLess y.toList x.n.toList
   ·rw [hless] at htri
    go_wp2
    go_ret;refine BoolB.f (fun h => ?_) HB3.out
    by_cases hk0 : 0 < k
    ·have hz : xs[k - 1]? = some (xs[k - 1]'(by omega)):=List.getElem?_eq_getElem _;have h2:=H1.out _ hk0 hz;have h3:=h.2.2 (k - 1) x _ (by rw [Nat.sub_add_cancel hk0];exact HX.out) hz;rw [h2,hless] at h3
     cases h3
    ·have:=H0.out (by omega);subst this;have hnm:=HOK.out.1.1;rw [less_nil hnm] at hless
     cases hless
   ·rw [hless] at htri;go_wp2_with fail;refine (HC.out _).mono ?_;rintro e w3 ⟨rfl,hb3⟩;have HB4:=hidK (HB3.out.trans (hb3.mono (Nat.le_trans HB.out.size (by omega))));clear hb3 d0 d1 d2 d3;go_wp2_with fail;refine ⟨⟨k + 1,x.n,by omega,rfl,by go_num,fun h => absurd h (by omega),fun z _ hz => ?_,fun j z hj hz => ?_,fun j z u hj hz hu => ?_,HB4.out⟩,by simp [intOf];omega⟩
    ·rw [Nat.add_sub_cancel,HX.out] at hz;rw [Option.some.inj hz]
    ·by_cases e : j = k
     ·subst e;rw [HX.out] at hz;obtain rfl:=Option.some.inj hz;exact HOK.out
     ·exact HE.out j z (by omega) hz
    ·by_cases e : j + 1 = k
     ·subst e;rw [HX.out] at hz;obtain rfl:=Option.some.inj hz;have:=H1.out u (by omega) (by rw [Nat.add_sub_cancel];exact hu);rw [this];exact hless
     ·exact HO.out j z u (by omega) hz hu
  ·obtain rfl : k = len:=by omega
   go_wp2
   go_ret;refine BoolB.t ⟨by omega,fun j z hz => HE.out j z (by have:=(List.getElem?_eq_some_iff.1 hz).1;omega) hz,fun j z u hz hu => HO.out j z u (by have:=(List.getElem?_eq_some_iff.1 hz).1;omega) hz hu⟩ HB.out

def Sxkd (xs : List Kd) (t : ByteArray) (w : World) (e : Ending) (w' : World) : Prop :=
 Below w.heap.size w w' ∧ ((∃ (j : Nat) (x : Kd),xs[j]? = some x ∧ x.n = t ∧ e = .returned (.int .i64 j)) ∨ ((∀ (j : Nat) x,xs[j]? = some x → ¬ x.n = t) ∧ e = .returned (.int .i64 (-1))))

theorem sxkd_any (d : Ad) (now : Int) (xs : List Kd) (t : ByteArray) (w : World) (hr : RRow w d.a2 d.l2 d.c2 4 (xs.map kdF)) :
  Calls Tryz.prog 121 #[.agg #[.slice d.a1 d.l1 d.c1,.slice d.a2 d.l2 d.c2,.slice d.a3 d.l3 d.c3,.slice d.a4 d.l4 d.c4,.slice d.a5 d.l5 d.c5,.int .i64 now],.string t] w (Sxkd xs t w):=by
 have HR:=hidK hr
 have hxl : xs.length = d.l2:=by simpa using hr.1
 have hlc:=Nat.le_trans hr.2.1 hr.2.2.1;clear hr
 go_enter Tryz.func121,Tryz.ntmps121
 go_wp2
 go_loopw [5] (fun i wr => ∃ k : Nat,k ≤ d.l2 ∧ i = .int .i64 k ∧ wr = w.alloc (.cells #[.slice d.a1 d.l1 d.c1,.slice d.a2 d.l2 d.c2,.slice d.a3 d.l3 d.c3,.slice d.a4 d.l4 d.c4,.slice d.a5 d.l5 d.c5,.int .i64 now] 36) ∧ Hid (∀ (j : Nat) z,j < k → xs[j]? = some z → ¬ z.n = t)) (fun i _ => d.l2 - (intOf i).toNat)
 case atStart => exact ⟨0,by omega,rfl,rfl,fun _ _ h => absurd h (by omega)⟩
 case round =>
  obtain ⟨k,hk,rfl,rfl,HE⟩:=hrel
  by_cases hlt : k < d.l2
  ·obtain ⟨b,o,x,ha,hb,hx,hat⟩:=kd_at HR.out hlt;obtain ⟨-,-,c0,-,-,-⟩:=kd_cells hat;have HX:=hidK hx;clear hat hx
   by_cases hn : x.n = t
   ·have hq:=tl_yes hn;have HN:=hidK hn;clear hn
    go_wp2
    go_ret;exact ⟨below1 _ _,.inl ⟨k,x,HX.out,HN.out,rfl⟩⟩
   ·have hq:=tl_no hn;have HN:=hidK hn;clear hn
    go_wp2
    refine ⟨⟨k + 1,by omega,by go_num,by rw [ha],fun j z hj hz => ?_⟩,by simp [intOf];omega⟩
    by_cases e : j = k
    ·subst e;rw [HX.out] at hz;obtain rfl:=Option.some.inj hz;exact HN.out
    ·exact HE.out j z (by omega) hz
  ·obtain rfl : k = d.l2:=by omega
   go_wp2
   go_ret;exact ⟨below1 _ _,.inr ⟨fun j z hz => HE.out j z (by have:=(List.getElem?_eq_some_iff.1 hz).1;omega) hz,rfl⟩⟩

theorem calledvd_any (x : Vd) (va : Option Addr) (vl vc : Nat) (w : World) :
  Calls Tryz.prog 186 #[.agg #[.string x.n,.int .i64 x.c,.string x.z,.string x.k,.bool x.x,.string x.m,.bool x.y,.slice va vl vc]] w fun e w' => e = .returned (.string x.n) ∧ Below w.heap.size w w':=by
 go_enter Tryz.func186,Tryz.ntmps186
 go_wp2
 go_ret;exact ⟨rfl,below1 _ _⟩

theorem rightvd_any (x : Vd) (va : Option Addr) (vl vc : Nat) (w : World) (hn : x.n.size ≤ 9223372036854775807) (hz : x.z.size ≤ 9223372036854775807) (hk : x.k.size ≤ 9223372036854775807) (hm : x.m.size ≤ 9223372036854775807) (hr : TxRow w va vl vc x.zs) :
  Calls Tryz.prog 187 #[.agg #[.string x.n,.int .i64 x.c,.string x.z,.string x.k,.bool x.x,.string x.m,.bool x.y,.slice va vl vc]] w (BoolB (vdOk x) w):=by
 have HR:=hidK (hr.below (below1 w (.cells #[.string x.n,.int .i64 x.c,.string x.z,.string x.k,.bool x.x,.string x.m,.bool x.y,.slice va vl vc] 101)));clear hr
 go_enter Tryz.func187,Tryz.ntmps187
 go_wp2_with fail;refine (ivol_any x.n x.c x.z x.k x.x x.m x.y va vl vc x.zs _ hn hz hk hm HR.out).mono ?_;rintro e w1 ⟨r,rfl,hr1,hb⟩;have HB:=hidK (slotK hb).2.1;have HI:=hidK hr1;clear hb hr1
 go_wp2
 go_ret;exact ⟨r,rfl,HI.out,HB.out⟩

theorem placevd_any (a : Option Addr) (len cap : Nat) (xs : List Vd) (t : ByteArray) (w : World) (hr : RRow w a len cap 8 (xs.map vdF)) :
  Calls Tryz.prog 160 #[.slice a len cap,.string t] w fun e w' => e = .returned (.tuple #[.int .i64 (pl Vd.n xs t : Nat),.bool (hit Vd.n xs t)]) ∧ Below w.heap.size w w':=by
 have HR:=hidK hr
 have hxl : xs.length = len:=by simpa using hr.1
 have hlc:=Nat.le_trans hr.2.1 hr.2.2.1;clear hr
 have hmcalled : ∀ (v : Value) (w : World),(method 343 101 v "loop.example/g00571/impl.called").run Tryz.prog w = .ok (186,v) w:=fun _ _ => by kernel_rfl
 go_enter Tryz.func160,Tryz.ntmps160
 go_wp2
 go_loopw [10] (fun i wr => ∃ k : Nat,k ≤ len ∧ i = .int .i64 k ∧ Hid (∀ (j : Nat) y,j < k → xs[j]? = some y → Op.bytesLess y.n.toList t.toList = true) ∧ Hid (Below w.heap.size w wr)) (fun i _ => len - (intOf i).toNat)
 case atStart => exact ⟨0,by omega,rfl,fun j y hj => by omega,Below.refl _ _⟩
 case round =>
  obtain ⟨k,hk,rfl,HE,HB⟩:=hrel
  by_cases hlt : k < len
  ·obtain ⟨b,o,x,rfl,hb,hx,hat⟩:=vd_at (HR.out.below HB.out) hlt;obtain ⟨va,vl,vc,hvr,z0,z2,z3,z5,c0,c1,c2,c3,c4,c5,c6,c7⟩:=vd_cells hat;have HX:=hidK hx;clear hat hx z0 z2 z3 z5 hvr;have HC:=hidK (fun v : World => calledvd_any x va vl vc v);have HB1:=hidK (HB.out.alloc HB.out.size (.cells #[.string x.n,.int .i64 x.c,.string x.z,.string x.k,.bool x.x,.string x.m,.bool x.y,.slice va vl vc] 101));go_wp2_with fail;refine (HC.out _).mono ?_;rintro e w1 ⟨rfl,hb1⟩;obtain ⟨g1,-,-⟩:=slotK hb1;have hs1:=hb1.size;rw [show (wr.alloc (.cells #[.string x.n,.int .i64 x.c,.string x.z,.string x.k,.bool x.x,.string x.m,.bool x.y,.slice va vl vc] 101)).heap.size = wr.heap.size + 1 from by simp] at hs1;have HB2:=upB HB1 hb1;have d0:=ck0 g1;have d1:=ck1 g1;have d2:=ck2 g1;have d3:=ck3 g1;have d4:=ck4 g1;have d5:=ck5 g1;have d6:=ck6 g1;have d7:=ck7 g1;clear g1 hb1 c0 c1 c2 c3 c4 c5 c6 c7 HB1
   cases hless : Op.bytesLess x.n.toList t.toList
   ·go_wp2_with fail;refine (HC.out _).mono ?_;rintro e w2 ⟨rfl,hb2⟩;have HB3:=hidK (HB2.out.trans (hb2.mono (Nat.le_trans HB.out.size (Nat.le_trans (Nat.le_succ _) hs1))));have hp:=pl_at HE.out HX.out hless;clear hb2;go_wp2_with fail;refine bodyPost_ret (v:=.tuple #[.int .i64 k,.bool (x.n.toList == t.toList)]) (by simp [results,Tryz.results160,go_sem]) rfl ⟨?_,HB3.out⟩;unfold hit;rw [hp,HX.out]
   ·go_wp2_with fail;refine ⟨⟨k + 1,by omega,by go_num,fun j y hj hy => ?_,HB2.out⟩,by simp [intOf];omega⟩
    by_cases e : j = k
    ·subst e;rw [HX.out] at hy;obtain rfl:=Option.some.inj hy;exact hless
    ·exact HE.out j y (by omega) hy
  ·obtain rfl : k = len:=by omega
   have hp : pl Vd.n xs t = xs.length:=pl_end (fun j y hy => HE.out j y (by have:=(List.getElem?_eq_some_iff.1 hy).1;omega) hy)
   have hh : hit Vd.n xs t = false:=by unfold hit;rw [hp,List.getElem?_eq_none (Nat.le_refl _)]
   have HP:=hidK hp;have HH:=hidK hh;clear hp hh
   go_wp2
   exact bodyPost_ret (v:=.tuple #[.int .i64 k,.bool false]) (by simp [results,Tryz.results160,go_sem]) rfl ⟨by rw [HP.out,HH.out,hxl],HB.out⟩

def Fndvd (xs : List Vd) (t : ByteArray) (r w : World) (e : Ending) (w' : World) : Prop :=
 Below w.heap.size w w' ∧ ((hit Vd.n xs t = true ∧ ∃ (x : Vd) (va : Option Addr) (vl vc : Nat),xs[pl Vd.n xs t]? = some x ∧ x.n = t ∧ e = .returned (.tuple #[.agg #[.string x.n,.int .i64 x.c,.string x.z,.string x.k,.bool x.x,.string x.m,.bool x.y,.slice va vl vc],.bool true]) ∧ x.n.size ≤ 9223372036854775807 ∧ x.z.size ≤ 9223372036854775807 ∧ x.k.size ≤ 9223372036854775807 ∧ x.m.size ≤ 9223372036854775807 ∧ TxRow r va vl vc x.zs) ∨ (hit Vd.n xs t = false ∧ e = .returned (.tuple #[.agg #[.string ⟨#[]⟩,.int .i64 0,.string ⟨#[]⟩,.string ⟨#[]⟩,.bool false,.string ⟨#[]⟩,.bool false,.slice none 0 0],.bool false])))

theorem findvd_any (a : Option Addr) (len cap : Nat) (xs : List Vd) (t : ByteArray) (r w : World) (hr : RRow r a len cap 8 (xs.map vdF)) (hrw : Below r.heap.size r w) :
  Calls Tryz.prog 155 #[.slice a len cap,.string t] w (Fndvd xs t r w):=by
 have HR:=hidK hr;have HRW:=hidK hrw
 have hxl : xs.length = len:=by simpa using hr.1
 have HR1:=hidK ((hr.below hrw).below (below1 w (.cells #[.string ⟨#[]⟩,.int .i64 0,.string ⟨#[]⟩,.string ⟨#[]⟩,.bool false,.string ⟨#[]⟩,.bool false,.slice none 0 0] 101)));clear hr hrw
 go_enter Tryz.func155,Tryz.ntmps155
 go_wp2_with fail;refine (placevd_any a len cap xs t _ HR1.out).mono ?_;rintro e w1 ⟨rfl,hb⟩;obtain ⟨g1,hb1,-⟩:=slotK hb;have d0:=ck0 g1;have f0:=froK g1 0;have d1:=ck1 g1;have f1:=froK g1 1;have d2:=ck2 g1;have f2:=froK g1 2;have d3:=ck3 g1;have f3:=froK g1 3;have d4:=ck4 g1;have f4:=froK g1 4;have d5:=ck5 g1;have f5:=froK g1 5;have d6:=ck6 g1;have f6:=froK g1 6;have d7:=ck7 g1;have f7:=froK g1 7;have HB:=hidK hb1;have hs1:=hb.size;rw [show (w.alloc (.cells #[.string ⟨#[]⟩,.int .i64 0,.string ⟨#[]⟩,.string ⟨#[]⟩,.bool false,.string ⟨#[]⟩,.bool false,.slice none 0 0] 101)).heap.size = w.heap.size + 1 from by simp] at hs1
 have hlt1 : w.heap.size < w1.heap.size:=by omega
 clear hb g1 HR1 hs1
 cases hh : hit Vd.n xs t
 ·generalize pl Vd.n xs t = j
  have HH:=hidK hh;clear hh hb1 HR hxl
  go_wp2
  refine bodyPost_ret (v:=.tuple #[.agg #[.string ⟨#[]⟩,.int .i64 0,.string ⟨#[]⟩,.string ⟨#[]⟩,.bool false,.string ⟨#[]⟩,.bool false,.slice none 0 0],.bool false]) (by simp [results,Tryz.results155,go_sem, *]) rfl ⟨?_,.inr ⟨HH.out,rfl⟩⟩;exact Below.alloc (set_below (Nat.le_refl _) (set_below (Nat.le_refl _) (set_below (Nat.le_refl _) (set_below (Nat.le_refl _) (set_below (Nat.le_refl _) (set_below (Nat.le_refl _) (set_below (Nat.le_refl _) (set_below (Nat.le_refl _) (HB.out))))))))) (by simp [World.setCell];omega) _
 ·obtain ⟨x,hx,hn⟩:=hit_yes hh
  have hj : pl Vd.n xs t < len:=by have:=(List.getElem?_eq_some_iff.1 hx).1;omega
  obtain ⟨b,o,y,rfl,hbl,hy,hat⟩:=vd_at HR.out hj;rw [hx] at hy;obtain rfl:=Option.some.inj hy;obtain ⟨va,vl,vc,hvr,z0,z2,z3,z5,c0,c1,c2,c3,c4,c5,c6,c7⟩:=vd_cells hat;have hbw:=Nat.lt_of_lt_of_le hbl HRW.out.size;have e0:=(cell_below hb1 hbw).trans ((cell_below HRW.out hbl).trans c0);have e1:=(cell_below hb1 hbw).trans ((cell_below HRW.out hbl).trans c1);have e2:=(cell_below hb1 hbw).trans ((cell_below HRW.out hbl).trans c2);have e3:=(cell_below hb1 hbw).trans ((cell_below HRW.out hbl).trans c3);have e4:=(cell_below hb1 hbw).trans ((cell_below HRW.out hbl).trans c4);have e5:=(cell_below hb1 hbw).trans ((cell_below HRW.out hbl).trans c5);have e6:=(cell_below hb1 hbw).trans ((cell_below HRW.out hbl).trans c6);have e7:=(cell_below hb1 hbw).trans ((cell_below HRW.out hbl).trans c7);have HI : Hid (Fndvd xs t r w (.returned (.tuple #[.agg #[.string x.n,.int .i64 x.c,.string x.z,.string x.k,.bool x.x,.string x.m,.bool x.y,.slice va vl vc],.bool true])) w):=⟨Below.refl _ _,.inl ⟨hh,x,va,vl,vc,hx,hn,rfl,z0,z2,z3,z5,hvr⟩⟩;clear c0 c1 c2 c3 c4 c5 c6 c7 hat hx hn hy hh z0 z2 z3 z5 hvr HR HRW hb1;obtain ⟨j,hjj⟩ : ∃ j,pl Vd.n xs t = j:=⟨_,rfl⟩;rw [hjj] at hj;simp only [hjj] at *;clear hjj
  go_wp2
  refine bodyPost_ret (v:=.tuple #[.agg #[.string x.n,.int .i64 x.c,.string x.z,.string x.k,.bool x.x,.string x.m,.bool x.y,.slice va vl vc],.bool true]) (by simp [results,Tryz.results155,go_sem, *]) rfl ⟨?_,HI.out.2⟩;exact set_below (Nat.le_refl _) (set_below (Nat.le_refl _) (set_below (Nat.le_refl _) (set_below (Nat.le_refl _) (set_below (Nat.le_refl _) (set_below (Nat.le_refl _) (set_below (Nat.le_refl _) (set_below (Nat.le_refl _) (HB.out))))))))

theorem thevd_any (d : Ad) (now : Int) (xs : List Vd) (t : ByteArray) (r w : World) (hr : RRow r d.a3 d.l3 d.c3 8 (xs.map vdF)) (hrw : Below r.heap.size r w) :
  Calls Tryz.prog 133 #[.agg #[.slice d.a1 d.l1 d.c1,.slice d.a2 d.l2 d.c2,.slice d.a3 d.l3 d.c3,.slice d.a4 d.l4 d.c4,.slice d.a5 d.l5 d.c5,.int .i64 now],.string t] w (Fndvd xs t r w):=by
 have HR:=hidK hr;have HRW:=hidK (hrw.trans ((below2 w (.cells #[.slice d.a1 d.l1 d.c1,.slice d.a2 d.l2 d.c2,.slice d.a3 d.l3 d.c3,.slice d.a4 d.l4 d.c4,.slice d.a5 d.l5 d.c5,.int .i64 now] 36) (.cells #[.string ⟨#[]⟩,.int .i64 0,.string ⟨#[]⟩,.string ⟨#[]⟩,.bool false,.string ⟨#[]⟩,.bool false,.slice none 0 0] 101)).mono hrw.size));clear hr hrw
 go_enter Tryz.func133,Tryz.ntmps133
 go_wp2_with fail;refine (findvd_any _ _ _ xs t r _ HR.out HRW.out).mono ?_;rintro e w1 ⟨hb,hf⟩;have g1:=(hb.block (w.heap.size + 1) (by simp)).trans (heap2_1 _ _ _);have d0:=ck0 g1;have f0:=froK g1 0;have d1:=ck1 g1;have f1:=froK g1 1;have d2:=ck2 g1;have f2:=froK g1 2;have d3:=ck3 g1;have f3:=froK g1 3;have d4:=ck4 g1;have f4:=froK g1 4;have d5:=ck5 g1;have f5:=froK g1 5;have d6:=ck6 g1;have f6:=froK g1 6;have d7:=ck7 g1;have f7:=froK g1 7;have HB : Hid (Below w.heap.size w w1):=(below2 _ _ _).trans (hb.mono (by simp;omega));clear g1 hb HR HRW
 rcases hf with ⟨hh,x,va,vl,vc,hx,hn,rfl,z0,z2,z3,z5,hvr⟩ | ⟨hh,rfl⟩
 ·have HI : Hid (Fndvd xs t r w (.returned (.tuple #[.agg #[.string x.n,.int .i64 x.c,.string x.z,.string x.k,.bool x.x,.string x.m,.bool x.y,.slice va vl vc],.bool true])) w):=⟨Below.refl _ _,.inl ⟨hh,x,va,vl,vc,hx,hn,rfl,z0,z2,z3,z5,hvr⟩⟩;clear hx hn hh z0 z2 z3 z5 hvr
  go_wp2
  refine bodyPost_ret (v:=.tuple #[.agg #[.string x.n,.int .i64 x.c,.string x.z,.string x.k,.bool x.x,.string x.m,.bool x.y,.slice va vl vc],.bool true]) (by simp [results,Tryz.results133,go_sem, *]) rfl ⟨?_,HI.out.2⟩;exact set_below (Nat.le_succ _) (set_below (Nat.le_succ _) (set_below (Nat.le_succ _) (set_below (Nat.le_succ _) (set_below (Nat.le_succ _) (set_below (Nat.le_succ _) (set_below (Nat.le_succ _) (set_below (Nat.le_succ _) (HB.out))))))))
 ·have HH:=hidK hh;clear hh
  go_wp2
  refine bodyPost_ret (v:=.tuple #[.agg #[.string ⟨#[]⟩,.int .i64 0,.string ⟨#[]⟩,.string ⟨#[]⟩,.bool false,.string ⟨#[]⟩,.bool false,.slice none 0 0],.bool false]) (by simp [results,Tryz.results133,go_sem, *]) rfl ⟨?_,.inr ⟨HH.out,rfl⟩⟩;exact set_below (Nat.le_succ _) (set_below (Nat.le_succ _) (set_below (Nat.le_succ _) (set_below (Nat.le_succ _) (set_below (Nat.le_succ _) (set_below (Nat.le_succ _) (set_below (Nat.le_succ _) (set_below (Nat.le_succ _) (HB.out))))))))

theorem rowrvd_any (a : Option Addr) (len cap : Nat) (xs : List Vd) (most : Int) (w : World) (hr : RRow w a len cap 8 (xs.map vdF)) :
  Calls Tryz.prog 142 #[.slice a len cap,.int .i64 most] w (BoolB (RowOk vdOk Vd.n xs most) w):=by
 have HR:=hidK hr
 have hxl : xs.length = len:=by simpa using hr.1
 have hlc:=Nat.le_trans hr.2.1 hr.2.2.1;clear hr
 have hmcalled : ∀ (v : Value) (w : World),(method 343 101 v "loop.example/g00571/impl.called").run Tryz.prog w = .ok (186,v) w:=fun _ _ => by kernel_rfl
 have hmright : ∀ (v : Value) (w : World),(method 343 101 v "loop.example/g00571/impl.right").run Tryz.prog w = .ok (187,v) w:=fun _ _ => by kernel_rfl
 by_cases hmo : most < (len : Int)
 ·go_enter Tryz.func142,Tryz.ntmps142
  go_wp2
  go_ret;exact BoolB.f (fun h => by have:=h.1;omega) (Below.refl _ _)
 go_enter Tryz.func142,Tryz.ntmps142
 go_wp2
 go_loopw [5,14] (fun q i wr => ∃ (k : Nat) (y : ByteArray),k ≤ len ∧ q = .string y ∧ i = .int .i64 k ∧ Hid (k = 0 → y = ⟨#[]⟩) ∧ Hid (∀ z,0 < k → xs[k - 1]? = some z → z.n = y) ∧ Hid (∀ (j : Nat) z,j < k → xs[j]? = some z → vdOk z) ∧ Hid (∀ (j : Nat) z u,j + 1 < k → xs[j + 1]? = some z → xs[j]? = some u → Op.bytesLess u.n.toList z.n.toList = true) ∧ Hid (Below w.heap.size w wr)) (fun _ i _ => len - (intOf i).toNat)
 case atStart => exact ⟨0,_,by omega,rfl,rfl,fun _ => rfl,fun _ h => absurd h (by omega),fun _ _ h => absurd h (by omega),fun _ _ _ h => absurd h (by omega),Below.refl _ _⟩
 case round =>
  obtain ⟨k,y,hk,rfl,rfl,H0,H1,HE,HO,HB⟩:=hrel
  by_cases hlt : k < len
  ·obtain ⟨b,o,x,rfl,hb,hx,hat⟩:=vd_at (HR.out.below HB.out) hlt;obtain ⟨va,vl,vc,hvr,z0,z2,z3,z5,c0,c1,c2,c3,c4,c5,c6,c7⟩:=vd_cells hat;have HX:=hidK hx;have HC:=hidK (fun v : World => calledvd_any x va vl vc v);have HB1:=hidK (HB.out.alloc HB.out.size (.cells #[.string x.n,.int .i64 x.c,.string x.z,.string x.k,.bool x.x,.string x.m,.bool x.y,.slice va vl vc] 101));have HRt:=hidK (rightvd_any x va vl vc (wr.alloc (.cells #[.string x.n,.int .i64 x.c,.string x.z,.string x.k,.bool x.x,.string x.m,.bool x.y,.slice va vl vc] 101)) z0 z2 z3 z5 (hvr.below (below1 _ _)));clear hat hx z0 z2 z3 z5 hvr;go_wp2_with fail;refine HRt.out.mono ?_;rintro e w1 ⟨r,rfl,hrt,hb1⟩;obtain ⟨g1,-,-⟩:=slotK hb1;have hs1:=hb1.size;rw [show (wr.alloc (.cells #[.string x.n,.int .i64 x.c,.string x.z,.string x.k,.bool x.x,.string x.m,.bool x.y,.slice va vl vc] 101)).heap.size = wr.heap.size + 1 from by simp] at hs1;have HB2:=upB HB1 hb1;have d0:=ck0 g1;have d1:=ck1 g1;have d2:=ck2 g1;have d3:=ck3 g1;have d4:=ck4 g1;have d5:=ck5 g1;have d6:=ck6 g1;have d7:=ck7 g1;have HG:=hidK g1;have HI:=hidK hrt;clear g1 hb1 HB1 HRt hrt c0 c1 c2 c3 c4 c5 c6 c7
   cases r
   ·go_wp2
    go_ret;exact BoolB.f (fun h => by have:=HI.out.2 (h.2.1 k x HX.out);cases this) HB2.out
   have HOK:=hidK (HI.out.1 rfl);clear HI;go_wp2_with fail;refine (HC.out _).mono ?_;rintro e w2 ⟨rfl,hb2⟩;have HB3:=hidK (HB2.out.trans (hb2.mono (Nat.le_trans HB.out.size (Nat.le_trans (Nat.le_succ _) hs1))));have g2:=(hb2.block wr.heap.size (by omega)).trans HG.out;have hs2:=hb2.size;have htri:=less_tri y.toList x.n.toList;clear HG hb2 HB2 d0 d1 d2 d3 d4 d5 d6 d7;have d0:=ck0 g2;have d1:=ck1 g2;have d2:=ck2 g2;have d3:=ck3 g2;have d4:=ck4 g2;have d5:=ck5 g2;have d6:=ck6 g2;have d7:=ck7 g2;clear g2
   cases hless : Op.bytesLess y.toList x.n.toList
   ·rw [hless] at htri
    go_wp2
    go_ret;refine BoolB.f (fun h => ?_) HB3.out
    by_cases hk0 : 0 < k
    ·have hz : xs[k - 1]? = some (xs[k - 1]'(by omega)):=List.getElem?_eq_getElem _;have h2:=H1.out _ hk0 hz;have h3:=h.2.2 (k - 1) x _ (by rw [Nat.sub_add_cancel hk0];exact HX.out) hz;rw [h2,hless] at h3
     cases h3
    ·have:=H0.out (by omega);subst this;have hnm:=HOK.out.1.1;rw [less_nil hnm] at hless
     cases hless
   ·rw [hless] at htri;go_wp2_with fail;refine (HC.out _).mono ?_;rintro e w3 ⟨rfl,hb3⟩;have HB4:=hidK (HB3.out.trans (hb3.mono (Nat.le_trans HB.out.size (by omega))));clear hb3 d0 d1 d2 d3 d4 d5 d6 d7;go_wp2_with fail;refine ⟨⟨k + 1,x.n,by omega,rfl,by go_num,fun h => absurd h (by omega),fun z _ hz => ?_,fun j z hj hz => ?_,fun j z u hj hz hu => ?_,HB4.out⟩,by simp [intOf];omega⟩
    ·rw [Nat.add_sub_cancel,HX.out] at hz;rw [Option.some.inj hz]
    ·by_cases e : j = k
     ·subst e;rw [HX.out] at hz;obtain rfl:=Option.some.inj hz;exact HOK.out
     ·exact HE.out j z (by omega) hz
    ·by_cases e : j + 1 = k
     ·subst e;rw [HX.out] at hz;obtain rfl:=Option.some.inj hz;have:=H1.out u (by omega) (by rw [Nat.add_sub_cancel];exact hu);rw [this];exact hless
     ·exact HO.out j z u (by omega) hz hu
  ·obtain rfl : k = len:=by omega
   go_wp2
   go_ret;refine BoolB.t ⟨by omega,fun j z hz => HE.out j z (by have:=(List.getElem?_eq_some_iff.1 hz).1;omega) hz,fun j z u hz hu => HO.out j z u (by have:=(List.getElem?_eq_some_iff.1 hz).1;omega) hz hu⟩ HB.out

def Sxvd (xs : List Vd) (t : ByteArray) (w : World) (e : Ending) (w' : World) : Prop :=
 Below w.heap.size w w' ∧ ((∃ (j : Nat) (x : Vd),xs[j]? = some x ∧ x.n = t ∧ e = .returned (.int .i64 j)) ∨ ((∀ (j : Nat) x,xs[j]? = some x → ¬ x.n = t) ∧ e = .returned (.int .i64 (-1))))

theorem sxvd_any (d : Ad) (now : Int) (xs : List Vd) (t : ByteArray) (w : World) (hr : RRow w d.a3 d.l3 d.c3 8 (xs.map vdF)) :
  Calls Tryz.prog 106 #[.agg #[.slice d.a1 d.l1 d.c1,.slice d.a2 d.l2 d.c2,.slice d.a3 d.l3 d.c3,.slice d.a4 d.l4 d.c4,.slice d.a5 d.l5 d.c5,.int .i64 now],.string t] w (Sxvd xs t w):=by
 have HR:=hidK hr
 have hxl : xs.length = d.l3:=by simpa using hr.1
 have hlc:=Nat.le_trans hr.2.1 hr.2.2.1;clear hr
 go_enter Tryz.func106,Tryz.ntmps106
 go_wp2
 go_loopw [5] (fun i wr => ∃ k : Nat,k ≤ d.l3 ∧ i = .int .i64 k ∧ wr = w.alloc (.cells #[.slice d.a1 d.l1 d.c1,.slice d.a2 d.l2 d.c2,.slice d.a3 d.l3 d.c3,.slice d.a4 d.l4 d.c4,.slice d.a5 d.l5 d.c5,.int .i64 now] 36) ∧ Hid (∀ (j : Nat) z,j < k → xs[j]? = some z → ¬ z.n = t)) (fun i _ => d.l3 - (intOf i).toNat)
 case atStart => exact ⟨0,by omega,rfl,rfl,fun _ _ h => absurd h (by omega)⟩
 case round =>
  obtain ⟨k,hk,rfl,rfl,HE⟩:=hrel
  by_cases hlt : k < d.l3
  ·obtain ⟨b,o,x,ha,hb,hx,hat⟩:=vd_at HR.out hlt;obtain ⟨va,vl,vc,hvr,-,-,-,-,c0,-,-,-,-,-,-,-⟩:=vd_cells hat;have HX:=hidK hx;clear hat hx hvr
   by_cases hn : x.n = t
   ·have hq:=tl_yes hn;have HN:=hidK hn;clear hn
    go_wp2
    go_ret;exact ⟨below1 _ _,.inl ⟨k,x,HX.out,HN.out,rfl⟩⟩
   ·have hq:=tl_no hn;have HN:=hidK hn;clear hn
    go_wp2
    refine ⟨⟨k + 1,by omega,by go_num,by rw [ha],fun j z hj hz => ?_⟩,by simp [intOf];omega⟩
    by_cases e : j = k
    ·subst e;rw [HX.out] at hz;obtain rfl:=Option.some.inj hz;exact HN.out
    ·exact HE.out j z (by omega) hz
  ·obtain rfl : k = d.l3:=by omega
   go_wp2
   go_ret;exact ⟨below1 _ _,.inr ⟨fun j z hz => HE.out j z (by have:=(List.getElem?_eq_some_iff.1 hz).1;omega) hz,rfl⟩⟩

theorem calledxd_any (x : Xd)  (w : World) :
  Calls Tryz.prog 198 #[.agg #[.string x.n,.int .i64 x.z,.string x.k,.bool x.x,.string x.v]] w fun e w' => e = .returned (.string x.n) ∧ Below w.heap.size w w':=by
 go_enter Tryz.func198,Tryz.ntmps198
 go_wp2
 go_ret;exact ⟨rfl,below1 _ _⟩

theorem rightxd_any (x : Xd)  (w : World) (hn : x.n.size ≤ 9223372036854775807) (hk : x.k.size ≤ 9223372036854775807) (hv : x.v.size ≤ 9223372036854775807) :
  Calls Tryz.prog 199 #[.agg #[.string x.n,.int .i64 x.z,.string x.k,.bool x.x,.string x.v]] w (BoolB (xdOk x) w):=by
 skip
 skip
 go_enter Tryz.func199,Tryz.ntmps199
 go_wp2_with fail;refine (iclaim_any x.n x.z x.k x.x x.v _ hn hk hv).mono ?_;rintro e w1 ⟨r,rfl,hr1,hb⟩;have HB:=hidK (slotK hb).2.1;have HI:=hidK hr1;clear hb hr1
 go_wp2
 go_ret;exact ⟨r,rfl,HI.out,HB.out⟩

theorem placexd_any (a : Option Addr) (len cap : Nat) (xs : List Xd) (t : ByteArray) (w : World) (hr : RRow w a len cap 5 (xs.map xdF)) :
  Calls Tryz.prog 159 #[.slice a len cap,.string t] w fun e w' => e = .returned (.tuple #[.int .i64 (pl Xd.n xs t : Nat),.bool (hit Xd.n xs t)]) ∧ Below w.heap.size w w':=by
 have HR:=hidK hr
 have hxl : xs.length = len:=by simpa using hr.1
 have hlc:=Nat.le_trans hr.2.1 hr.2.2.1;clear hr
 have hmcalled : ∀ (v : Value) (w : World),(method 343 109 v "loop.example/g00571/impl.called").run Tryz.prog w = .ok (198,v) w:=fun _ _ => by kernel_rfl
 go_enter Tryz.func159,Tryz.ntmps159
 go_wp2
 go_loopw [10] (fun i wr => ∃ k : Nat,k ≤ len ∧ i = .int .i64 k ∧ Hid (∀ (j : Nat) y,j < k → xs[j]? = some y → Op.bytesLess y.n.toList t.toList = true) ∧ Hid (Below w.heap.size w wr)) (fun i _ => len - (intOf i).toNat)
 case atStart => exact ⟨0,by omega,rfl,fun j y hj => by omega,Below.refl _ _⟩
 case round =>
  obtain ⟨k,hk,rfl,HE,HB⟩:=hrel
  by_cases hlt : k < len
  ·obtain ⟨b,o,x,rfl,hb,hx,hat⟩:=xd_at (HR.out.below HB.out) hlt;obtain ⟨z0,z2,z4,c0,c1,c2,c3,c4⟩:=xd_cells hat;have HX:=hidK hx;clear hat hx z0 z2 z4;have HC:=hidK (fun v : World => calledxd_any x v);have HB1:=hidK (HB.out.alloc HB.out.size (.cells #[.string x.n,.int .i64 x.z,.string x.k,.bool x.x,.string x.v] 109));go_wp2_with fail;refine (HC.out _).mono ?_;rintro e w1 ⟨rfl,hb1⟩;obtain ⟨g1,-,-⟩:=slotK hb1;have hs1:=hb1.size;rw [show (wr.alloc (.cells #[.string x.n,.int .i64 x.z,.string x.k,.bool x.x,.string x.v] 109)).heap.size = wr.heap.size + 1 from by simp] at hs1;have HB2:=upB HB1 hb1;have d0:=ck0 g1;have d1:=ck1 g1;have d2:=ck2 g1;have d3:=ck3 g1;have d4:=ck4 g1;clear g1 hb1 c0 c1 c2 c3 c4 HB1
   cases hless : Op.bytesLess x.n.toList t.toList
   ·go_wp2_with fail;refine (HC.out _).mono ?_;rintro e w2 ⟨rfl,hb2⟩;have HB3:=hidK (HB2.out.trans (hb2.mono (Nat.le_trans HB.out.size (Nat.le_trans (Nat.le_succ _) hs1))));have hp:=pl_at HE.out HX.out hless;clear hb2;go_wp2_with fail;refine bodyPost_ret (v:=.tuple #[.int .i64 k,.bool (x.n.toList == t.toList)]) (by simp [results,Tryz.results159,go_sem]) rfl ⟨?_,HB3.out⟩;unfold hit;rw [hp,HX.out]
   ·go_wp2_with fail;refine ⟨⟨k + 1,by omega,by go_num,fun j y hj hy => ?_,HB2.out⟩,by simp [intOf];omega⟩
    by_cases e : j = k
    ·subst e;rw [HX.out] at hy;obtain rfl:=Option.some.inj hy;exact hless
    ·exact HE.out j y (by omega) hy
  ·obtain rfl : k = len:=by omega
   have hp : pl Xd.n xs t = xs.length:=pl_end (fun j y hy => HE.out j y (by have:=(List.getElem?_eq_some_iff.1 hy).1;omega) hy)
   have hh : hit Xd.n xs t = false:=by unfold hit;rw [hp,List.getElem?_eq_none (Nat.le_refl _)]
   have HP:=hidK hp;have HH:=hidK hh;clear hp hh
   go_wp2
   exact bodyPost_ret (v:=.tuple #[.int .i64 k,.bool false]) (by simp [results,Tryz.results159,go_sem]) rfl ⟨by rw [HP.out,HH.out,hxl],HB.out⟩

def Fndxd (xs : List Xd) (t : ByteArray) (_r w : World) (e : Ending) (w' : World) : Prop :=
 Below w.heap.size w w' ∧ ((hit Xd.n xs t = true ∧ ∃ (x : Xd),xs[pl Xd.n xs t]? = some x ∧ x.n = t ∧ e = .returned (.tuple #[.agg #[.string x.n,.int .i64 x.z,.string x.k,.bool x.x,.string x.v],.bool true]) ∧ x.n.size ≤ 9223372036854775807 ∧ x.k.size ≤ 9223372036854775807 ∧ x.v.size ≤ 9223372036854775807) ∨ (hit Xd.n xs t = false ∧ e = .returned (.tuple #[.agg #[.string ⟨#[]⟩,.int .i64 0,.string ⟨#[]⟩,.bool false,.string ⟨#[]⟩],.bool false])))

theorem findxd_any (a : Option Addr) (len cap : Nat) (xs : List Xd) (t : ByteArray) (r w : World) (hr : RRow r a len cap 5 (xs.map xdF)) (hrw : Below r.heap.size r w) :
  Calls Tryz.prog 154 #[.slice a len cap,.string t] w (Fndxd xs t r w):=by
 have HR:=hidK hr;have HRW:=hidK hrw
 have hxl : xs.length = len:=by simpa using hr.1
 have HR1:=hidK ((hr.below hrw).below (below1 w (.cells #[.string ⟨#[]⟩,.int .i64 0,.string ⟨#[]⟩,.bool false,.string ⟨#[]⟩] 109)));clear hr hrw
 go_enter Tryz.func154,Tryz.ntmps154
 go_wp2_with fail;refine (placexd_any a len cap xs t _ HR1.out).mono ?_;rintro e w1 ⟨rfl,hb⟩;obtain ⟨g1,hb1,-⟩:=slotK hb;have d0:=ck0 g1;have f0:=froK g1 0;have d1:=ck1 g1;have f1:=froK g1 1;have d2:=ck2 g1;have f2:=froK g1 2;have d3:=ck3 g1;have f3:=froK g1 3;have d4:=ck4 g1;have f4:=froK g1 4;have HB:=hidK hb1;have hs1:=hb.size;rw [show (w.alloc (.cells #[.string ⟨#[]⟩,.int .i64 0,.string ⟨#[]⟩,.bool false,.string ⟨#[]⟩] 109)).heap.size = w.heap.size + 1 from by simp] at hs1
 have hlt1 : w.heap.size < w1.heap.size:=by omega
 clear hb g1 HR1 hs1
 cases hh : hit Xd.n xs t
 ·generalize pl Xd.n xs t = j
  have HH:=hidK hh;clear hh hb1 HR hxl
  go_wp2
  refine bodyPost_ret (v:=.tuple #[.agg #[.string ⟨#[]⟩,.int .i64 0,.string ⟨#[]⟩,.bool false,.string ⟨#[]⟩],.bool false]) (by simp [results,Tryz.results154,go_sem, *]) rfl ⟨?_,.inr ⟨HH.out,rfl⟩⟩;exact Below.alloc (set_below (Nat.le_refl _) (set_below (Nat.le_refl _) (set_below (Nat.le_refl _) (set_below (Nat.le_refl _) (set_below (Nat.le_refl _) (HB.out)))))) (by simp [World.setCell];omega) _
 ·obtain ⟨x,hx,hn⟩:=hit_yes hh
  have hj : pl Xd.n xs t < len:=by have:=(List.getElem?_eq_some_iff.1 hx).1;omega
  obtain ⟨b,o,y,rfl,hbl,hy,hat⟩:=xd_at HR.out hj;rw [hx] at hy;obtain rfl:=Option.some.inj hy;obtain ⟨z0,z2,z4,c0,c1,c2,c3,c4⟩:=xd_cells hat;have hbw:=Nat.lt_of_lt_of_le hbl HRW.out.size;have e0:=(cell_below hb1 hbw).trans ((cell_below HRW.out hbl).trans c0);have e1:=(cell_below hb1 hbw).trans ((cell_below HRW.out hbl).trans c1);have e2:=(cell_below hb1 hbw).trans ((cell_below HRW.out hbl).trans c2);have e3:=(cell_below hb1 hbw).trans ((cell_below HRW.out hbl).trans c3);have e4:=(cell_below hb1 hbw).trans ((cell_below HRW.out hbl).trans c4);have HI : Hid (Fndxd xs t r w (.returned (.tuple #[.agg #[.string x.n,.int .i64 x.z,.string x.k,.bool x.x,.string x.v],.bool true])) w):=⟨Below.refl _ _,.inl ⟨hh,x,hx,hn,rfl,z0,z2,z4⟩⟩;clear c0 c1 c2 c3 c4 hat hx hn hy hh z0 z2 z4 HR HRW hb1;obtain ⟨j,hjj⟩ : ∃ j,pl Xd.n xs t = j:=⟨_,rfl⟩;rw [hjj] at hj;simp only [hjj] at *;clear hjj
  go_wp2
  refine bodyPost_ret (v:=.tuple #[.agg #[.string x.n,.int .i64 x.z,.string x.k,.bool x.x,.string x.v],.bool true]) (by simp [results,Tryz.results154,go_sem, *]) rfl ⟨?_,HI.out.2⟩;exact set_below (Nat.le_refl _) (set_below (Nat.le_refl _) (set_below (Nat.le_refl _) (set_below (Nat.le_refl _) (set_below (Nat.le_refl _) (HB.out)))))

theorem thexd_any (d : Ad) (now : Int) (xs : List Xd) (t : ByteArray) (r w : World) (hr : RRow r d.a4 d.l4 d.c4 5 (xs.map xdF)) (hrw : Below r.heap.size r w) :
  Calls Tryz.prog 132 #[.agg #[.slice d.a1 d.l1 d.c1,.slice d.a2 d.l2 d.c2,.slice d.a3 d.l3 d.c3,.slice d.a4 d.l4 d.c4,.slice d.a5 d.l5 d.c5,.int .i64 now],.string t] w (Fndxd xs t r w):=by
 have HR:=hidK hr;have HRW:=hidK (hrw.trans ((below2 w (.cells #[.slice d.a1 d.l1 d.c1,.slice d.a2 d.l2 d.c2,.slice d.a3 d.l3 d.c3,.slice d.a4 d.l4 d.c4,.slice d.a5 d.l5 d.c5,.int .i64 now] 36) (.cells #[.string ⟨#[]⟩,.int .i64 0,.string ⟨#[]⟩,.bool false,.string ⟨#[]⟩] 109)).mono hrw.size));clear hr hrw
 go_enter Tryz.func132,Tryz.ntmps132
 go_wp2_with fail;refine (findxd_any _ _ _ xs t r _ HR.out HRW.out).mono ?_;rintro e w1 ⟨hb,hf⟩;have g1:=(hb.block (w.heap.size + 1) (by simp)).trans (heap2_1 _ _ _);have d0:=ck0 g1;have f0:=froK g1 0;have d1:=ck1 g1;have f1:=froK g1 1;have d2:=ck2 g1;have f2:=froK g1 2;have d3:=ck3 g1;have f3:=froK g1 3;have d4:=ck4 g1;have f4:=froK g1 4;have HB : Hid (Below w.heap.size w w1):=(below2 _ _ _).trans (hb.mono (by simp;omega));clear g1 hb HR HRW
 rcases hf with ⟨hh,x,hx,hn,rfl,z0,z2,z4⟩ | ⟨hh,rfl⟩
 ·have HI : Hid (Fndxd xs t r w (.returned (.tuple #[.agg #[.string x.n,.int .i64 x.z,.string x.k,.bool x.x,.string x.v],.bool true])) w):=⟨Below.refl _ _,.inl ⟨hh,x,hx,hn,rfl,z0,z2,z4⟩⟩;clear hx hn hh z0 z2 z4
  go_wp2
  refine bodyPost_ret (v:=.tuple #[.agg #[.string x.n,.int .i64 x.z,.string x.k,.bool x.x,.string x.v],.bool true]) (by simp [results,Tryz.results132,go_sem, *]) rfl ⟨?_,HI.out.2⟩;exact set_below (Nat.le_succ _) (set_below (Nat.le_succ _) (set_below (Nat.le_succ _) (set_below (Nat.le_succ _) (set_below (Nat.le_succ _) (HB.out)))))
 ·have HH:=hidK hh;clear hh
  go_wp2
  refine bodyPost_ret (v:=.tuple #[.agg #[.string ⟨#[]⟩,.int .i64 0,.string ⟨#[]⟩,.bool false,.string ⟨#[]⟩],.bool false]) (by simp [results,Tryz.results132,go_sem, *]) rfl ⟨?_,.inr ⟨HH.out,rfl⟩⟩;exact set_below (Nat.le_succ _) (set_below (Nat.le_succ _) (set_below (Nat.le_succ _) (set_below (Nat.le_succ _) (set_below (Nat.le_succ _) (HB.out)))))

theorem rowrxd_any (a : Option Addr) (len cap : Nat) (xs : List Xd) (most : Int) (w : World) (hr : RRow w a len cap 5 (xs.map xdF)) :
  Calls Tryz.prog 143 #[.slice a len cap,.int .i64 most] w (BoolB (RowOk xdOk Xd.n xs most) w):=by
 have HR:=hidK hr
 have hxl : xs.length = len:=by simpa using hr.1
 have hlc:=Nat.le_trans hr.2.1 hr.2.2.1;clear hr
 have hmcalled : ∀ (v : Value) (w : World),(method 343 109 v "loop.example/g00571/impl.called").run Tryz.prog w = .ok (198,v) w:=fun _ _ => by kernel_rfl
 have hmright : ∀ (v : Value) (w : World),(method 343 109 v "loop.example/g00571/impl.right").run Tryz.prog w = .ok (199,v) w:=fun _ _ => by kernel_rfl
 by_cases hmo : most < (len : Int)
 ·go_enter Tryz.func143,Tryz.ntmps143
  go_wp2
  go_ret;exact BoolB.f (fun h => by have:=h.1;omega) (Below.refl _ _)
 go_enter Tryz.func143,Tryz.ntmps143
 go_wp2
 go_loopw [5,14] (fun q i wr => ∃ (k : Nat) (y : ByteArray),k ≤ len ∧ q = .string y ∧ i = .int .i64 k ∧ Hid (k = 0 → y = ⟨#[]⟩) ∧ Hid (∀ z,0 < k → xs[k - 1]? = some z → z.n = y) ∧ Hid (∀ (j : Nat) z,j < k → xs[j]? = some z → xdOk z) ∧ Hid (∀ (j : Nat) z u,j + 1 < k → xs[j + 1]? = some z → xs[j]? = some u → Op.bytesLess u.n.toList z.n.toList = true) ∧ Hid (Below w.heap.size w wr)) (fun _ i _ => len - (intOf i).toNat)
 case atStart => exact ⟨0,_,by omega,rfl,rfl,fun _ => rfl,fun _ h => absurd h (by omega),fun _ _ h => absurd h (by omega),fun _ _ _ h => absurd h (by omega),Below.refl _ _⟩
 case round =>
  obtain ⟨k,y,hk,rfl,rfl,H0,H1,HE,HO,HB⟩:=hrel
  by_cases hlt : k < len
  ·obtain ⟨b,o,x,rfl,hb,hx,hat⟩:=xd_at (HR.out.below HB.out) hlt;obtain ⟨z0,z2,z4,c0,c1,c2,c3,c4⟩:=xd_cells hat;have HX:=hidK hx;have HC:=hidK (fun v : World => calledxd_any x v);have HB1:=hidK (HB.out.alloc HB.out.size (.cells #[.string x.n,.int .i64 x.z,.string x.k,.bool x.x,.string x.v] 109));have HRt:=hidK (rightxd_any x (wr.alloc (.cells #[.string x.n,.int .i64 x.z,.string x.k,.bool x.x,.string x.v] 109)) z0 z2 z4);clear hat hx z0 z2 z4;go_wp2_with fail;refine HRt.out.mono ?_;rintro e w1 ⟨r,rfl,hrt,hb1⟩;obtain ⟨g1,-,-⟩:=slotK hb1;have hs1:=hb1.size;rw [show (wr.alloc (.cells #[.string x.n,.int .i64 x.z,.string x.k,.bool x.x,.string x.v] 109)).heap.size = wr.heap.size + 1 from by simp] at hs1;have HB2:=upB HB1 hb1;have d0:=ck0 g1;have d1:=ck1 g1;have d2:=ck2 g1;have d3:=ck3 g1;have d4:=ck4 g1;have HG:=hidK g1;have HI:=hidK hrt;clear g1 hb1 HB1 HRt hrt c0 c1 c2 c3 c4
   cases r
   ·go_wp2
    go_ret;exact BoolB.f (fun h => by have:=HI.out.2 (h.2.1 k x HX.out);cases this) HB2.out
   have HOK:=hidK (HI.out.1 rfl);clear HI;go_wp2_with fail;refine (HC.out _).mono ?_;rintro e w2 ⟨rfl,hb2⟩;have HB3:=hidK (HB2.out.trans (hb2.mono (Nat.le_trans HB.out.size (Nat.le_trans (Nat.le_succ _) hs1))));have g2:=(hb2.block wr.heap.size (by omega)).trans HG.out;have hs2:=hb2.size;have htri:=less_tri y.toList x.n.toList;clear HG hb2 HB2 d0 d1 d2 d3 d4;have d0:=ck0 g2;have d1:=ck1 g2;have d2:=ck2 g2;have d3:=ck3 g2;have d4:=ck4 g2;clear g2
   cases hless : Op.bytesLess y.toList x.n.toList
   ·rw [hless] at htri
    go_wp2
    go_ret;refine BoolB.f (fun h => ?_) HB3.out
    by_cases hk0 : 0 < k
    ·have hz : xs[k - 1]? = some (xs[k - 1]'(by omega)):=List.getElem?_eq_getElem _;have h2:=H1.out _ hk0 hz;have h3:=h.2.2 (k - 1) x _ (by rw [Nat.sub_add_cancel hk0];exact HX.out) hz;rw [h2,hless] at h3
     cases h3
    ·have:=H0.out (by omega);subst this;have hnm:=HOK.out.1.1;rw [less_nil hnm] at hless
     cases hless
   ·rw [hless] at htri;go_wp2_with fail;refine (HC.out _).mono ?_;rintro e w3 ⟨rfl,hb3⟩;have HB4:=hidK (HB3.out.trans (hb3.mono (Nat.le_trans HB.out.size (by omega))));clear hb3 d0 d1 d2 d3 d4;go_wp2_with fail;refine ⟨⟨k + 1,x.n,by omega,rfl,by go_num,fun h => absurd h (by omega),fun z _ hz => ?_,fun j z hj hz => ?_,fun j z u hj hz hu => ?_,HB4.out⟩,by simp [intOf];omega⟩
    ·rw [Nat.add_sub_cancel,HX.out] at hz;rw [Option.some.inj hz]
    ·by_cases e : j = k
     ·subst e;rw [HX.out] at hz;obtain rfl:=Option.some.inj hz;exact HOK.out
     ·exact HE.out j z (by omega) hz
    ·by_cases e : j + 1 = k
     ·subst e;rw [HX.out] at hz;obtain rfl:=Option.some.inj hz;have:=H1.out u (by omega) (by rw [Nat.add_sub_cancel];exact hu);rw [this];exact hless
     ·exact HO.out j z u (by omega) hz hu
  ·obtain rfl : k = len:=by omega
   go_wp2
   go_ret;refine BoolB.t ⟨by omega,fun j z hz => HE.out j z (by have:=(List.getElem?_eq_some_iff.1 hz).1;omega) hz,fun j z u hz hu => HO.out j z u (by have:=(List.getElem?_eq_some_iff.1 hz).1;omega) hz hu⟩ HB.out

def Sxxd (xs : List Xd) (t : ByteArray) (w : World) (e : Ending) (w' : World) : Prop :=
 Below w.heap.size w w' ∧ ((∃ (j : Nat) (x : Xd),xs[j]? = some x ∧ x.n = t ∧ e = .returned (.int .i64 j)) ∨ ((∀ (j : Nat) x,xs[j]? = some x → ¬ x.n = t) ∧ e = .returned (.int .i64 (-1))))

theorem sxxd_any (d : Ad) (now : Int) (xs : List Xd) (t : ByteArray) (w : World) (hr : RRow w d.a4 d.l4 d.c4 5 (xs.map xdF)) :
  Calls Tryz.prog 105 #[.agg #[.slice d.a1 d.l1 d.c1,.slice d.a2 d.l2 d.c2,.slice d.a3 d.l3 d.c3,.slice d.a4 d.l4 d.c4,.slice d.a5 d.l5 d.c5,.int .i64 now],.string t] w (Sxxd xs t w):=by
 have HR:=hidK hr
 have hxl : xs.length = d.l4:=by simpa using hr.1
 have hlc:=Nat.le_trans hr.2.1 hr.2.2.1;clear hr
 go_enter Tryz.func105,Tryz.ntmps105
 go_wp2
 go_loopw [5] (fun i wr => ∃ k : Nat,k ≤ d.l4 ∧ i = .int .i64 k ∧ wr = w.alloc (.cells #[.slice d.a1 d.l1 d.c1,.slice d.a2 d.l2 d.c2,.slice d.a3 d.l3 d.c3,.slice d.a4 d.l4 d.c4,.slice d.a5 d.l5 d.c5,.int .i64 now] 36) ∧ Hid (∀ (j : Nat) z,j < k → xs[j]? = some z → ¬ z.n = t)) (fun i _ => d.l4 - (intOf i).toNat)
 case atStart => exact ⟨0,by omega,rfl,rfl,fun _ _ h => absurd h (by omega)⟩
 case round =>
  obtain ⟨k,hk,rfl,rfl,HE⟩:=hrel
  by_cases hlt : k < d.l4
  ·obtain ⟨b,o,x,ha,hb,hx,hat⟩:=xd_at HR.out hlt;obtain ⟨-,-,-,c0,-,-,-,-⟩:=xd_cells hat;have HX:=hidK hx;clear hat hx
   by_cases hn : x.n = t
   ·have hq:=tl_yes hn;have HN:=hidK hn;clear hn
    go_wp2
    go_ret;exact ⟨below1 _ _,.inl ⟨k,x,HX.out,HN.out,rfl⟩⟩
   ·have hq:=tl_no hn;have HN:=hidK hn;clear hn
    go_wp2
    refine ⟨⟨k + 1,by omega,by go_num,by rw [ha],fun j z hj hz => ?_⟩,by simp [intOf];omega⟩
    by_cases e : j = k
    ·subst e;rw [HX.out] at hz;obtain rfl:=Option.some.inj hz;exact HN.out
    ·exact HE.out j z (by omega) hz
  ·obtain rfl : k = d.l4:=by omega
   go_wp2
   go_ret;exact ⟨below1 _ _,.inr ⟨fun j z hz => HE.out j z (by have:=(List.getElem?_eq_some_iff.1 hz).1;omega) hz,rfl⟩⟩

theorem calledpd_any (x : Pd) (va : Option Addr) (vl vc : Nat) (w : World) :
  Calls Tryz.prog 191 #[.agg #[.string x.n,.int .i64 x.c,.string x.z,.slice va vl vc,.string x.d,.int .i64 x.p]] w fun e w' => e = .returned (.string x.n) ∧ Below w.heap.size w w':=by
 go_enter Tryz.func191,Tryz.ntmps191
 go_wp2
 go_ret;exact ⟨rfl,below1 _ _⟩

theorem rightpd_any (x : Pd) (va : Option Addr) (vl vc : Nat) (w : World) (hn : x.n.size ≤ 9223372036854775807) (hz : x.z.size ≤ 9223372036854775807) (hd : x.d.size ≤ 9223372036854775807) (hr : TxRow w va vl vc x.zs) :
  Calls Tryz.prog 192 #[.agg #[.string x.n,.int .i64 x.c,.string x.z,.slice va vl vc,.string x.d,.int .i64 x.p]] w (BoolB (pdOk x) w):=by
 have HR:=hidK (hr.below (below1 w (.cells #[.string x.n,.int .i64 x.c,.string x.z,.slice va vl vc,.string x.d,.int .i64 x.p] 103)));clear hr
 go_enter Tryz.func192,Tryz.ntmps192
 go_wp2_with fail;refine (ipod_any x.n x.c x.z va vl vc x.zs x.d x.p _ hn hz hd HR.out).mono ?_;rintro e w1 ⟨r,rfl,hr1,hb⟩;have HB:=hidK (slotK hb).2.1;have HI:=hidK hr1;clear hb hr1
 go_wp2
 go_ret;exact ⟨r,rfl,HI.out,HB.out⟩

theorem rowrpd_any (a : Option Addr) (len cap : Nat) (xs : List Pd) (most : Int) (w : World) (hr : RRow w a len cap 6 (xs.map pdF)) :
  Calls Tryz.prog 144 #[.slice a len cap,.int .i64 most] w (BoolB (RowOk pdOk Pd.n xs most) w):=by
 have HR:=hidK hr
 have hxl : xs.length = len:=by simpa using hr.1
 have hlc:=Nat.le_trans hr.2.1 hr.2.2.1;clear hr
 have hmcalled : ∀ (v : Value) (w : World),(method 343 103 v "loop.example/g00571/impl.called").run Tryz.prog w = .ok (191,v) w:=fun _ _ => by kernel_rfl
 have hmright : ∀ (v : Value) (w : World),(method 343 103 v "loop.example/g00571/impl.right").run Tryz.prog w = .ok (192,v) w:=fun _ _ => by kernel_rfl
 by_cases hmo : most < (len : Int)
 ·go_enter Tryz.func144,Tryz.ntmps144
  go_wp2
  go_ret;exact BoolB.f (fun h => by have:=h.1;omega) (Below.refl _ _)
 go_enter Tryz.func144,Tryz.ntmps144
 go_wp2
 go_loopw [5,14] (fun q i wr => ∃ (k : Nat) (y : ByteArray),k ≤ len ∧ q = .string y ∧ i = .int .i64 k ∧ Hid (k = 0 → y = ⟨#[]⟩) ∧ Hid (∀ z,0 < k → xs[k - 1]? = some z → z.n = y) ∧ Hid (∀ (j : Nat) z,j < k → xs[j]? = some z → pdOk z) ∧ Hid (∀ (j : Nat) z u,j + 1 < k → xs[j + 1]? = some z → xs[j]? = some u → Op.bytesLess u.n.toList z.n.toList = true) ∧ Hid (Below w.heap.size w wr)) (fun _ i _ => len - (intOf i).toNat)
 case atStart => exact ⟨0,_,by omega,rfl,rfl,fun _ => rfl,fun _ h => absurd h (by omega),fun _ _ h => absurd h (by omega),fun _ _ _ h => absurd h (by omega),Below.refl _ _⟩
 case round =>
  obtain ⟨k,y,hk,rfl,rfl,H0,H1,HE,HO,HB⟩:=hrel
  by_cases hlt : k < len
  ·obtain ⟨b,o,x,rfl,hb,hx,hat⟩:=pd_at (HR.out.below HB.out) hlt;obtain ⟨va,vl,vc,hvr,z0,z2,z4,c0,c1,c2,c3,c4,c5⟩:=pd_cells hat;have HX:=hidK hx;have HC:=hidK (fun v : World => calledpd_any x va vl vc v);have HB1:=hidK (HB.out.alloc HB.out.size (.cells #[.string x.n,.int .i64 x.c,.string x.z,.slice va vl vc,.string x.d,.int .i64 x.p] 103));have HRt:=hidK (rightpd_any x va vl vc (wr.alloc (.cells #[.string x.n,.int .i64 x.c,.string x.z,.slice va vl vc,.string x.d,.int .i64 x.p] 103)) z0 z2 z4 (hvr.below (below1 _ _)));clear hat hx z0 z2 z4 hvr;go_wp2_with fail;refine HRt.out.mono ?_;rintro e w1 ⟨r,rfl,hrt,hb1⟩;obtain ⟨g1,-,-⟩:=slotK hb1;have hs1:=hb1.size;rw [show (wr.alloc (.cells #[.string x.n,.int .i64 x.c,.string x.z,.slice va vl vc,.string x.d,.int .i64 x.p] 103)).heap.size = wr.heap.size + 1 from by simp] at hs1;have HB2:=upB HB1 hb1;have d0:=ck0 g1;have d1:=ck1 g1;have d2:=ck2 g1;have d3:=ck3 g1;have d4:=ck4 g1;have d5:=ck5 g1;have HG:=hidK g1;have HI:=hidK hrt;clear g1 hb1 HB1 HRt hrt c0 c1 c2 c3 c4 c5
   cases r
   ·go_wp2
    go_ret;exact BoolB.f (fun h => by have:=HI.out.2 (h.2.1 k x HX.out);cases this) HB2.out
   have HOK:=hidK (HI.out.1 rfl);clear HI;go_wp2_with fail;refine (HC.out _).mono ?_;rintro e w2 ⟨rfl,hb2⟩;have HB3:=hidK (HB2.out.trans (hb2.mono (Nat.le_trans HB.out.size (Nat.le_trans (Nat.le_succ _) hs1))));have g2:=(hb2.block wr.heap.size (by omega)).trans HG.out;have hs2:=hb2.size;have htri:=less_tri y.toList x.n.toList;clear HG hb2 HB2 d0 d1 d2 d3 d4 d5;have d0:=ck0 g2;have d1:=ck1 g2;have d2:=ck2 g2;have d3:=ck3 g2;have d4:=ck4 g2;have d5:=ck5 g2;clear g2
   cases hless : Op.bytesLess y.toList x.n.toList
   ·rw [hless] at htri
    go_wp2
    go_ret;refine BoolB.f (fun h => ?_) HB3.out
    by_cases hk0 : 0 < k
    ·have hz : xs[k - 1]? = some (xs[k - 1]'(by omega)):=List.getElem?_eq_getElem _;have h2:=H1.out _ hk0 hz;have h3:=h.2.2 (k - 1) x _ (by rw [Nat.sub_add_cancel hk0];exact HX.out) hz;rw [h2,hless] at h3
     cases h3
    ·have:=H0.out (by omega);subst this;have hnm:=HOK.out.1.1;rw [less_nil hnm] at hless
     cases hless
   ·rw [hless] at htri;go_wp2_with fail;refine (HC.out _).mono ?_;rintro e w3 ⟨rfl,hb3⟩;have HB4:=hidK (HB3.out.trans (hb3.mono (Nat.le_trans HB.out.size (by omega))));clear hb3 d0 d1 d2 d3 d4 d5;go_wp2_with fail;refine ⟨⟨k + 1,x.n,by omega,rfl,by go_num,fun h => absurd h (by omega),fun z _ hz => ?_,fun j z hj hz => ?_,fun j z u hj hz hu => ?_,HB4.out⟩,by simp [intOf];omega⟩
    ·rw [Nat.add_sub_cancel,HX.out] at hz;rw [Option.some.inj hz]
    ·by_cases e : j = k
     ·subst e;rw [HX.out] at hz;obtain rfl:=Option.some.inj hz;exact HOK.out
     ·exact HE.out j z (by omega) hz
    ·by_cases e : j + 1 = k
     ·subst e;rw [HX.out] at hz;obtain rfl:=Option.some.inj hz;have:=H1.out u (by omega) (by rw [Nat.add_sub_cancel];exact hu);rw [this];exact hless
     ·exact HO.out j z u (by omega) hz hu
  ·obtain rfl : k = len:=by omega
   go_wp2
   go_ret;refine BoolB.t ⟨by omega,fun j z hz => HE.out j z (by have:=(List.getElem?_eq_some_iff.1 hz).1;omega) hz,fun j z u hz hu => HO.out j z u (by have:=(List.getElem?_eq_some_iff.1 hz).1;omega) hz hu⟩ HB.out

def ens (w : World) : Prop:=∃ T v,w.cell? ⟨3,0,none⟩ = some (.iface T v)
theorem ens.lt {w : World} (h : ens w) : 3 < w.heap.size:=by
 obtain ⟨T,v,h⟩:=h
 rcases Nat.lt_or_ge (3) w.heap.size with h1 | h1
 ·exact h1
 ·simp [World.cell?,Array.getElem?_eq_none h1] at h
theorem ens.below {w w' : World} (h : ens w) (hb : Below w.heap.size w w') : ens w':=by
 have hl:=h.lt;obtain ⟨T,v,h⟩:=h;exact ⟨T,v,(cell_below hb hl).trans h⟩
theorem isE_y {s : ByteArray} (h : s = ⟨#[]⟩) : s.toList.isEmpty = true:=by rw [h];exact isE_yes
def WhyB (p : Prop) (w : World) (e : Ending) (w' : World) : Prop:=Below w.heap.size w w' ∧ ((p ∧ e = .returned .nilIface) ∨ (¬ p ∧ ∃ T v,e = .returned (.iface T v)))

theorem iclassWhy_any (d : Ad) (now : Int) (xs : List Kd) (t : ByteArray) (w : World) (hr : RRow w d.a2 d.l2 d.c2 4 (xs.map kdF)) (hG : ens w) :
  Calls Tryz.prog 145 #[.agg #[.slice d.a1 d.l1 d.c1,.slice d.a2 d.l2 d.c2,.slice d.a3 d.l3 d.c3,.slice d.a4 d.l4 d.c4,.slice d.a5 d.l5 d.c5,.int .i64 now],.string t] w (WhyB (hit Kd.n xs t = true) w):=by
 have HR:=hidK hr;have HE:=hidK hG;have HB:=hidK (Below.refl w.heap.size w);clear hr hG
 go_enter Tryz.func145,Tryz.ntmps145
 go_wp2_with fail;refine (thekd_any d now xs t w _ HR.out (below1 _ _)).mono ?_;rintro e w1 ⟨hb,hf⟩;obtain ⟨HA0,hbx⟩:=slots1 hb;replace HB:=upB HB hbx;clear hb hbx HA0;obtain ⟨T,v,hv⟩:=HE.out.below HB.out;have hl:=(HE.out.below HB.out).lt;clear HE HR
 rcases hf with ⟨hh,x,hx,hn,rfl,z0,z3⟩ | ⟨hh,rfl⟩
 ·have HH:=hidK hh;clear hh hx hn z0 z3
  go_wp2
  go_ret;exact ⟨(HB.out.alloc HB.out.size _),.inl ⟨HH.out,rfl⟩⟩
 ·have HH:=hidK hh;clear hh
  go_wp2
  go_ret;exact ⟨(HB.out.alloc HB.out.size _),.inr ⟨by rw [HH.out];decide,T,v,rfl⟩⟩

def Bond (c : Cl) (t s : ByteArray) : Prop:=∃ (i j : Nat) (x : Xd) (v : Vd),c.xs[i]? = some x ∧ x.n = t ∧ c.vs[j]? = some v ∧ v.n = s ∧ x.v = s ∧ v.m = t ∧ x.z ≤ v.c ∧ v.k = x.k ∧ v.x = x.x

theorem ibond_any (d : Ad) (c : Cl) (t s : ByteArray) (w : World) (hr : ClRow w d c.raw) (hx : RisBy Xd.n c.xs) (hv : RisBy Vd.n c.vs) :
  Calls Tryz.prog 146 #[.agg #[.slice d.a1 d.l1 d.c1,.slice d.a2 d.l2 d.c2,.slice d.a3 d.l3 d.c3,.slice d.a4 d.l4 d.c4,.slice d.a5 d.l5 d.c5,.int .i64 c.now],.string t,.string s] w (BoolB (Bond c t s) w):=by
 have HR:=hidK hr;have HB:=hidK (Below.refl w.heap.size w);have HX:=hidK hx;have HV:=hidK hv;clear hr hx hv
 go_enter Tryz.func146,Tryz.ntmps146
 go_wp2_with fail;refine (thexd_any d c.now c.xs t w _ HR.out.x (below1 _ _)).mono ?_;rintro e w1 ⟨hb,hf⟩;obtain ⟨HA0,hbx⟩:=slots1 hb;have Bk:=hidK HA0;replace HB:=upB HB hbx;clear hb hbx HA0
 rcases hf with ⟨hh,x,hx,hn,rfl,z0,z2,z4⟩ | ⟨hh,rfl⟩
 ·have HX1:=hidK hx;have HN1:=hidK hn;clear hx hn hh z0 z2 z4;obtain ⟨k0,k1,k2,k3,k4,k5⟩:=cs6 Bk.out;have ltk_1:=lt_of_some Bk.out;go_wp2_with fail;refine (thevd_any d c.now c.vs s w _ HR.out.v (HB.out.trans ((below1 _ _).mono HB.out.size))).mono ?_;rintro e w2 ⟨hb,hf⟩;clear k0 k1 k2 k3 k4 k5 ltk_1;obtain ⟨HA0,hbx⟩:=slots1 hb;replace Bk:=upK Bk hbx;have Bx:=hidK HA0;replace HB:=upB HB hbx;clear hb hbx HA0
  rcases hf with ⟨hh,v,va,vl,vc,hx,hn,rfl,z0,z2,z3,z5,hvr⟩ | ⟨hh,rfl⟩
  ·have HX2:=hidK hx;have HN2:=hidK hn;clear hx hn hh z0 z2 z3 z5 hvr;obtain ⟨x0,x1,x2,x3,x4⟩:=cs5 Bx.out;have ltx_2:=lt_of_some Bx.out
   cases q1 : (x.v.toList == s.toList)
   ·go_wp2
    go_ret;refine BoolB.f (fun ⟨i,j,x',v',e1,e2,e3,e4,e5,_⟩ => ?_) (HB.out.alloc HB.out.size _);obtain ⟨_,rfl⟩:=HX.out.inj e1 HX1.out (e2.trans HN1.out.symm);rw [tl_yes e5] at q1;cases q1
   cases q2 : (v.m.toList == t.toList)
   ·go_wp2
    go_ret;refine BoolB.f (fun ⟨i,j,x',v',e1,e2,e3,e4,e5,e6,_⟩ => ?_) (HB.out.alloc HB.out.size _);obtain ⟨_,rfl⟩:=HV.out.inj e3 HX2.out (e4.trans HN2.out.symm);rw [tl_yes e6] at q2;cases q2
   by_cases q3 : x.z ≤ v.c
   rotate_left
   ·go_wp2
    go_ret;refine BoolB.f (fun ⟨i,j,x',v',e1,e2,e3,e4,e5,e6,e7,_⟩ => ?_) (HB.out.alloc HB.out.size _);obtain ⟨_,rfl⟩:=HX.out.inj e1 HX1.out (e2.trans HN1.out.symm);obtain ⟨_,rfl⟩:=HV.out.inj e3 HX2.out (e4.trans HN2.out.symm)
    omega
   cases q4 : (v.k.toList == x.k.toList)
   ·go_wp2
    go_ret;refine BoolB.f (fun ⟨i,j,x',v',e1,e2,e3,e4,e5,e6,e7,e8,_⟩ => ?_) (HB.out.alloc HB.out.size _);obtain ⟨_,rfl⟩:=HX.out.inj e1 HX1.out (e2.trans HN1.out.symm);obtain ⟨_,rfl⟩:=HV.out.inj e3 HX2.out (e4.trans HN2.out.symm);rw [tl_yes e8] at q4;cases q4
   cases q5 : (v.x == x.x)
   ·go_wp2
    go_ret;refine BoolB.f (fun ⟨i,j,x',v',e1,e2,e3,e4,e5,e6,e7,e8,e9⟩ => ?_) (HB.out.alloc HB.out.size _);obtain ⟨_,rfl⟩:=HX.out.inj e1 HX1.out (e2.trans HN1.out.symm);obtain ⟨_,rfl⟩:=HV.out.inj e3 HX2.out (e4.trans HN2.out.symm);rw [e9] at q5;simp at q5
   ·go_wp2
    go_ret;exact BoolB.t ⟨_,_,x,v,HX1.out,HN1.out,HX2.out,HN2.out,tl_inj q1,tl_inj q2,q3,tl_inj q4,by simpa using q5⟩ (HB.out.alloc HB.out.size _)
  ·have HH2:=hidK hh;clear hh;obtain ⟨x0,x1,x2,x3,x4⟩:=cs5 Bx.out;have ltx_2:=lt_of_some Bx.out
   go_wp2
   go_ret;refine BoolB.f (fun ⟨i,j,x',v',e1,e2,e3,e4,_⟩ => ?_) (HB.out.alloc HB.out.size _);have:=(hit_at HV.out e3 e4).2;rw [HH2.out] at this
   cases this
 ·have HH1:=hidK hh;clear hh;obtain ⟨k0,k1,k2,k3,k4,k5⟩:=cs6 Bk.out;have ltk_1:=lt_of_some Bk.out;go_wp2_with fail;refine (thevd_any d c.now c.vs s w _ HR.out.v (HB.out.trans ((below1 _ _).mono HB.out.size))).mono ?_;rintro e w2 ⟨hb,hf⟩;clear k0 k1 k2 k3 k4 k5 ltk_1;obtain ⟨HA0,hbx⟩:=slots1 hb;replace Bk:=upK Bk hbx;have Bx:=hidK HA0;replace HB:=upB HB hbx;clear hb hbx HA0
  rcases hf with ⟨hh,v,va,vl,vc,hx,hn,rfl,z0,z2,z3,z5,hvr⟩ | ⟨hh,rfl⟩
  ·have HX2:=hidK hx;have HN2:=hidK hn;clear hx hn hh z0 z2 z3 z5 hvr;obtain ⟨x0,x1,x2,x3,x4⟩:=cs5 Bx.out;have ltx_2:=lt_of_some Bx.out
   go_wp2
   go_ret;refine BoolB.f (fun ⟨i,j,x',v',e1,e2,e3,e4,_⟩ => ?_) (HB.out.alloc HB.out.size _);have:=(hit_at HX.out e1 e2).2;rw [HH1.out] at this
   cases this
  ·have HH2:=hidK hh;clear hh;obtain ⟨x0,x1,x2,x3,x4⟩:=cs5 Bx.out;have ltx_2:=lt_of_some Bx.out
   go_wp2
   go_ret;refine BoolB.f (fun ⟨i,j,x',v',e1,e2,e3,e4,_⟩ => ?_) (HB.out.alloc HB.out.size _);have:=(hit_at HX.out e1 e2).2;rw [HH1.out] at this
   cases this

def QV (c : Cl) (v : Vd) : Prop:=hit Kd.n c.ks v.k = true ∧ (v.m = ⟨#[]⟩ ∨ Bond c v.m v.n)
def QX (c : Cl) (x : Xd) : Prop:=hit Kd.n c.ks x.k = true ∧ (x.v = ⟨#[]⟩ ∨ Bond c x.n x.v)
def BoundI (c : Cl) : Prop:=(∀ (j : Nat) v,c.vs[j]? = some v → QV c v) ∧ (∀ (j : Nat) x,c.xs[j]? = some x → QX c x)

theorem ibound_any (d : Ad) (c : Cl) (w : World) (hr : ClRow w d c.raw) (hxr : RisBy Xd.n c.xs) (hvr : RisBy Vd.n c.vs) (hG : ens w) :
  Calls Tryz.prog 127 #[.agg #[.slice d.a1 d.l1 d.c1,.slice d.a2 d.l2 d.c2,.slice d.a3 d.l3 d.c3,.slice d.a4 d.l4 d.c4,.slice d.a5 d.l5 d.c5,.int .i64 c.now]] w (BoolB (BoundI c) w):=by
 obtain ⟨a1,l1,y1,a2,l2,y2,a3,l3,y3,a4,l4,y4,a5,l5,y5⟩:=d;dsimp only;have HR:=hidK hr
 have hl3 : c.vs.length = l3:=by simpa using (show (c.vs.map vdF).length = l3 from hr.v.1)
 have hm3 : l3 ≤ 9223372036854775807:=Nat.le_trans hr.v.2.1 hr.v.2.2.1
 have hl4 : c.xs.length = l4:=by simpa using (show (c.xs.map xdF).length = l4 from hr.x.1)
 have hm4 : l4 ≤ 9223372036854775807:=Nat.le_trans hr.x.2.1 hr.x.2.2.1;clear hr;have HE:=hidK hG;have HXR:=hidK hxr;have HVR:=hidK hvr;clear hG hxr hvr
 go_enter Tryz.func127,Tryz.ntmps127
 go_wp2
 go_loopw [10] (fun i wr => ∃ k : Nat,k ≤ l3 ∧ i = .int .i64 k ∧ Hid (∀ (j : Nat) z,j < k → c.vs[j]? = some z → QV c z) ∧ Hid (Below w.heap.size w wr) ∧ Hid (wr.heap[w.heap.size]? = some (.cells #[.slice a1 l1 y1,.slice a2 l2 y2,.slice a3 l3 y3,.slice a4 l4 y4,.slice a5 l5 y5,.int .i64 c.now] 36 (0,0)))) (fun i _ => l3 - (intOf i).toNat)
 case atStart => exact ⟨0,by omega,rfl,fun _ _ h => absurd h (by omega),below1 _ _,Array.getElem?_push_size⟩
 case round =>
  obtain ⟨k,hk,rfl,HQ,HB,Bk⟩:=hrel
  by_cases hlt : k < l3
  ·obtain ⟨b,o,v,rfl,hb,hx,hat⟩:=vd_at (HR.out.v.below HB.out) hlt;obtain ⟨va,vl,vc,hvr,z0,z2,z3,z5,c0,c1,c2,c3,c4,c5,c6,c7⟩:=vd_cells hat;have HXv:=hidK hx;clear hat hx z0 z2 z3 z5 hvr;obtain ⟨k0,k1,k2,k3,k4,k5⟩:=cs6 Bk.out;have ltk_0:=lt_of_some Bk.out;go_wp2_with fail;refine (iclassWhy_any ⟨a1,l1,y1,a2,l2,y2,(some ⟨b,o,none⟩),l3,y3,a4,l4,y4,a5,l5,y5⟩ c.now c.ks v.k _ (HR.out.k.below (HB.out.trans ((below1 _ _).mono HB.out.size))) (HE.out.below (HB.out.trans ((below1 _ _).mono HB.out.size)))).mono ?_;rintro e w1 ⟨hb2,hf⟩;clear k0 k1 k2 k3 k4 k5 ltk_0;obtain ⟨HA0,hbx⟩:=slots1 hb2;replace Bk:=upK Bk hbx;have Br:=hidK HA0;replace HB:=upB HB hbx;clear hb2 hbx HA0;clear hb c0 c1 c2 c3 c4 c5 c6 c7
   rcases hf with ⟨hh,rfl⟩ | ⟨hh,T,q,rfl⟩
   rotate_left
   ·have HH:=hidK hh;clear hh;obtain ⟨k0,k1,k2,k3,k4,k5⟩:=cs6 Bk.out;obtain ⟨r0,r1,r2,r3,r4,r5,r6,r7⟩:=cs8 Br.out
    go_wp2
    go_ret;exact BoolB.f (fun h => HH.out (h.1 k v HXv.out).1) HB.out
   have HH:=hidK hh;clear hh
   by_cases he : v.m = ⟨#[]⟩
   ·have hq:=isE_y he;have HEm:=hidK he;clear he;obtain ⟨k0,k1,k2,k3,k4,k5⟩:=cs6 Bk.out;obtain ⟨r0,r1,r2,r3,r4,r5,r6,r7⟩:=cs8 Br.out;go_wp2_with fail;refine ⟨⟨k + 1,by omega,by go_num,fun j z hj hz => ?_,HB.out,Bk.out⟩,by simp [intOf];omega⟩
    by_cases e : j = k
    ·subst e;rw [HXv.out] at hz;obtain rfl:=Option.some.inj hz;exact ⟨HH.out,.inl HEm.out⟩
    ·exact HQ.out j z (by omega) hz
   ·have hq:=isE_no he;have HEm:=hidK he;clear he;obtain ⟨k0,k1,k2,k3,k4,k5⟩:=cs6 Bk.out;obtain ⟨r0,r1,r2,r3,r4,r5,r6,r7⟩:=cs8 Br.out;go_wp2_with fail;refine (ibond_any ⟨a1,l1,y1,a2,l2,y2,(some ⟨b,o,none⟩),l3,y3,a4,l4,y4,a5,l5,y5⟩ c v.m v.n _ (HR.out.below HB.out) HXR.out HVR.out).mono ?_;rintro e w2 ⟨r,rfl,hi,hb3⟩;clear k0 k1 k2 k3 k4 k5 r0 r1 r2 r3 r4 r5 r6 r7;replace Bk:=upK Bk hb3;replace Br:=upK Br hb3;replace HB:=upB HB hb3;clear hb3;have HI:=hidK hi;clear hi
    cases r
    ·go_wp2
     go_ret;refine BoolB.f (fun h => ?_) HB.out
     rcases (h.1 k v HXv.out).2 with h2 | h2
     ·exact HEm.out h2
     ·have:=HI.out.2 h2
      cases this
    ·go_wp2_with fail;refine ⟨⟨k + 1,by omega,by go_num,fun j z hj hz => ?_,HB.out,Bk.out⟩,by simp [intOf];omega⟩
     by_cases e : j = k
     ·subst e;rw [HXv.out] at hz;obtain rfl:=Option.some.inj hz;exact ⟨HH.out,.inr (HI.out.1 (by first | trivial | rfl))⟩
     ·exact HQ.out j z (by omega) hz
  ·obtain rfl : l3 = k:=by omega
   have HQ1 : Hid (∀ (j : Nat) z,c.vs[j]? = some z → QV c z):=fun j z hz => HQ.out j z (by have:=(List.getElem?_eq_some_iff.1 hz).1;omega) hz;clear HQ;have k3:=ck3 Bk.out
   go_wp2
   go_loopw [37] (fun i wr => ∃ k : Nat,k ≤ l4 ∧ i = .int .i64 k ∧ Hid (∀ (j : Nat) z,j < k → c.xs[j]? = some z → QX c z) ∧ Hid (Below w.heap.size w wr) ∧ Hid (wr.heap[w.heap.size]? = some (.cells #[.slice a1 l1 y1,.slice a2 l2 y2,.slice a3 l3 y3,.slice a4 l4 y4,.slice a5 l5 y5,.int .i64 c.now] 36 (0,0)))) (fun i _ => l4 - (intOf i).toNat)
   case atStart => exact ⟨0,by omega,rfl,fun _ _ h => absurd h (by omega),HB.out,Bk.out⟩
   case round =>
    obtain ⟨k,hk,rfl,HQ,HB,Bk⟩:=hrel
    by_cases hlt : k < l4
    ·obtain ⟨b,o,x,rfl,hb,hx,hat⟩:=xd_at (HR.out.x.below HB.out) hlt;obtain ⟨z0,z2,z4,c0,c1,c2,c3,c4⟩:=xd_cells hat;have HXx:=hidK hx;clear hat hx z0 z2 z4;obtain ⟨k0,k1,k2,k3,k4,k5⟩:=cs6 Bk.out;have ltk_0:=lt_of_some Bk.out;go_wp2_with fail;refine (iclassWhy_any ⟨a1,l1,y1,a2,l2,y2,a3,l3,y3,(some ⟨b,o,none⟩),l4,y4,a5,l5,y5⟩ c.now c.ks x.k _ (HR.out.k.below (HB.out.trans ((below1 _ _).mono HB.out.size))) (HE.out.below (HB.out.trans ((below1 _ _).mono HB.out.size)))).mono ?_;rintro e w1 ⟨hb2,hf⟩;clear k0 k1 k2 k3 k4 k5 ltk_0;obtain ⟨HA0,hbx⟩:=slots1 hb2;replace Bk:=upK Bk hbx;have Br:=hidK HA0;replace HB:=upB HB hbx;clear hb2 hbx HA0;clear hb c0 c1 c2 c3 c4
     rcases hf with ⟨hh,rfl⟩ | ⟨hh,T,q,rfl⟩
     rotate_left
     ·have HH:=hidK hh;clear hh;obtain ⟨k0,k1,k2,k3,k4,k5⟩:=cs6 Bk.out;obtain ⟨r0,r1,r2,r3,r4⟩:=cs5 Br.out
      go_wp2
      go_ret;exact BoolB.f (fun h => HH.out (h.2 k x HXx.out).1) HB.out
     have HH:=hidK hh;clear hh
     by_cases he : x.v = ⟨#[]⟩
     ·have hq:=isE_y he;have HEm:=hidK he;clear he;obtain ⟨k0,k1,k2,k3,k4,k5⟩:=cs6 Bk.out;obtain ⟨r0,r1,r2,r3,r4⟩:=cs5 Br.out;go_wp2_with fail;refine ⟨⟨k + 1,by omega,by go_num,fun j z hj hz => ?_,HB.out,Bk.out⟩,by simp [intOf];omega⟩
      by_cases e : j = k
      ·subst e;rw [HXx.out] at hz;obtain rfl:=Option.some.inj hz;exact ⟨HH.out,.inl HEm.out⟩
      ·exact HQ.out j z (by omega) hz
     ·have hq:=isE_no he;have HEm:=hidK he;clear he;obtain ⟨k0,k1,k2,k3,k4,k5⟩:=cs6 Bk.out;obtain ⟨r0,r1,r2,r3,r4⟩:=cs5 Br.out;go_wp2_with fail;refine (ibond_any ⟨a1,l1,y1,a2,l2,y2,a3,l3,y3,(some ⟨b,o,none⟩),l4,y4,a5,l5,y5⟩ c x.n x.v _ (HR.out.below HB.out) HXR.out HVR.out).mono ?_;rintro e w2 ⟨r,rfl,hi,hb3⟩;clear k0 k1 k2 k3 k4 k5 r0 r1 r2 r3 r4;replace Bk:=upK Bk hb3;replace Br:=upK Br hb3;replace HB:=upB HB hb3;clear hb3;have HI:=hidK hi;clear hi
      cases r
      ·go_wp2
       go_ret;refine BoolB.f (fun h => ?_) HB.out
       rcases (h.2 k x HXx.out).2 with h2 | h2
       ·exact HEm.out h2
       ·have:=HI.out.2 h2
        cases this
      ·go_wp2_with fail;refine ⟨⟨k + 1,by omega,by go_num,fun j z hj hz => ?_,HB.out,Bk.out⟩,by simp [intOf];omega⟩
       by_cases e : j = k
       ·subst e;rw [HXx.out] at hz;obtain rfl:=Option.some.inj hz;exact ⟨HH.out,.inr (HI.out.1 (by first | trivial | rfl))⟩
       ·exact HQ.out j z (by omega) hz
    ·obtain rfl : l4 = k:=by omega
     have HQ2 : Hid (∀ (j : Nat) z,c.xs[j]? = some z → QX c z):=fun j z hz => HQ.out j z (by have:=(List.getElem?_eq_some_iff.1 hz).1;omega) hz;clear HQ
     go_wp2
     go_ret;exact BoolB.t ⟨HQ1.out,HQ2.out⟩ HB.out

def InL (zs : List ByteArray) (t : ByteArray) : Prop:=∃ j : Nat,zs[j]? = some t

theorem iindex_any (a : Option Addr) (len cap : Nat) (zs : List ByteArray) (t : ByteArray) (w : World) (hr : TxRow w a len cap zs) :
  Calls Tryz.prog 162 #[.slice a len cap,.string t] w fun e w' => (∃ r : Int,e = .returned (.int .i64 r) ∧ ((0 ≤ r ∧ InL zs t) ∨ (r = -1 ∧ ¬ InL zs t))) ∧ w' = w:=by
 have HR:=hidK hr;have hlc:=Nat.le_trans hr.2.1 hr.2.2.1;have hzl:=hr.1;clear hr
 go_enter Tryz.func162,Tryz.ntmps162
 go_wp2
 go_loop [8] (fun i => ∃ k : Nat,k ≤ len ∧ i = .int .i64 k ∧ Hid (∀ (j : Nat) x,j < k → zs[j]? = some x → ¬ x = t)) (fun i => len - (intOf i).toNat)
 case atStart => exact ⟨0,by omega,rfl,fun _ _ h => absurd h (by omega)⟩
 case round =>
  obtain ⟨k,hk,rfl,HE⟩:=hrel
  by_cases hlt : k < len
  ·obtain ⟨b,o,x,rfl,hb,hx,hc,hsz⟩:=HR.out.at hlt;have HX:=hidK hx;clear hx
   by_cases hn : t = x
   ·have hq:=tl_yes hn;have HN:=hidK hn;clear hn
    go_wp2
    go_ret;exact ⟨⟨k,rfl,.inl ⟨by omega,k,by rw [HX.out,HN.out]⟩⟩,rfl⟩
   ·have hq:=tl_no hn;have HN:=hidK hn;clear hn
    go_wp2
    refine ⟨⟨k + 1,by omega,by go_num,fun j z hj hz => ?_⟩,by simp [intOf];omega⟩
    by_cases e : j = k
    ·subst e;rw [HX.out] at hz;obtain rfl:=Option.some.inj hz;exact fun q => HN.out q.symm
    ·exact HE.out j z (by omega) hz
  ·obtain rfl : len = k:=by omega
   go_wp2
   go_ret;exact ⟨⟨-1,rfl,.inr ⟨rfl,fun ⟨j,hj⟩ => HE.out j t (by have:=(List.getElem?_eq_some_iff.1 hj).1;omega) hj rfl⟩⟩,rfl⟩

theorem icontains_any (a : Option Addr) (len cap : Nat) (zs : List ByteArray) (t : ByteArray) (w : World) (hr : TxRow w a len cap zs) :
  Calls Tryz.prog 158 #[.slice a len cap,.string t] w (BoolB (InL zs t) w):=by
 have HR:=hidK hr;clear hr
 go_enter Tryz.func158,Tryz.ntmps158
 go_wp2_with fail;refine (iindex_any a len cap zs t _ HR.out).mono ?_;rintro e w1 ⟨⟨r,rfl,hr⟩,rfl⟩
 rcases hr with ⟨h0,hi⟩ | ⟨rfl,hi⟩
 ·go_wp2
  go_ret;exact BoolB.t hi (Below.refl _ _)
 ·go_wp2
  go_ret;exact BoolB.f hi (Below.refl _ _)

theorem iclaimsWhy_any (d : Ad) (now : Int) (xs : List Xd) (a : Option Addr) (len cap : Nat) (zs : List ByteArray) (w : World) (hr : RRow w d.a4 d.l4 d.c4 5 (xs.map xdF)) (hz : TxRow w a len cap zs) (hG : ens w) :
  Calls Tryz.prog 147 #[.agg #[.slice d.a1 d.l1 d.c1,.slice d.a2 d.l2 d.c2,.slice d.a3 d.l3 d.c3,.slice d.a4 d.l4 d.c4,.slice d.a5 d.l5 d.c5,.int .i64 now],.slice a len cap] w (WhyB (∀ (j : Nat) t,zs[j]? = some t → hit Xd.n xs t = true) w):=by
 have HR:=hidK hr;have HE:=hidK hG;have HZ:=hidK hz;have hlc:=Nat.le_trans hz.2.1 hz.2.2.1;have hzl:=hz.1;clear hr hG hz
 go_enter Tryz.func147,Tryz.ntmps147
 go_wp2
 go_loopw [11] (fun i wr => ∃ k : Nat,k ≤ len ∧ i = .int .i64 k ∧ Hid (∀ (j : Nat) t,j < k → zs[j]? = some t → hit Xd.n xs t = true) ∧ Hid (Below w.heap.size w wr) ∧ Hid (wr.heap[w.heap.size]? = some (.cells #[.slice d.a1 d.l1 d.c1,.slice d.a2 d.l2 d.c2,.slice d.a3 d.l3 d.c3,.slice d.a4 d.l4 d.c4,.slice d.a5 d.l5 d.c5,.int .i64 now] 36 (0,0)))) (fun i _ => len - (intOf i).toNat)
 case atStart => exact ⟨0,by omega,rfl,fun _ _ h => absurd h (by omega),below1 _ _,Array.getElem?_push_size⟩
 case round =>
  obtain ⟨k,hk,rfl,HQ,HB,Bk⟩:=hrel
  by_cases hlt : k < len
  ·obtain ⟨b,o,t,rfl,hb,hx,hc,hsz⟩:=(HZ.out.below HB.out).at hlt;have HX:=hidK hx;clear hx;obtain ⟨k0,k1,k2,k3,k4,k5⟩:=cs6 Bk.out;go_wp2_with fail;refine (thexd_any d now xs t w _ HR.out HB.out).mono ?_;rintro e w1 ⟨hb2,hf⟩;clear k0 k1 k2 k3 k4 k5;replace Bk:=upK Bk hb2;replace HB:=upB HB hb2;clear hb2;clear hb hc hsz;obtain ⟨T,q,hv⟩:=HE.out.below HB.out;have hl:=(HE.out.below HB.out).lt
   rcases hf with ⟨hh,x,hx,hn,rfl,z0,z2,z4⟩ | ⟨hh,rfl⟩
   ·have HH:=hidK hh;clear hh hx hn z0 z2 z4 hv hl
    go_wp2
    refine ⟨⟨k + 1,by omega,by go_num,fun j z hj hz => ?_,HB.out.alloc HB.out.size _,(Below.heap_alloc _ _ _ (lt_of_some Bk.out)).trans Bk.out⟩,by simp [intOf];omega⟩
    by_cases e : j = k
    ·subst e;rw [HX.out] at hz;obtain rfl:=Option.some.inj hz;exact HH.out
    ·exact HQ.out j z (by omega) hz
   ·have HH:=hidK hh;clear hh
    go_wp2
    go_ret;exact ⟨HB.out.alloc HB.out.size _,.inr ⟨fun h => (by have:=h k t HX.out;rw [HH.out] at this;cases this),T,q,rfl⟩⟩
  ·obtain rfl : len = k:=by omega
   go_wp2
   go_ret;exact ⟨HB.out,.inl ⟨fun j t ht => HQ.out j t (by have:=(List.getElem?_eq_some_iff.1 ht).1;omega) ht,rfl⟩⟩

def IsBd (c : Cl) (t : ByteArray) (v : Vd) : Prop:=∃ (i j : Nat) (x : Xd),c.xs[i]? = some x ∧ x.n = t ∧ c.vs[j]? = some v ∧ v.n = x.v
def BdAns (c : Cl) (t : ByteArray) (r w : World) (e : Ending) (w' : World) : Prop :=
 Below w.heap.size w w' ∧ ((∃ (v : Vd) (va : Option Addr) (vl vc : Nat),IsBd c t v ∧ e = .returned (.tuple #[.agg #[.string v.n,.int .i64 v.c,.string v.z,.string v.k,.bool v.x,.string v.m,.bool v.y,.slice va vl vc],.bool true]) ∧ v.n.size ≤ 9223372036854775807 ∧ v.z.size ≤ 9223372036854775807 ∧ TxRow r va vl vc v.zs) ∨ ((∀ v,¬ IsBd c t v) ∧ e = .returned (.tuple #[.agg #[.string ⟨#[]⟩,.int .i64 0,.string ⟨#[]⟩,.string ⟨#[]⟩,.bool false,.string ⟨#[]⟩,.bool false,.slice none 0 0],.bool false])))

theorem ibd_any (d : Ad) (c : Cl) (t : ByteArray) (r : World) (w : World) (hr : ClRow r d c.raw) (hrw : Below r.heap.size r w) (hx : RisBy Xd.n c.xs) (hv : RisBy Vd.n c.vs) (hne : ∀ (j : Nat) v,c.vs[j]? = some v → ¬ v.n = ⟨#[]⟩) :
  Calls Tryz.prog 112 #[.agg #[.slice d.a1 d.l1 d.c1,.slice d.a2 d.l2 d.c2,.slice d.a3 d.l3 d.c3,.slice d.a4 d.l4 d.c4,.slice d.a5 d.l5 d.c5,.int .i64 c.now],.string t] w (BdAns c t r w):=by
 have HR:=hidK hr;have HRW:=hidK hrw;have HX:=hidK hx;have HV:=hidK hv;have HNE:=hidK hne;have HB:=hidK (Below.refl w.heap.size w);clear hr hx hv hrw hne
 go_enter Tryz.func112,Tryz.ntmps112
 go_wp2_with fail;refine (thexd_any d c.now c.xs t r _ HR.out.x (HRW.out.trans ((below2 _ _ _).mono HRW.out.size))).mono ?_;rintro e w1 ⟨hb,hf⟩;obtain ⟨HA0,HA1,hbx⟩:=slots2 hb;have Bk:=hidK HA0;have Bs:=hidK HA1;replace HB:=upB HB hbx;clear hb hbx HA0 HA1
 rcases hf with ⟨hh,x,hx,hn,rfl,z0,z2,z4⟩ | ⟨hh,rfl⟩
 ·have HX1:=hidK hx;have HN1:=hidK hn;clear hx hn hh z0 z2 z4;obtain ⟨k0,k1,k2,k3,k4,k5⟩:=cs6 Bk.out;have ltk_1:=lt_of_some Bk.out;go_wp2_with fail;refine (thevd_any d c.now c.vs x.v r _ HR.out.v (HRW.out.trans ((HB.out.trans ((below1 _ _).mono HB.out.size)).mono HRW.out.size))).mono ?_;rintro e w2 ⟨hb,hf⟩;clear k0 k1 k2 k3 k4 k5 ltk_1;obtain ⟨HA0,hbx⟩:=slots1 hb;replace Bk:=upK Bk hbx;replace Bs:=upK Bs hbx;have Bx:=hidK HA0;replace HB:=upB HB hbx;clear hb hbx HA0
  rcases hf with ⟨hh,v,va,vl,vc,hx,hn,rfl,z0,z2,z3,z5,hvr⟩ | ⟨hh,rfl⟩
  ·have HX2:=hidK hx;have HN2:=hidK hn;have HT:=hidK hvr;have HZ0:=hidK z0;have HZ2:=hidK z2;clear hx hn hh z0 z2 z3 z5 hvr;obtain ⟨s0,s1,s2,s3,s4,s5,s6,s7⟩:=cs8 Bs.out;have fr0:=froK Bs.out 0;have fr1:=froK Bs.out 1;have fr2:=froK Bs.out 2;have fr3:=froK Bs.out 3;have fr4:=froK Bs.out 4;have fr5:=froK Bs.out 5;have fr6:=froK Bs.out 6;have fr7:=froK Bs.out 7
   go_wp2
   refine bodyPost_ret (v:=.tuple #[.agg #[.string v.n,.int .i64 v.c,.string v.z,.string v.k,.bool v.x,.string v.m,.bool v.y,.slice va vl vc],.bool true]) (by simp [results,Tryz.results112,go_sem, *]) rfl ⟨set_below (Nat.le_succ _) (set_below (Nat.le_succ _) (set_below (Nat.le_succ _) (set_below (Nat.le_succ _) (set_below (Nat.le_succ _) (set_below (Nat.le_succ _) (set_below (Nat.le_succ _) (set_below (Nat.le_succ _) (HB.out)))))))),.inl ⟨v,va,vl,vc,⟨_,_,x,HX1.out,HN1.out,HX2.out,HN2.out⟩,rfl,HZ0.out,HZ2.out,HT.out⟩⟩
  ·have HH2:=hidK hh;clear hh;obtain ⟨s0,s1,s2,s3,s4,s5,s6,s7⟩:=cs8 Bs.out;have fr0:=froK Bs.out 0;have fr1:=froK Bs.out 1;have fr2:=froK Bs.out 2;have fr3:=froK Bs.out 3;have fr4:=froK Bs.out 4;have fr5:=froK Bs.out 5;have fr6:=froK Bs.out 6;have fr7:=froK Bs.out 7
   go_wp2
   refine bodyPost_ret (v:=.tuple #[.agg #[.string ⟨#[]⟩,.int .i64 0,.string ⟨#[]⟩,.string ⟨#[]⟩,.bool false,.string ⟨#[]⟩,.bool false,.slice none 0 0],.bool false]) (by simp [results,Tryz.results112,go_sem, *]) rfl ⟨set_below (Nat.le_succ _) (set_below (Nat.le_succ _) (set_below (Nat.le_succ _) (set_below (Nat.le_succ _) (set_below (Nat.le_succ _) (set_below (Nat.le_succ _) (set_below (Nat.le_succ _) (set_below (Nat.le_succ _) (HB.out)))))))),.inr ⟨fun v ⟨i,j,x2,e1,e2,e3,e4⟩ => (by obtain ⟨_,rfl⟩:=HX.out.inj e1 HX1.out (e2.trans HN1.out.symm);have:=(hit_at HV.out e3 e4).2;rw [HH2.out] at this;cases this),rfl⟩⟩
 ·have HH1:=hidK hh;clear hh;obtain ⟨k0,k1,k2,k3,k4,k5⟩:=cs6 Bk.out;have ltk_1:=lt_of_some Bk.out;go_wp2_with fail;refine (thevd_any d c.now c.vs ⟨#[]⟩ r _ HR.out.v (HRW.out.trans ((HB.out.trans ((below1 _ _).mono HB.out.size)).mono HRW.out.size))).mono ?_;rintro e w2 ⟨hb,hf⟩;clear k0 k1 k2 k3 k4 k5 ltk_1;obtain ⟨HA0,hbx⟩:=slots1 hb;replace Bk:=upK Bk hbx;replace Bs:=upK Bs hbx;have Bx:=hidK HA0;replace HB:=upB HB hbx;clear hb hbx HA0
  rcases hf with ⟨hh,v,va,vl,vc,hx,hn,rfl,z0,z2,z3,z5,hvr⟩ | ⟨hh,rfl⟩
  ·have HX2:=hidK hx;have HN2:=hidK hn;have HT:=hidK hvr;have HZ0:=hidK z0;have HZ2:=hidK z2;clear hx hn hh z0 z2 z3 z5 hvr;exact absurd HN2.out (HNE.out _ _ HX2.out)
  ·have HH2:=hidK hh;clear hh;obtain ⟨s0,s1,s2,s3,s4,s5,s6,s7⟩:=cs8 Bs.out;have fr0:=froK Bs.out 0;have fr1:=froK Bs.out 1;have fr2:=froK Bs.out 2;have fr3:=froK Bs.out 3;have fr4:=froK Bs.out 4;have fr5:=froK Bs.out 5;have fr6:=froK Bs.out 6;have fr7:=froK Bs.out 7
   go_wp2
   refine bodyPost_ret (v:=.tuple #[.agg #[.string ⟨#[]⟩,.int .i64 0,.string ⟨#[]⟩,.string ⟨#[]⟩,.bool false,.string ⟨#[]⟩,.bool false,.slice none 0 0],.bool false]) (by simp [results,Tryz.results112,go_sem, *]) rfl ⟨set_below (Nat.le_succ _) (set_below (Nat.le_succ _) (set_below (Nat.le_succ _) (set_below (Nat.le_succ _) (set_below (Nat.le_succ _) (set_below (Nat.le_succ _) (set_below (Nat.le_succ _) (set_below (Nat.le_succ _) (HB.out)))))))),.inr ⟨fun v ⟨i,j,x2,e1,e2,e3,e4⟩ => (by have:=(hit_at HX.out e1 e2).2;rw [HH1.out] at this;cases this),rfl⟩⟩

def cpuOf (t : ByteArray) : List Pd → Int
 | [] => 0
 | p :: ps => (if p.d = t then p.c else 0) + cpuOf t ps
theorem cpuOf_append (t : ByteArray) : ∀ ps qs : List Pd,cpuOf t (ps ++ qs) = cpuOf t ps + cpuOf t qs
 | [],qs => by simp [cpuOf]
 | p :: ps,qs => by simp [cpuOf,cpuOf_append t ps];omega
theorem cpuOf_step {t : ByteArray} {ps : List Pd} {k : Nat} {p : Pd} (h : ps[k]? = some p) : cpuOf t (ps.take (k + 1)) = cpuOf t (ps.take k) + (if p.d = t then p.c else 0):=by
 rw [List.take_add_one,h,cpuOf_append]
 simp [cpuOf]

theorem iusedCpu_any (d : Ad) (now : Int) (ps : List Pd) (t : ByteArray) (w : World) (hr : RRow w d.a5 d.l5 d.c5 6 (ps.map pdF)) (hl : ps.length ≤ 8) (hp : ∀ (j : Nat) p,ps[j]? = some p → 0 ≤ p.c ∧ p.c ≤ 1000000) :
  Calls Tryz.prog 149 #[.agg #[.slice d.a1 d.l1 d.c1,.slice d.a2 d.l2 d.c2,.slice d.a3 d.l3 d.c3,.slice d.a4 d.l4 d.c4,.slice d.a5 d.l5 d.c5,.int .i64 now],.string t] w fun e w' => e = .returned (.int .i64 (cpuOf t ps)) ∧ Below w.heap.size w w':=by
 obtain ⟨a1,l1,y1,a2,l2,y2,a3,l3,y3,a4,l4,y4,a5,l5,y5⟩:=d;dsimp only at hr ⊢;have HR:=hidK hr
 have hxl : ps.length = l5:=by simpa using hr.1
 have HP:=hidK hp;clear hr hp
 go_enter Tryz.func149,Tryz.ntmps149
 go_wp2
 go_loopw [5,11] (fun q i wr => ∃ (k : Nat) (s : Int),k ≤ l5 ∧ q = .int .i64 s ∧ i = .int .i64 k ∧ Hid (s = cpuOf t (ps.take k)) ∧ 0 ≤ s ∧ s ≤ k * 1000000 ∧ Hid (Below w.heap.size w wr)) (fun _ i _ => l5 - (intOf i).toNat)
 case atStart => exact ⟨0,0,by omega,rfl,rfl,rfl,by omega,by omega,below1 _ _⟩
 case round =>
  obtain ⟨k,s,hk,rfl,rfl,HS,hs0,hs1,HB⟩:=hrel
  by_cases hlt : k < l5
  ·obtain ⟨b,o,p,rfl,hb,hx,hat⟩:=pd_at (HR.out.below HB.out) hlt;obtain ⟨va,vl,vc,hvr,z0,z2,z4,c0,c1,c2,c3,c4,c5⟩:=pd_cells hat;have HX:=hidK hx;have hpc:=HP.out k p hx;clear hat hx z0 z2 z4 hvr
   by_cases hn : p.d = t
   ·have hq:=tl_yes hn;have HN:=hidK hn;clear hn
    go_wp2
    refine ⟨⟨k + 1,s + p.c,by omega,by go_num,by go_num,?_,by omega,by omega,HB.out.alloc HB.out.size _⟩,by simp [intOf];omega⟩
    show _ = _
    rw [cpuOf_step HX.out,if_pos HN.out,← HS.out]
   ·have hq:=tl_no hn;have HN:=hidK hn;clear hn
    go_wp2
    refine ⟨⟨k + 1,s,by omega,rfl,by go_num,?_,by omega,by omega,HB.out.alloc HB.out.size _⟩,by simp [intOf];omega⟩
    show _ = _
    rw [cpuOf_step HX.out,if_neg HN.out,← HS.out,Int.add_zero]
  ·obtain rfl : l5 = k:=by omega
   go_wp2
   go_ret;exact ⟨congrArg (fun z => Ending.returned (.int .i64 z)) (HS.out.trans (by rw [List.take_of_length_le (by omega)])),HB.out⟩

def OneNode (c : Cl) (t : ByteArray) : Prop:=∀ (i j : Nat) p q,c.ps[i]? = some p → c.ps[j]? = some q → ¬ p.d = ⟨#[]⟩ → ¬ q.d = ⟨#[]⟩ → InL p.zs t → InL q.zs t → p.d = q.d

theorem ione_any (d : Ad) (c : Cl) (t : ByteArray) (w : World) (hr : ClRow w d c.raw) :
  Calls Tryz.prog 150 #[.agg #[.slice d.a1 d.l1 d.c1,.slice d.a2 d.l2 d.c2,.slice d.a3 d.l3 d.c3,.slice d.a4 d.l4 d.c4,.slice d.a5 d.l5 d.c5,.int .i64 c.now],.string t] w (BoolB (OneNode c t) w):=by
 obtain ⟨a1,l1,y1,a2,l2,y2,a3,l3,y3,a4,l4,y4,a5,l5,y5⟩:=d;dsimp only;have HR:=hidK hr
 have hl5 : c.ps.length = l5:=by simpa using (show (c.ps.map pdF).length = l5 from hr.p.1)
 have hm5 : l5 ≤ 9223372036854775807:=Nat.le_trans hr.p.2.1 hr.p.2.2.1;clear hr
 go_enter Tryz.func150,Tryz.ntmps150
 go_wp2
 go_loopw [5,11] (fun q i wr => ∃ (k : Nat) (s : ByteArray),k ≤ l5 ∧ q = .string s ∧ i = .int .i64 k ∧ Hid (∀ (j : Nat) p,j < k → c.ps[j]? = some p → ¬ p.d = ⟨#[]⟩ → InL p.zs t → p.d = s) ∧ Hid (s = ⟨#[]⟩ ∨ ∃ (j : Nat) (p : Pd),j < k ∧ c.ps[j]? = some p ∧ ¬ p.d = ⟨#[]⟩ ∧ InL p.zs t ∧ p.d = s) ∧ Hid (Below w.heap.size w wr)) (fun _ i _ => l5 - (intOf i).toNat)
 case atStart => exact ⟨0,_,by omega,rfl,rfl,fun _ _ h => absurd h (by omega),.inl rfl,below1 _ _⟩
 case round =>
  obtain ⟨k,s,hk,rfl,rfl,HQ,HS,HB⟩:=hrel
  by_cases hlt : k < l5
  ·obtain ⟨b,o,p,rfl,hb,hx,hat⟩:=pd_at (HR.out.p.below HB.out) hlt;obtain ⟨va,vl,vc,hvr,z0,z2,z4,c0,c1,c2,c3,c4,c5⟩:=pd_cells hat;have HX:=hidK hx;have HT:=hidK hvr;clear hat hx z0 z2 z4 hvr
   have skip : (p.d = ⟨#[]⟩ ∨ ¬ InL p.zs t) → ∀ (j : Nat) q,j < k + 1 → c.ps[j]? = some q → ¬ q.d = ⟨#[]⟩ → InL q.zs t → q.d = s:=by
    intro h j q hj hq h1 h2
    by_cases e : j = k
    ·subst e;rw [HX.out] at hq;obtain rfl:=Option.some.inj hq
     rcases h with h | h
     ·exact absurd h h1
     ·exact absurd h2 h
    ·exact HQ.out j q (by omega) hq h1 h2
   have SK:=hidK skip;clear skip;have keepS : s = ⟨#[]⟩ ∨ ∃ (j : Nat) (p : Pd),j < k + 1 ∧ c.ps[j]? = some p ∧ ¬ p.d = ⟨#[]⟩ ∧ InL p.zs t ∧ p.d = s:=HS.out.imp id (fun ⟨j,p,h1,h2⟩ => ⟨j,p,by omega,h2⟩);have KS:=hidK keepS;clear keepS
   by_cases he : p.d = ⟨#[]⟩
   ·have hq:=isE_y he;have HEm:=hidK he;clear he
    go_wp2
    exact ⟨⟨k + 1,s,by omega,rfl,by go_num,SK.out (.inl HEm.out),KS.out,HB.out.alloc HB.out.size _⟩,by simp [intOf];omega⟩
   ·have hq:=isE_no he;have HEm:=hidK he;clear he;go_wp2_with fail;refine (icontains_any va vl vc p.zs t _ (HT.out.below (below1 _ _))).mono ?_;rintro e w1 ⟨r,rfl,hi,hb2⟩;obtain ⟨HA0,hbx⟩:=slots1 hb2;have Br:=hidK HA0;replace HB:=upB HB hbx;clear hb2 hbx HA0;have HI:=hidK hi;clear hi c0 c1 c2 c3 c4 c5 hb
    cases r
    ·obtain ⟨r0,r1,r2,r3,r4,r5⟩:=cs6 Br.out
     go_wp2
     exact ⟨⟨k + 1,s,by omega,rfl,by go_num,SK.out (.inr (fun h => by have:=HI.out.2 h;cases this)),KS.out,HB.out⟩,by simp [intOf];omega⟩
    ·have HIn:=hidK (HI.out.1 (by first | trivial | rfl));clear HI
     by_cases hs : s = ⟨#[]⟩
     ·have hq2:=isE_y hs;have HSe:=hidK hs;clear hs;obtain ⟨r0,r1,r2,r3,r4,r5⟩:=cs6 Br.out;go_wp2_with fail;refine ⟨⟨k + 1,p.d,by omega,rfl,by go_num,fun j q hj hq h1 h2 => ?_,.inr ⟨k,p,by omega,HX.out,HEm.out,HIn.out,rfl⟩,HB.out⟩,by simp [intOf];omega⟩
      by_cases e : j = k
      ·subst e;rw [HX.out] at hq;obtain rfl:=Option.some.inj hq
       rfl
      ·exact absurd (HSe.out ▸ HQ.out j q (by omega) hq h1 h2) h1
     ·have hq2:=isE_no hs;have HSe:=hidK hs;clear hs
      by_cases hd : p.d = s
      ·have hq3:=tl_yes hd;have HD:=hidK hd;clear hd;obtain ⟨r0,r1,r2,r3,r4,r5⟩:=cs6 Br.out;go_wp2_with fail;refine ⟨⟨k + 1,p.d,by omega,rfl,by go_num,fun j q hj hq h1 h2 => ?_,.inr ⟨k,p,by omega,HX.out,HEm.out,HIn.out,rfl⟩,HB.out⟩,by simp [intOf];omega⟩
       by_cases e : j = k
       ·subst e;rw [HX.out] at hq;obtain rfl:=Option.some.inj hq
        rfl
       ·exact (HQ.out j q (by omega) hq h1 h2).trans HD.out.symm
      ·have hq3:=tl_no hd;have HD:=hidK hd;clear hd;obtain ⟨r0,r1,r2,r3,r4,r5⟩:=cs6 Br.out
       go_wp2
       go_ret;refine BoolB.f (fun h => ?_) HB.out
       rcases HS.out with h1 | ⟨j,q,h1,h2,h3,h4,h5⟩
       ·exact HSe.out h1
       ·exact HD.out ((h k j p q HX.out h2 HEm.out h3 HIn.out h4).trans h5)
  ·obtain rfl : l5 = k:=by omega
   go_wp2
   go_ret;refine BoolB.t (fun i j p q hi hj h1 h2 h3 h4 => ?_) HB.out;rw [HQ.out i p (by have:=(List.getElem?_eq_some_iff.1 hi).1;omega) hi h1 h3,HQ.out j q (by have:=(List.getElem?_eq_some_iff.1 hj).1;omega) hj h2 h4]

theorem IsBd.inj {c : Cl} {t : ByteArray} {v v' : Vd} (hx : RisBy Xd.n c.xs) (hv : RisBy Vd.n c.vs) (h : IsBd c t v) (h' : IsBd c t v') : v = v':=by
 obtain ⟨i,j,x,e1,e2,e3,e4⟩:=h;obtain ⟨i',j',x',f1,f2,f3,f4⟩:=h';obtain ⟨_,rfl⟩:=hx.inj e1 f1 (e2.trans f2.symm);exact (hv.inj e3 f3 (e4.trans f4.symm)).2
def SuitI (c : Cl) (p : Pd) : Prop:=∃ (i : Nat) (n : Nd),c.ns[i]? = some n ∧ n.n = p.d ∧ (p.z = ⟨#[]⟩ ∨ p.z = n.z) ∧ ∀ (j : Nat) t,p.zs[j]? = some t → ∃ v,IsBd c t v ∧ v.z = n.z
def RunI (c : Cl) (p : Pd) : Prop:=∃ (i : Nat) (n : Nd),c.ns[i]? = some n ∧ n.n = p.d ∧ n.d = false ∧ ∀ (j : Nat) t,p.zs[j]? = some t → ∃ v,IsBd c t v ∧ InL n.zs v.n
def MntI (c : Cl) (n : Nd) : Prop:=∀ (j : Nat) t,n.zs[j]? = some t → ∃ (i : Nat) (v : Vd),c.vs[i]? = some v ∧ v.n = t ∧ (n.d = true ∨ InL v.zs n.n)

theorem isuit_any (d : Ad) (c : Cl) (p : Pd) (pa : Option Addr) (pl pc : Nat) (w : World) (hr : ClRow w d c.raw) (hn : RisBy Nd.n c.ns) (hx : RisBy Xd.n c.xs) (hv : RisBy Vd.n c.vs) (hne : ∀ (j : Nat) v,c.vs[j]? = some v → ¬ v.n = ⟨#[]⟩) (hp : TxRow w pa pl pc p.zs) :
  Calls Tryz.prog 148 #[.agg #[.slice d.a1 d.l1 d.c1,.slice d.a2 d.l2 d.c2,.slice d.a3 d.l3 d.c3,.slice d.a4 d.l4 d.c4,.slice d.a5 d.l5 d.c5,.int .i64 c.now],.agg #[.string p.n,.int .i64 p.c,.string p.z,.slice pa pl pc,.string p.d,.int .i64 p.p]] w (BoolB (SuitI c p) w):=by
 have HR:=hidK hr;have HN:=hidK hn;have HX:=hidK hx;have HV:=hidK hv;have HNE:=hidK hne;have HP:=hidK hp;have hlc:=Nat.le_trans hp.2.1 hp.2.2.1;have hzl:=hp.1;have HB:=hidK (Below.refl w.heap.size w);clear hr hn hx hv hne hp
 go_enter Tryz.func148,Tryz.ntmps148
 go_wp2_with fail;refine (thend_any d c.now c.ns p.d w _ HR.out.n (below2 _ _ _)).mono ?_;rintro e w1 ⟨hb,hf⟩;obtain ⟨HA0,HA1,hbx⟩:=slots2 hb;have Bk:=hidK HA0;have Bp:=hidK HA1;replace HB:=upB HB hbx;clear hb hbx HA0 HA1
 rcases hf with ⟨hh,n,va,vl,vc,hx,hn,rfl,z0,z1,hvr⟩ | ⟨hh,rfl⟩
 rotate_left
 ·have HH:=hidK hh;clear hh;obtain ⟨k0,k1,k2,k3,k4,k5⟩:=cs6 Bk.out;obtain ⟨p0,p1,p2,p3,p4,p5⟩:=cs6 Bp.out;have ltp_1:=lt_of_some Bp.out
  go_wp2
  go_ret;refine BoolB.f (fun ⟨i,n,e1,e2,_⟩ => ?_) (HB.out.alloc HB.out.size _);have:=(hit_at HN.out e1 e2).2;rw [HH.out] at this
  cases this
 have HX1:=hidK hx;have HN1:=hidK hn;have HT1:=hidK hvr;clear hx hn hh z0 z1 hvr;have hz : (p.z = ⟨#[]⟩ ∨ p.z = n.z) ∨ ¬ (p.z = ⟨#[]⟩ ∨ p.z = n.z):=Classical.em _
 rcases hz with hz | hz
 rotate_left
 ·have q1:=isE_no (fun e => hz (.inl e));have q2:=tl_no (fun e => hz (.inr e));have HC:=hidK hz;clear hz;obtain ⟨k0,k1,k2,k3,k4,k5⟩:=cs6 Bk.out;obtain ⟨p0,p1,p2,p3,p4,p5⟩:=cs6 Bp.out;have ltp_1:=lt_of_some Bp.out
  go_wp2
  go_ret;refine BoolB.f (fun ⟨i,m,e1,e2,e3,_⟩ => ?_) (HB.out.alloc HB.out.size _);obtain ⟨_,rfl⟩:=HN.out.inj e1 HX1.out (e2.trans HN1.out.symm);exact HC.out e3
 have HC:=hidK hz
 have hq : (p.z.toList.isEmpty = true) ∨ (p.z.toList.isEmpty = false ∧ (p.z.toList == n.z.toList) = true):=by
  by_cases e : p.z = ⟨#[]⟩
  ·exact .inl (isE_y e)
  ·exact .inr ⟨isE_no e,tl_yes (HC.out.resolve_left e)⟩
 clear hz
 rcases hq with hq | ⟨hq,hq2⟩
 ·obtain ⟨k0,k1,k2,k3,k4,k5⟩:=cs6 Bk.out;obtain ⟨p0,p1,p2,p3,p4,p5⟩:=cs6 Bp.out;have ltp_1:=lt_of_some Bp.out
  go_wp2
  go_loopw [35] (fun i wr => ∃ k : Nat,k ≤ pl ∧ i = .int .i64 k ∧ Hid (∀ (j : Nat) t,j < k → p.zs[j]? = some t → ∃ v,IsBd c t v ∧ v.z = n.z) ∧ Hid (Below w.heap.size w wr) ∧ Hid (wr.heap[w.heap.size]? = some (.cells #[.slice d.a1 d.l1 d.c1,.slice d.a2 d.l2 d.c2,.slice d.a3 d.l3 d.c3,.slice d.a4 d.l4 d.c4,.slice d.a5 d.l5 d.c5,.int .i64 c.now] 36 (0,0))) ∧ Hid (wr.heap[w1.heap.size]? = some (.cells #[.string n.n,.string n.z,.int .i64 n.c,.int .i64 n.s,.int .i64 n.u,.bool n.d,.slice va vl vc] 56 (0,0)))) (fun i _ => pl - (intOf i).toNat)
  case atStart => exact ⟨0,by omega,rfl,fun _ _ h => absurd h (by omega),HB.out.alloc HB.out.size _,(Below.heap_alloc _ _ _ (lt_of_some Bk.out)).trans Bk.out,Array.getElem?_push_size⟩
  case round =>
   obtain ⟨k,hk,rfl,HQ,HB,Bk,Bn⟩:=hrel
   by_cases hlt : k < pl
   ·obtain ⟨b,o,t,rfl,hb,hx,hc,hsz⟩:=(HP.out.below HB.out).at hlt;have HXt:=hidK hx;clear hx hsz;obtain ⟨k0,k1,k2,k3,k4,k5⟩:=cs6 Bk.out;obtain ⟨n0,n1,n2,n3,n4,n5,n6⟩:=cs7 Bn.out;go_wp2_with fail;refine (ibd_any d c t w _ HR.out HB.out HX.out HV.out HNE.out).mono ?_;rintro e w2 ⟨hb2,hf⟩;clear k0 k1 k2 k3 k4 k5 n0 n1 n2 n3 n4 n5 n6;replace Bk:=upK Bk hb2;replace Bn:=upK Bn hb2;replace HB:=upB HB hb2;clear hb2;clear hb hc
    rcases hf with ⟨v,xa,xl,xc,hbd,rfl,z0,z2,hxr⟩ | ⟨hbd,rfl⟩
    rotate_left
    ·have HD:=hidK hbd;clear hbd;obtain ⟨k0,k1,k2,k3,k4,k5⟩:=cs6 Bk.out;obtain ⟨n0,n1,n2,n3,n4,n5,n6⟩:=cs7 Bn.out;have ltn_1:=lt_of_some Bn.out
     go_wp2
     go_ret;refine BoolB.f (fun ⟨i,m,e1,e2,e3,e4⟩ => ?_) (HB.out.alloc HB.out.size _);obtain ⟨v,e5,_⟩:=e4 k t HXt.out;exact HD.out v e5
    have HD:=hidK hbd;clear hbd hxr z0 z2
    by_cases hz2 : v.z = n.z
    ·have q3:=tl_yes hz2;have HZ2:=hidK hz2;clear hz2;obtain ⟨k0,k1,k2,k3,k4,k5⟩:=cs6 Bk.out;obtain ⟨n0,n1,n2,n3,n4,n5,n6⟩:=cs7 Bn.out;have ltn_1:=lt_of_some Bn.out;go_wp2_with fail;refine ⟨⟨k + 1,by omega,by go_num,fun j s hj hs => ?_,(HB.out.alloc HB.out.size _),(Below.heap_alloc _ _ _ (lt_of_some Bk.out)).trans Bk.out,(Below.heap_alloc _ _ _ (lt_of_some Bn.out)).trans Bn.out⟩,by simp [intOf];omega⟩
     by_cases e : j = k
     ·subst e;rw [HXt.out] at hs;obtain rfl:=Option.some.inj hs;exact ⟨v,HD.out,HZ2.out⟩
     ·exact HQ.out j s (by omega) hs
    ·have q3:=tl_no hz2;have HZ2:=hidK hz2;clear hz2;obtain ⟨k0,k1,k2,k3,k4,k5⟩:=cs6 Bk.out;obtain ⟨n0,n1,n2,n3,n4,n5,n6⟩:=cs7 Bn.out;have ltn_1:=lt_of_some Bn.out
     go_wp2
     go_ret;refine BoolB.f (fun ⟨i,m,e1,e2,e3,e4⟩ => ?_) (HB.out.alloc HB.out.size _);obtain ⟨_,rfl⟩:=HN.out.inj e1 HX1.out (e2.trans HN1.out.symm);obtain ⟨v',e5,e6⟩:=e4 k t HXt.out;obtain rfl:=IsBd.inj HX.out HV.out HD.out e5;exact HZ2.out e6
   ·obtain rfl : pl = k:=by omega
    go_wp2
    go_ret;exact BoolB.t ⟨_,n,HX1.out,HN1.out,HC.out,fun j t ht => HQ.out j t (by have:=(List.getElem?_eq_some_iff.1 ht).1;omega) ht⟩ HB.out
 ·obtain ⟨k0,k1,k2,k3,k4,k5⟩:=cs6 Bk.out;obtain ⟨p0,p1,p2,p3,p4,p5⟩:=cs6 Bp.out;have ltp_1:=lt_of_some Bp.out
  go_wp2
  go_loopw [35] (fun i wr => ∃ k : Nat,k ≤ pl ∧ i = .int .i64 k ∧ Hid (∀ (j : Nat) t,j < k → p.zs[j]? = some t → ∃ v,IsBd c t v ∧ v.z = n.z) ∧ Hid (Below w.heap.size w wr) ∧ Hid (wr.heap[w.heap.size]? = some (.cells #[.slice d.a1 d.l1 d.c1,.slice d.a2 d.l2 d.c2,.slice d.a3 d.l3 d.c3,.slice d.a4 d.l4 d.c4,.slice d.a5 d.l5 d.c5,.int .i64 c.now] 36 (0,0))) ∧ Hid (wr.heap[w1.heap.size]? = some (.cells #[.string n.n,.string n.z,.int .i64 n.c,.int .i64 n.s,.int .i64 n.u,.bool n.d,.slice va vl vc] 56 (0,0)))) (fun i _ => pl - (intOf i).toNat)
  case atStart => exact ⟨0,by omega,rfl,fun _ _ h => absurd h (by omega),HB.out.alloc HB.out.size _,(Below.heap_alloc _ _ _ (lt_of_some Bk.out)).trans Bk.out,Array.getElem?_push_size⟩
  case round =>
   obtain ⟨k,hk,rfl,HQ,HB,Bk,Bn⟩:=hrel
   by_cases hlt : k < pl
   ·obtain ⟨b,o,t,rfl,hb,hx,hc,hsz⟩:=(HP.out.below HB.out).at hlt;have HXt:=hidK hx;clear hx hsz;obtain ⟨k0,k1,k2,k3,k4,k5⟩:=cs6 Bk.out;obtain ⟨n0,n1,n2,n3,n4,n5,n6⟩:=cs7 Bn.out;go_wp2_with fail;refine (ibd_any d c t w _ HR.out HB.out HX.out HV.out HNE.out).mono ?_;rintro e w2 ⟨hb2,hf⟩;clear k0 k1 k2 k3 k4 k5 n0 n1 n2 n3 n4 n5 n6;replace Bk:=upK Bk hb2;replace Bn:=upK Bn hb2;replace HB:=upB HB hb2;clear hb2;clear hb hc
    rcases hf with ⟨v,xa,xl,xc,hbd,rfl,z0,z2,hxr⟩ | ⟨hbd,rfl⟩
    rotate_left
    ·have HD:=hidK hbd;clear hbd;obtain ⟨k0,k1,k2,k3,k4,k5⟩:=cs6 Bk.out;obtain ⟨n0,n1,n2,n3,n4,n5,n6⟩:=cs7 Bn.out;have ltn_1:=lt_of_some Bn.out
     go_wp2
     go_ret;refine BoolB.f (fun ⟨i,m,e1,e2,e3,e4⟩ => ?_) (HB.out.alloc HB.out.size _);obtain ⟨v,e5,_⟩:=e4 k t HXt.out;exact HD.out v e5
    have HD:=hidK hbd;clear hbd hxr z0 z2
    by_cases hz2 : v.z = n.z
    ·have q3:=tl_yes hz2;have HZ2:=hidK hz2;clear hz2;obtain ⟨k0,k1,k2,k3,k4,k5⟩:=cs6 Bk.out;obtain ⟨n0,n1,n2,n3,n4,n5,n6⟩:=cs7 Bn.out;have ltn_1:=lt_of_some Bn.out;go_wp2_with fail;refine ⟨⟨k + 1,by omega,by go_num,fun j s hj hs => ?_,(HB.out.alloc HB.out.size _),(Below.heap_alloc _ _ _ (lt_of_some Bk.out)).trans Bk.out,(Below.heap_alloc _ _ _ (lt_of_some Bn.out)).trans Bn.out⟩,by simp [intOf];omega⟩
     by_cases e : j = k
     ·subst e;rw [HXt.out] at hs;obtain rfl:=Option.some.inj hs;exact ⟨v,HD.out,HZ2.out⟩
     ·exact HQ.out j s (by omega) hs
    ·have q3:=tl_no hz2;have HZ2:=hidK hz2;clear hz2;obtain ⟨k0,k1,k2,k3,k4,k5⟩:=cs6 Bk.out;obtain ⟨n0,n1,n2,n3,n4,n5,n6⟩:=cs7 Bn.out;have ltn_1:=lt_of_some Bn.out
     go_wp2
     go_ret;refine BoolB.f (fun ⟨i,m,e1,e2,e3,e4⟩ => ?_) (HB.out.alloc HB.out.size _);obtain ⟨_,rfl⟩:=HN.out.inj e1 HX1.out (e2.trans HN1.out.symm);obtain ⟨v',e5,e6⟩:=e4 k t HXt.out;obtain rfl:=IsBd.inj HX.out HV.out HD.out e5;exact HZ2.out e6
   ·obtain rfl : pl = k:=by omega
    go_wp2
    go_ret;exact BoolB.t ⟨_,n,HX1.out,HN1.out,HC.out,fun j t ht => HQ.out j t (by have:=(List.getElem?_eq_some_iff.1 ht).1;omega) ht⟩ HB.out

theorem irun_any (d : Ad) (c : Cl) (p : Pd) (pa : Option Addr) (pl pc : Nat) (w : World) (hr : ClRow w d c.raw) (hn : RisBy Nd.n c.ns) (hx : RisBy Xd.n c.xs) (hv : RisBy Vd.n c.vs) (hne : ∀ (j : Nat) v,c.vs[j]? = some v → ¬ v.n = ⟨#[]⟩) (hp : TxRow w pa pl pc p.zs) :
  Calls Tryz.prog 153 #[.agg #[.slice d.a1 d.l1 d.c1,.slice d.a2 d.l2 d.c2,.slice d.a3 d.l3 d.c3,.slice d.a4 d.l4 d.c4,.slice d.a5 d.l5 d.c5,.int .i64 c.now],.agg #[.string p.n,.int .i64 p.c,.string p.z,.slice pa pl pc,.string p.d,.int .i64 p.p]] w (BoolB (RunI c p) w):=by
 have HR:=hidK hr;have HN:=hidK hn;have HX:=hidK hx;have HV:=hidK hv;have HNE:=hidK hne;have HP:=hidK hp;have hlc:=Nat.le_trans hp.2.1 hp.2.2.1;have hzl:=hp.1;have HB:=hidK (Below.refl w.heap.size w);clear hr hn hx hv hne hp
 go_enter Tryz.func153,Tryz.ntmps153
 go_wp2_with fail;refine (thend_any d c.now c.ns p.d w _ HR.out.n (below2 _ _ _)).mono ?_;rintro e w1 ⟨hb,hf⟩;obtain ⟨HA0,HA1,hbx⟩:=slots2 hb;have Bk:=hidK HA0;have Bp:=hidK HA1;replace HB:=upB HB hbx;clear hb hbx HA0 HA1
 rcases hf with ⟨hh,n,va,vl,vc,hx,hn,rfl,z0,z1,hvr⟩ | ⟨hh,rfl⟩
 rotate_left
 ·have HH:=hidK hh;clear hh;obtain ⟨k0,k1,k2,k3,k4,k5⟩:=cs6 Bk.out;obtain ⟨p0,p1,p2,p3,p4,p5⟩:=cs6 Bp.out;have ltp_1:=lt_of_some Bp.out
  go_wp2
  go_ret;refine BoolB.f (fun ⟨i,n,e1,e2,_⟩ => ?_) (HB.out.alloc HB.out.size _);have:=(hit_at HN.out e1 e2).2;rw [HH.out] at this
  cases this
 have HX1:=hidK hx;have HN1:=hidK hn;have HT1:=hidK hvr;clear hx hn hh z0 z1 hvr
 cases hd : n.d
 rotate_left
 ·obtain ⟨k0,k1,k2,k3,k4,k5⟩:=cs6 Bk.out;obtain ⟨p0,p1,p2,p3,p4,p5⟩:=cs6 Bp.out;have ltp_1:=lt_of_some Bp.out
  go_wp2
  go_ret;refine BoolB.f (fun ⟨i,m,e1,e2,e3,_⟩ => ?_) (HB.out.alloc HB.out.size _);obtain ⟨_,rfl⟩:=HN.out.inj e1 HX1.out (e2.trans HN1.out.symm);rw [hd] at e3
  cases e3
 have HC:=hidK hd;clear hd;obtain ⟨k0,k1,k2,k3,k4,k5⟩:=cs6 Bk.out;obtain ⟨p0,p1,p2,p3,p4,p5⟩:=cs6 Bp.out;have ltp_1:=lt_of_some Bp.out
 go_wp2
 go_loopw [27] (fun i wr => ∃ k : Nat,k ≤ pl ∧ i = .int .i64 k ∧ Hid (∀ (j : Nat) t,j < k → p.zs[j]? = some t → ∃ v,IsBd c t v ∧ InL n.zs v.n) ∧ Hid (Below w.heap.size w wr) ∧ Hid (wr.heap[w.heap.size]? = some (.cells #[.slice d.a1 d.l1 d.c1,.slice d.a2 d.l2 d.c2,.slice d.a3 d.l3 d.c3,.slice d.a4 d.l4 d.c4,.slice d.a5 d.l5 d.c5,.int .i64 c.now] 36 (0,0))) ∧ Hid (wr.heap[w1.heap.size]? = some (.cells #[.string n.n,.string n.z,.int .i64 n.c,.int .i64 n.s,.int .i64 n.u,.bool false,.slice va vl vc] 56 (0,0)))) (fun i _ => pl - (intOf i).toNat)
 case atStart => exact ⟨0,by omega,rfl,fun _ _ h => absurd h (by omega),HB.out.alloc HB.out.size _,(Below.heap_alloc _ _ _ (lt_of_some Bk.out)).trans Bk.out,Array.getElem?_push_size⟩
 case round =>
  obtain ⟨k,hk,rfl,HQ,HB,Bk,Bn⟩:=hrel
  by_cases hlt : k < pl
  ·obtain ⟨b,o,t,rfl,hb,hx,hc,hsz⟩:=(HP.out.below HB.out).at hlt;have HXt:=hidK hx;clear hx hsz;obtain ⟨k0,k1,k2,k3,k4,k5⟩:=cs6 Bk.out;obtain ⟨n0,n1,n2,n3,n4,n5,n6⟩:=cs7 Bn.out;go_wp2_with fail;refine (ibd_any d c t w _ HR.out HB.out HX.out HV.out HNE.out).mono ?_;rintro e w2 ⟨hb2,hf⟩;clear k0 k1 k2 k3 k4 k5 n0 n1 n2 n3 n4 n5 n6;replace Bk:=upK Bk hb2;replace Bn:=upK Bn hb2;replace HB:=upB HB hb2;clear hb2;clear hb hc
   rcases hf with ⟨v,xa,xl,xc,hbd,rfl,z0,z2,hxr⟩ | ⟨hbd,rfl⟩
   rotate_left
   ·have HD:=hidK hbd;clear hbd;obtain ⟨k0,k1,k2,k3,k4,k5⟩:=cs6 Bk.out;obtain ⟨n0,n1,n2,n3,n4,n5,n6⟩:=cs7 Bn.out;have ltn_1:=lt_of_some Bn.out
    go_wp2
    go_ret;refine BoolB.f (fun ⟨i,m,e1,e2,e3,e4⟩ => ?_) (HB.out.alloc HB.out.size _);obtain ⟨v,e5,_⟩:=e4 k t HXt.out;exact HD.out v e5
   have HD:=hidK hbd;clear hbd hxr z0 z2;obtain ⟨k0,k1,k2,k3,k4,k5⟩:=cs6 Bk.out;obtain ⟨n0,n1,n2,n3,n4,n5,n6⟩:=cs7 Bn.out;have ltn_1:=lt_of_some Bn.out;go_wp2_with fail;refine (icontains_any va vl vc n.zs v.n _ (HT1.out.below (HB.out.trans ((below1 _ _).mono HB.out.size)))).mono ?_;rintro e w3 ⟨r,rfl,hi,hb3⟩;clear k0 k1 k2 k3 k4 k5 n0 n1 n2 n3 n4 n5 n6 ltn_1;obtain ⟨HA0,hbx⟩:=slots1 hb3;replace Bk:=upK Bk hbx;replace Bn:=upK Bn hbx;replace HB:=upB HB hbx;clear hb3 hbx HA0;have HI:=hidK hi;clear hi
   cases r
   ·go_wp2
    go_ret;refine BoolB.f (fun ⟨i,m,e1,e2,e3,e4⟩ => ?_) HB.out;obtain ⟨_,rfl⟩:=HN.out.inj e1 HX1.out (e2.trans HN1.out.symm);obtain ⟨v',e5,e6⟩:=e4 k t HXt.out;obtain rfl:=IsBd.inj HX.out HV.out HD.out e5;have:=HI.out.2 e6
    cases this
   ·go_wp2_with fail;refine ⟨⟨k + 1,by omega,by go_num,fun j s hj hs => ?_,HB.out,Bk.out,Bn.out⟩,by simp [intOf];omega⟩
    by_cases e : j = k
    ·subst e;rw [HXt.out] at hs;obtain rfl:=Option.some.inj hs;exact ⟨v,HD.out,HI.out.1 (by first | trivial | rfl)⟩
    ·exact HQ.out j s (by omega) hs
  ·obtain rfl : pl = k:=by omega
   go_wp2
   go_ret;exact BoolB.t ⟨_,n,HX1.out,HN1.out,HC.out,fun j t ht => HQ.out j t (by have:=(List.getElem?_eq_some_iff.1 ht).1;omega) ht⟩ HB.out

theorem imnt_any (d : Ad) (c : Cl) (n : Nd) (pa : Option Addr) (pl pc : Nat) (w : World) (hr : ClRow w d c.raw) (hv : RisBy Vd.n c.vs) (hp : TxRow w pa pl pc n.zs) :
  Calls Tryz.prog 152 #[.agg #[.slice d.a1 d.l1 d.c1,.slice d.a2 d.l2 d.c2,.slice d.a3 d.l3 d.c3,.slice d.a4 d.l4 d.c4,.slice d.a5 d.l5 d.c5,.int .i64 c.now],.agg #[.string n.n,.string n.z,.int .i64 n.c,.int .i64 n.s,.int .i64 n.u,.bool n.d,.slice pa pl pc]] w (BoolB (MntI c n) w):=by
 have HR:=hidK hr;have HV:=hidK hv;have HP:=hidK hp;have hlc:=Nat.le_trans hp.2.1 hp.2.2.1;have hzl:=hp.1;clear hr hv hp
 go_enter Tryz.func152,Tryz.ntmps152
 go_wp2
 go_loopw [12] (fun i wr => ∃ k : Nat,k ≤ pl ∧ i = .int .i64 k ∧ Hid (∀ (j : Nat) t,j < k → n.zs[j]? = some t → ∃ (i : Nat) (v : Vd),c.vs[i]? = some v ∧ v.n = t ∧ (n.d = true ∨ InL v.zs n.n)) ∧ Hid (Below w.heap.size w wr) ∧ Hid (wr.heap[w.heap.size]? = some (.cells #[.slice d.a1 d.l1 d.c1,.slice d.a2 d.l2 d.c2,.slice d.a3 d.l3 d.c3,.slice d.a4 d.l4 d.c4,.slice d.a5 d.l5 d.c5,.int .i64 c.now] 36 (0,0))) ∧ Hid (wr.heap[w.heap.size + 1]? = some (.cells #[.string n.n,.string n.z,.int .i64 n.c,.int .i64 n.s,.int .i64 n.u,.bool n.d,.slice pa pl pc] 56 (0,0)))) (fun i _ => pl - (intOf i).toNat)
 case atStart => exact ⟨0,by omega,rfl,fun _ _ h => absurd h (by omega),below2 _ _ _,heap2_0 _ _ _,heap2_1 _ _ _⟩
 case round =>
  obtain ⟨k,hk,rfl,HQ,HB,Bk,Bn⟩:=hrel
  by_cases hlt : k < pl
  ·obtain ⟨b,o,t,rfl,hb,hx,hc,hsz⟩:=(HP.out.below HB.out).at hlt;have HXt:=hidK hx;clear hx hsz;obtain ⟨k0,k1,k2,k3,k4,k5⟩:=cs6 Bk.out;obtain ⟨n0,n1,n2,n3,n4,n5,n6⟩:=cs7 Bn.out;go_wp2_with fail;refine (thevd_any d c.now c.vs t w _ HR.out.v HB.out).mono ?_;rintro e w2 ⟨hb2,hf⟩;clear k0 k1 k2 k3 k4 k5 n0 n1 n2 n3 n4 n5 n6;replace Bk:=upK Bk hb2;replace Bn:=upK Bn hb2;replace HB:=upB HB hb2;clear hb2;clear hb hc
   rcases hf with ⟨hh,v,va,vl,vc,hx,hn,rfl,z0,z2,z3,z5,hvr⟩ | ⟨hh,rfl⟩
   rotate_left
   ·have HH:=hidK hh;clear hh;obtain ⟨k0,k1,k2,k3,k4,k5⟩:=cs6 Bk.out;obtain ⟨n0,n1,n2,n3,n4,n5,n6⟩:=cs7 Bn.out;have ltn_1:=lt_of_some Bn.out
    go_wp2
    go_ret;refine BoolB.f (fun h => ?_) (HB.out.alloc HB.out.size _);obtain ⟨i,v,e1,e2,_⟩:=h k t HXt.out;have:=(hit_at HV.out e1 e2).2;rw [HH.out] at this
    cases this
   have HXv:=hidK hx;have HNv:=hidK hn;have HTv:=hidK hvr;clear hx hn hh z0 z2 z3 z5 hvr
   rcases Bool.eq_false_or_eq_true n.d with hd | hd
   ·have HD:=hidK hd;clear hd;obtain ⟨k0,k1,k2,k3,k4,k5⟩:=cs6 Bk.out;obtain ⟨n0,n1,n2,n3,n4,-,n6⟩:=cs7 Bn.out;have ltn_1:=lt_of_some Bn.out;have n5:=(cellK Bn.out 5).trans (congrArg (fun z => some (Value.bool z)) HD.out);go_wp2_with fail;refine ⟨⟨k + 1,by omega,by go_num,fun j s hj hs => ?_,(HB.out.alloc HB.out.size _),(Below.heap_alloc _ _ _ (lt_of_some Bk.out)).trans Bk.out,(Below.heap_alloc _ _ _ (lt_of_some Bn.out)).trans Bn.out⟩,by simp [intOf];omega⟩
    by_cases e : j = k
    ·subst e;rw [HXt.out] at hs;obtain rfl:=Option.some.inj hs;exact ⟨_,v,HXv.out,HNv.out,.inl HD.out⟩
    ·exact HQ.out j s (by omega) hs
   ·have HD:=hidK hd;clear hd;obtain ⟨k0,k1,k2,k3,k4,k5⟩:=cs6 Bk.out;obtain ⟨n0,n1,n2,n3,n4,-,n6⟩:=cs7 Bn.out;have ltn_1:=lt_of_some Bn.out;have n5:=(cellK Bn.out 5).trans (congrArg (fun z => some (Value.bool z)) HD.out);go_wp2_with fail;refine (icontains_any va vl vc v.zs n.n _ (HTv.out.below (HB.out.trans ((below1 _ _).mono HB.out.size)))).mono ?_;rintro e w3 ⟨r,rfl,hi,hb3⟩;clear k0 k1 k2 k3 k4 k5 n0 n1 n2 n3 n4 n6 ltn_1 n5;obtain ⟨HA0,hbx⟩:=slots1 hb3;replace Bk:=upK Bk hbx;replace Bn:=upK Bn hbx;have Bv:=hidK HA0;replace HB:=upB HB hbx;clear hb3 hbx HA0;have HI:=hidK hi;clear hi
    cases r
    ·go_wp2
     go_ret;refine BoolB.f (fun h => ?_) HB.out;obtain ⟨i,v',e1,e2,e3⟩:=h k t HXt.out;obtain ⟨_,rfl⟩:=HV.out.inj e1 HXv.out (e2.trans HNv.out.symm)
     rcases e3 with e3 | e3
     ·rw [HD.out] at e3;cases e3
     ·have:=HI.out.2 e3
      cases this
    ·go_wp2_with fail;refine ⟨⟨k + 1,by omega,by go_num,fun j s hj hs => ?_,HB.out,Bk.out,Bn.out⟩,by simp [intOf];omega⟩
     by_cases e : j = k
     ·subst e;rw [HXt.out] at hs;obtain rfl:=Option.some.inj hs;exact ⟨_,v,HXv.out,HNv.out,.inr (HI.out.1 (by first | trivial | rfl))⟩
     ·exact HQ.out j s (by omega) hs
  ·obtain rfl : pl = k:=by omega
   go_wp2
   go_ret;exact BoolB.t (fun j t ht => HQ.out j t (by have:=(List.getElem?_eq_some_iff.1 ht).1;omega) ht) HB.out

open Classical in
noncomputable def onOf (t : ByteArray) : List Vd → Int
 | [] => 0
 | v :: vs => (if InL v.zs t then 1 else 0) + onOf t vs
theorem onOf_append (t : ByteArray) : ∀ vs us : List Vd,onOf t (vs ++ us) = onOf t vs + onOf t us
 | [],us => by simp [onOf]
 | v :: vs,us => by simp [onOf,onOf_append t vs];omega
open Classical in
theorem onOf_step {t : ByteArray} {vs : List Vd} {k : Nat} {v : Vd} (h : vs[k]? = some v) : onOf t (vs.take (k + 1)) = onOf t (vs.take k) + (if InL v.zs t then 1 else 0):=by
 rw [List.take_add_one,h,onOf_append]
 simp [onOf]

theorem iusedSlots_any (d : Ad) (now : Int) (vs : List Vd) (t : ByteArray) (w : World) (hr : RRow w d.a3 d.l3 d.c3 8 (vs.map vdF)) (hl : vs.length ≤ 8) :
  Calls Tryz.prog 151 #[.agg #[.slice d.a1 d.l1 d.c1,.slice d.a2 d.l2 d.c2,.slice d.a3 d.l3 d.c3,.slice d.a4 d.l4 d.c4,.slice d.a5 d.l5 d.c5,.int .i64 now],.string t] w fun e w' => e = .returned (.int .i64 (onOf t vs)) ∧ Below w.heap.size w w':=by
 obtain ⟨a1,l1,y1,a2,l2,y2,a3,l3,y3,a4,l4,y4,a5,l5,y5⟩:=d;dsimp only at hr ⊢;have HR:=hidK hr
 have hxl : vs.length = l3:=by simpa using hr.1
 clear hr
 go_enter Tryz.func151,Tryz.ntmps151
 go_wp2
 go_loopw [5,11] (fun q i wr => ∃ (k : Nat) (s : Int),k ≤ l3 ∧ q = .int .i64 s ∧ i = .int .i64 k ∧ Hid (s = onOf t (vs.take k)) ∧ 0 ≤ s ∧ s ≤ k ∧ Hid (Below w.heap.size w wr)) (fun _ i _ => l3 - (intOf i).toNat)
 case atStart => exact ⟨0,0,by omega,rfl,rfl,rfl,by omega,by omega,below1 _ _⟩
 case round =>
  obtain ⟨k,s,hk,rfl,rfl,HS,hs0,hs1,HB⟩:=hrel
  by_cases hlt : k < l3
  ·obtain ⟨b,o,v,rfl,hb,hx,hat⟩:=vd_at (HR.out.below HB.out) hlt;obtain ⟨va,vl,vc,hvr,z0,z2,z3,z5,c0,c1,c2,c3,c4,c5,c6,c7⟩:=vd_cells hat;have HX:=hidK hx;have HT:=hidK hvr;clear hat hx z0 z2 z3 z5 hvr;go_wp2_with fail;refine (icontains_any va vl vc v.zs t _ (HT.out.below (below1 _ _))).mono ?_;rintro e w1 ⟨r,rfl,hi,hb2⟩;obtain ⟨HA0,hbx⟩:=slots1 hb2;replace HB:=upB HB hbx;clear hb2 hbx HA0;have HI:=hidK hi;clear hi hb c0 c1 c2 c3 c4 c5 c6 c7
   cases r
   ·go_wp2
    refine ⟨⟨k + 1,s,by omega,rfl,by go_num,?_,by omega,by omega,HB.out⟩,by simp [intOf];omega⟩
    show _ = _
    rw [onOf_step HX.out,if_neg (fun h => by have:=HI.out.2 h;cases this),← HS.out,Int.add_zero]
   ·go_wp2
    refine ⟨⟨k + 1,s + 1,by omega,by go_num,by go_num,?_,by omega,by omega,HB.out⟩,by simp [intOf];omega⟩
    show _ = _
    rw [onOf_step HX.out,if_pos (HI.out.1 (by first | trivial | rfl)),← HS.out]
  ·obtain rfl : l3 = k:=by omega
   go_wp2
   go_ret;exact ⟨congrArg (fun z => Ending.returned (.int .i64 z)) (HS.out.trans (by rw [List.take_of_length_le (by omega)])),HB.out⟩

def PQ1 (c : Cl) (p : Pd) : Prop:=(∀ (j : Nat) t,p.zs[j]? = some t → hit Xd.n c.xs t = true) ∧ (p.d = ⟨#[]⟩ ∨ SuitI c p)
def PQ2 (c : Cl) (n : Nd) : Prop:=cpuOf n.n c.ps ≤ n.c
def PQ3 (c : Cl) (v : Vd) : Prop:=v.x = true → ¬ v.m = ⟨#[]⟩ → OneNode c v.m
def PlacedI (c : Cl) : Prop:=(∀ (j : Nat) z,c.ps[j]? = some z → PQ1 c z) ∧ (∀ (j : Nat) z,c.ns[j]? = some z → PQ2 c z) ∧ (∀ (j : Nat) z,c.vs[j]? = some z → PQ3 c z)

theorem iplaced_any (d : Ad) (c : Cl) (w : World) (hr : ClRow w d c.raw) (hn : RisBy Nd.n c.ns) (hx : RisBy Xd.n c.xs) (hv : RisBy Vd.n c.vs) (hne : ∀ (j : Nat) v,c.vs[j]? = some v → ¬ v.n = ⟨#[]⟩) (hps8 : c.ps.length ≤ 8) (hpc : ∀ (j : Nat) p,c.ps[j]? = some p → 0 ≤ p.c ∧ p.c ≤ 1000000) (hG : ens w) :
  Calls Tryz.prog 128 #[.agg #[.slice d.a1 d.l1 d.c1,.slice d.a2 d.l2 d.c2,.slice d.a3 d.l3 d.c3,.slice d.a4 d.l4 d.c4,.slice d.a5 d.l5 d.c5,.int .i64 c.now]] w (BoolB (PlacedI c) w):=by
 obtain ⟨a1,l1,y1,a2,l2,y2,a3,l3,y3,a4,l4,y4,a5,l5,y5⟩:=d;dsimp only;have HR:=hidK hr
 have hl1 : c.ns.length = l1:=by simpa using (show (c.ns.map ndF).length = l1 from hr.n.1)
 have hm1 : l1 ≤ 9223372036854775807:=Nat.le_trans hr.n.2.1 hr.n.2.2.1
 have hl3 : c.vs.length = l3:=by simpa using (show (c.vs.map vdF).length = l3 from hr.v.1)
 have hm3 : l3 ≤ 9223372036854775807:=Nat.le_trans hr.v.2.1 hr.v.2.2.1
 have hl5 : c.ps.length = l5:=by simpa using (show (c.ps.map pdF).length = l5 from hr.p.1)
 have hm5 : l5 ≤ 9223372036854775807:=Nat.le_trans hr.p.2.1 hr.p.2.2.1;clear hr;have HE:=hidK hG;have HNR:=hidK hn;have HXR:=hidK hx;have HVR:=hidK hv;have HNE:=hidK hne;have HL5:=hidK hps8;have HPC:=hidK hpc;clear hn hx hv hne hps8 hpc hG
 go_enter Tryz.func128,Tryz.ntmps128
 go_wp2
 go_loopw [12] (fun i wr => ∃ k : Nat,k ≤ l5 ∧ i = .int .i64 k ∧ Hid (∀ (j : Nat) z,j < k → c.ps[j]? = some z → PQ1 c z) ∧ Hid (Below w.heap.size w wr) ∧ Hid (wr.heap[w.heap.size]? = some (.cells #[.slice a1 l1 y1,.slice a2 l2 y2,.slice a3 l3 y3,.slice a4 l4 y4,.slice a5 l5 y5,.int .i64 c.now] 36 (0,0)))) (fun i _ => l5 - (intOf i).toNat)
 case atStart => exact ⟨0,by omega,rfl,fun _ _ h => absurd h (by omega),below1 _ _,Array.getElem?_push_size⟩
 case round =>
  obtain ⟨k,hk,rfl,HQ,HB,Bk⟩:=hrel
  by_cases hlt : k < l5
  ·obtain ⟨b,o,p,rfl,hb,hx,hat⟩:=pd_at (HR.out.p.below HB.out) hlt;obtain ⟨va,vl,vc,hvr,z0,z2,z4,c0,c1,c2,c3,c4,c5⟩:=pd_cells hat;have HXp:=hidK hx;have HTp:=hidK hvr;clear hat hx z0 z2 z4 hvr;obtain ⟨k0,k1,k2,k3,k4,k5⟩:=cs6 Bk.out;have ltk_0:=lt_of_some Bk.out;go_wp2_with fail;refine (iclaimsWhy_any ⟨a1,l1,y1,a2,l2,y2,a3,l3,y3,a4,l4,y4,(some ⟨b,o,none⟩),l5,y5⟩ c.now c.xs va vl vc p.zs _ (HR.out.x.below (HB.out.trans ((below1 _ _).mono HB.out.size))) (HTp.out.below (below1 _ _)) (HE.out.below (HB.out.trans ((below1 _ _).mono HB.out.size)))).mono ?_;rintro e w1 ⟨hb2,hf⟩;clear k0 k1 k2 k3 k4 k5 ltk_0;obtain ⟨HA0,hbx⟩:=slots1 hb2;replace Bk:=upK Bk hbx;have Br:=hidK HA0;replace HTp:=hidK (HTp.out.below hbx);replace HB:=upB HB hbx;clear hb2 hbx HA0;clear hb c0 c1 c2 c3 c4 c5
   rcases hf with ⟨hh,rfl⟩ | ⟨hh,T,q,rfl⟩
   rotate_left
   ·have HH:=hidK hh;clear hh;obtain ⟨k0,k1,k2,k3,k4,k5⟩:=cs6 Bk.out;obtain ⟨r0,r1,r2,r3,r4,r5⟩:=cs6 Br.out
    go_wp2
    go_ret;exact BoolB.f (fun h => HH.out (h.1 k p HXp.out).1) HB.out
   have HH:=hidK hh;clear hh
   by_cases he : p.d = ⟨#[]⟩
   ·have hq:=isE_y he;have HEm:=hidK he;clear he;obtain ⟨k0,k1,k2,k3,k4,k5⟩:=cs6 Bk.out;obtain ⟨r0,r1,r2,r3,r4,r5⟩:=cs6 Br.out;go_wp2_with fail;refine ⟨⟨k + 1,by omega,by go_num,fun j z hj hz => ?_,HB.out,Bk.out⟩,by simp [intOf];omega⟩
    by_cases e : j = k
    ·subst e;rw [HXp.out] at hz;obtain rfl:=Option.some.inj hz;exact ⟨HH.out,.inl HEm.out⟩
    ·exact HQ.out j z (by omega) hz
   ·have hq:=isE_no he;have HEm:=hidK he;clear he;obtain ⟨k0,k1,k2,k3,k4,k5⟩:=cs6 Bk.out;obtain ⟨r0,r1,r2,r3,r4,r5⟩:=cs6 Br.out;go_wp2_with fail;refine (isuit_any ⟨a1,l1,y1,a2,l2,y2,a3,l3,y3,a4,l4,y4,(some ⟨b,o,none⟩),l5,y5⟩ c p va vl vc _ (HR.out.below HB.out) HNR.out HXR.out HVR.out HNE.out HTp.out).mono ?_;rintro e w2 ⟨r,rfl,hi,hb3⟩;clear k0 k1 k2 k3 k4 k5 r0 r1 r2 r3 r4 r5;replace Bk:=upK Bk hb3;replace Br:=upK Br hb3;replace HTp:=hidK (HTp.out.below hb3);replace HB:=upB HB hb3;clear hb3;have HI:=hidK hi;clear hi
    cases r
    ·go_wp2
     go_ret;refine BoolB.f (fun h => ?_) HB.out
     rcases (h.1 k p HXp.out).2 with h2 | h2
     ·exact HEm.out h2
     ·have:=HI.out.2 h2
      cases this
    ·go_wp2_with fail;refine ⟨⟨k + 1,by omega,by go_num,fun j z hj hz => ?_,HB.out,Bk.out⟩,by simp [intOf];omega⟩
     by_cases e : j = k
     ·subst e;rw [HXp.out] at hz;obtain rfl:=Option.some.inj hz;exact ⟨HH.out,.inr (HI.out.1 (by first | trivial | rfl))⟩
     ·exact HQ.out j z (by omega) hz
  ·obtain rfl : l5 = k:=by omega
   have HQ1 : Hid (∀ (j : Nat) z,c.ps[j]? = some z → PQ1 c z):=fun j z hz => HQ.out j z (by have:=(List.getElem?_eq_some_iff.1 hz).1;omega) hz;clear HQ;have kc:=ck0 Bk.out
   go_wp2
   go_loopw [36] (fun i wr => ∃ k : Nat,k ≤ l1 ∧ i = .int .i64 k ∧ Hid (∀ (j : Nat) z,j < k → c.ns[j]? = some z → PQ2 c z) ∧ Hid (Below w.heap.size w wr) ∧ Hid (wr.heap[w.heap.size]? = some (.cells #[.slice a1 l1 y1,.slice a2 l2 y2,.slice a3 l3 y3,.slice a4 l4 y4,.slice a5 l5 y5,.int .i64 c.now] 36 (0,0)))) (fun i _ => l1 - (intOf i).toNat)
   case atStart => exact ⟨0,by omega,rfl,fun _ _ h => absurd h (by omega),HB.out,Bk.out⟩
   case round =>
    obtain ⟨k,hk,rfl,HQ,HB,Bk⟩:=hrel
    by_cases hlt : k < l1
    ·obtain ⟨b,o,n,rfl,hb,hx,hat⟩:=nd_at (HR.out.n.below HB.out) hlt;obtain ⟨va,vl,vc,hvr,z0,z1,c0,c1,c2,c3,c4,c5,c6⟩:=nd_cells hat;have HXn:=hidK hx;clear hat hx z0 z1 hvr;have GK:=hidK ((Below.heap_alloc wr (.cells #[.string n.n,.string n.z,.int .i64 n.c,.int .i64 n.s,.int .i64 n.u,.bool n.d,.slice va vl vc] 56) _ (lt_of_some Bk.out)).trans Bk.out);have GR : Hid ((wr.alloc (.cells #[.string n.n,.string n.z,.int .i64 n.c,.int .i64 n.s,.int .i64 n.u,.bool n.d,.slice va vl vc] 56)).heap[wr.heap.size]? = some (.cells #[.string n.n,.string n.z,.int .i64 n.c,.int .i64 n.s,.int .i64 n.u,.bool n.d,.slice va vl vc] 56 (0,0))):=Array.getElem?_push_size;have HW:=hidK (HB.out.trans ((below1 wr (.cells #[.string n.n,.string n.z,.int .i64 n.c,.int .i64 n.s,.int .i64 n.u,.bool n.d,.slice va vl vc] 56)).mono HB.out.size));obtain ⟨k0,k1,k2,k3,k4,k5⟩:=sl6 GK;obtain ⟨r0,r1,r2,r3,r4,r5⟩:=sl6 GR;have hne0:=Wd.ne (wr.alloc (.cells #[.string n.n,.string n.z,.int .i64 n.c,.int .i64 n.s,.int .i64 n.u,.bool n.d,.slice va vl vc] 56));have HC:=hidK (fun q : Wd (wr.alloc (.cells #[.string n.n,.string n.z,.int .i64 n.c,.int .i64 n.s,.int .i64 n.u,.bool n.d,.slice va vl vc] 56)) => iusedCpu_any ⟨(some ⟨b,o,none⟩),l1,y1,a2,l2,y2,a3,l3,y3,a4,l4,y4,a5,l5,y5⟩ c.now c.ps n.n q.w (HR.out.p.below (HW.out.trans (q.b.mono HW.out.size))) HL5.out HPC.out);go_wp2_with fail;refine wp_region_wide (by kernel_rfl) (by kernel_rfl) ?_
     repeat (go_big_quiet_step (first | (go_at_call 149;exact Calls.wide (HC.out _)) | fail))
     refine wpQuiet_nil ?_;rintro _ ⟨q,rfl⟩;have HB2:=upB HW q.b;have Bk2:=upK GK q.b;clear HC hne0 k0 k1 k2 k3 k4 k5 r0 r1 r2 r3 r4 r5 c0 c1 c2 c3 c4 c5 c6 hb HB Bk HW GK GR;have HB:=HB2;have Bk:=Bk2;clear HB2 Bk2
     by_cases hq : cpuOf n.n c.ps ≤ n.c
     ·go_wp2_with fail;refine ⟨⟨k + 1,by omega,by go_num,fun j z hj hz => ?_,HB.out,Bk.out⟩,by simp [intOf];omega⟩
      by_cases e : j = k
      ·subst e;rw [HXn.out] at hz;obtain rfl:=Option.some.inj hz;exact hq
      ·exact HQ.out j z (by omega) hz
     ·have HQ2:=hidK hq
      go_wp2
      go_ret;exact BoolB.f (fun h => by have h1 : cpuOf n.n c.ps ≤ n.c:=(h.2.1 k n HXn.out);have h2:=HQ2.out;omega) HB.out
    ·obtain rfl : l1 = k:=by omega
     have HQ2 : Hid (∀ (j : Nat) z,c.ns[j]? = some z → PQ2 c z):=fun j z hz => HQ.out j z (by have:=(List.getElem?_eq_some_iff.1 hz).1;omega) hz;clear HQ;have kc:=ck2 Bk.out
     go_wp2
     go_loopw [51] (fun i wr => ∃ k : Nat,k ≤ l3 ∧ i = .int .i64 k ∧ Hid (∀ (j : Nat) z,j < k → c.vs[j]? = some z → PQ3 c z) ∧ Hid (Below w.heap.size w wr) ∧ Hid (wr.heap[w.heap.size]? = some (.cells #[.slice a1 l1 y1,.slice a2 l2 y2,.slice a3 l3 y3,.slice a4 l4 y4,.slice a5 l5 y5,.int .i64 c.now] 36 (0,0)))) (fun i _ => l3 - (intOf i).toNat)
     case atStart => exact ⟨0,by omega,rfl,fun _ _ h => absurd h (by omega),HB.out,Bk.out⟩
     case round =>
      obtain ⟨k,hk,rfl,HQ,HB,Bk⟩:=hrel
      by_cases hlt : k < l3
      ·obtain ⟨b,o,v,rfl,hb,hx,hat⟩:=vd_at (HR.out.v.below HB.out) hlt;obtain ⟨va,vl,vc,hvr,z0,z2,z3,z5,c0,c1,c2,c3,c4,c5,c6,c7⟩:=vd_cells hat;have HXv:=hidK hx;clear hat hx z0 z2 z3 z5 hvr
       have hcase : (v.x = false ∨ v.m = ⟨#[]⟩) ∨ (v.x = true ∧ ¬ v.m = ⟨#[]⟩):=by
        rcases Bool.eq_false_or_eq_true v.x with h | h
        ·by_cases e : v.m = ⟨#[]⟩
         ·exact .inl (.inr e)
         ·exact .inr ⟨h,e⟩
        ·exact .inl (.inl h)
       rcases hcase with hcase | ⟨hs,he⟩
       ·have HCs:=hidK hcase
        rcases hcase with hs | he
        ·rw [hs] at c4;clear hs;obtain ⟨k0,k1,k2,k3,k4,k5⟩:=cs6 Bk.out;have ltk_0:=lt_of_some Bk.out
         go_wp2
         refine ⟨⟨k + 1,by omega,by go_num,fun j z hj hz => ?_,(HB.out.alloc HB.out.size _),(Below.heap_alloc _ _ _ (lt_of_some Bk.out)).trans Bk.out⟩,by simp [intOf];omega⟩
         by_cases e : j = k
         ·subst e;rw [HXv.out] at hz;obtain rfl:=Option.some.inj hz
          exact fun h1 h2 => by rcases HCs.out with h | h;(rw [h] at h1;cases h1);exact absurd h h2
         ·exact HQ.out j z (by omega) hz
        ·have hq:=isE_y he;clear he
         rcases Bool.eq_false_or_eq_true v.x with hs | hs
         ·rw [hs] at c4;clear hs;obtain ⟨k0,k1,k2,k3,k4,k5⟩:=cs6 Bk.out;have ltk_0:=lt_of_some Bk.out
          go_wp2
          refine ⟨⟨k + 1,by omega,by go_num,fun j z hj hz => ?_,(HB.out.alloc HB.out.size _),(Below.heap_alloc _ _ _ (lt_of_some Bk.out)).trans Bk.out⟩,by simp [intOf];omega⟩
          by_cases e : j = k
          ·subst e;rw [HXv.out] at hz;obtain rfl:=Option.some.inj hz
           exact fun h1 h2 => by rcases HCs.out with h | h;(rw [h] at h1;cases h1);exact absurd h h2
          ·exact HQ.out j z (by omega) hz
         ·rw [hs] at c4;clear hs;obtain ⟨k0,k1,k2,k3,k4,k5⟩:=cs6 Bk.out;have ltk_0:=lt_of_some Bk.out
          go_wp2
          refine ⟨⟨k + 1,by omega,by go_num,fun j z hj hz => ?_,(HB.out.alloc HB.out.size _),(Below.heap_alloc _ _ _ (lt_of_some Bk.out)).trans Bk.out⟩,by simp [intOf];omega⟩
          by_cases e : j = k
          ·subst e;rw [HXv.out] at hz;obtain rfl:=Option.some.inj hz
           exact fun h1 h2 => by rcases HCs.out with h | h;(rw [h] at h1;cases h1);exact absurd h h2
          ·exact HQ.out j z (by omega) hz
       ·have hq:=isE_no he;have HEm:=hidK he;have HSi:=hidK hs;rw [hs] at c4;clear he hs;obtain ⟨k0,k1,k2,k3,k4,k5⟩:=cs6 Bk.out;have ltk_0:=lt_of_some Bk.out;go_wp2_with fail;refine (ione_any ⟨a1,l1,y1,a2,l2,y2,(some ⟨b,o,none⟩),l3,y3,a4,l4,y4,a5,l5,y5⟩ c v.m _ (HR.out.below (HB.out.trans ((below1 _ _).mono HB.out.size)))).mono ?_;rintro e w2 ⟨r,rfl,hi,hb3⟩;clear k0 k1 k2 k3 k4 k5 ltk_0;obtain ⟨HA0,hbx⟩:=slots1 hb3;replace Bk:=upK Bk hbx;have Br:=hidK HA0;replace HB:=upB HB hbx;clear hb3 hbx HA0;have HI:=hidK hi;clear hi hb c0 c1 c2 c3 c4 c5 c6 c7
        cases r
        ·go_wp2
         go_ret;exact BoolB.f (fun h => by have:=HI.out.2 ((h.2.2 k v HXv.out) HSi.out HEm.out);cases this) HB.out
        ·go_wp2_with fail;refine ⟨⟨k + 1,by omega,by go_num,fun j z hj hz => ?_,HB.out,Bk.out⟩,by simp [intOf];omega⟩
         by_cases e : j = k
         ·subst e;rw [HXv.out] at hz;obtain rfl:=Option.some.inj hz;exact fun _ _ => HI.out.1 (by first | trivial | rfl)
         ·exact HQ.out j z (by omega) hz
      ·obtain rfl : l3 = k:=by omega
       have HQ3 : Hid (∀ (j : Nat) z,c.vs[j]? = some z → PQ3 c z):=fun j z hz => HQ.out j z (by have:=(List.getElem?_eq_some_iff.1 hz).1;omega) hz;clear HQ
       go_wp2
       go_ret;exact BoolB.t ⟨HQ1.out,HQ2.out,HQ3.out⟩ HB.out

def AQ1 (c : Cl) (v : Vd) : Prop:=∀ (j : Nat) t,v.zs[j]? = some t → ∃ (i : Nat) (n : Nd),c.ns[i]? = some n ∧ n.n = t ∧ n.z = v.z
def AQ2 (c : Cl) (n : Nd) : Prop:=onOf n.n c.vs ≤ n.s
def AttachedI (c : Cl) : Prop:=(∀ (j : Nat) z,c.vs[j]? = some z → AQ1 c z) ∧ (∀ (j : Nat) z,c.ns[j]? = some z → AQ2 c z)

theorem iattached_any (d : Ad) (c : Cl) (w : World) (hr : ClRow w d c.raw) (hn : RisBy Nd.n c.ns) (hvs8 : c.vs.length ≤ 8) :
  Calls Tryz.prog 129 #[.agg #[.slice d.a1 d.l1 d.c1,.slice d.a2 d.l2 d.c2,.slice d.a3 d.l3 d.c3,.slice d.a4 d.l4 d.c4,.slice d.a5 d.l5 d.c5,.int .i64 c.now]] w (BoolB (AttachedI c) w):=by
 obtain ⟨a1,l1,y1,a2,l2,y2,a3,l3,y3,a4,l4,y4,a5,l5,y5⟩:=d;dsimp only;have HR:=hidK hr
 have hl1 : c.ns.length = l1:=by simpa using (show (c.ns.map ndF).length = l1 from hr.n.1)
 have hm1 : l1 ≤ 9223372036854775807:=Nat.le_trans hr.n.2.1 hr.n.2.2.1
 have hl3 : c.vs.length = l3:=by simpa using (show (c.vs.map vdF).length = l3 from hr.v.1)
 have hm3 : l3 ≤ 9223372036854775807:=Nat.le_trans hr.v.2.1 hr.v.2.2.1;clear hr;have HNR:=hidK hn;have HL3:=hidK hvs8;clear hn hvs8
 go_enter Tryz.func129,Tryz.ntmps129
 go_wp2
 go_loopw [14] (fun i wr => ∃ k : Nat,k ≤ l3 ∧ i = .int .i64 k ∧ Hid (∀ (j : Nat) z,j < k → c.vs[j]? = some z → AQ1 c z) ∧ Hid (Below w.heap.size w wr) ∧ Hid (wr.heap[w.heap.size]? = some (.cells #[.slice a1 l1 y1,.slice a2 l2 y2,.slice a3 l3 y3,.slice a4 l4 y4,.slice a5 l5 y5,.int .i64 c.now] 36 (0,0)))) (fun i _ => l3 - (intOf i).toNat)
 case atStart => exact ⟨0,by omega,rfl,fun _ _ h => absurd h (by omega),below1 _ _,Array.getElem?_push_size⟩
 case round =>
  obtain ⟨k,hk,rfl,HQ,HB,Bk⟩:=hrel
  by_cases hlt : k < l3
  ·obtain ⟨b,o,v,rfl,hb,hx,hat⟩:=vd_at (HR.out.v.below HB.out) hlt;obtain ⟨va,vl,vc,hvr,z0,z2,z3,z5,c0,c1,c2,c3,c4,c5,c6,c7⟩:=vd_cells hat;have HXv:=hidK hx;have HTv:=hidK hvr;clear hat hx z0 z2 z3 z5 hvr;have hvl:=HTv.out.1;have hvc:=Nat.le_trans HTv.out.2.1 HTv.out.2.2.1;have HVL:=hidK hvl;clear hvl;have KV:=hidK ((Below.heap_alloc wr (.cells #[.string v.n,.int .i64 v.c,.string v.z,.string v.k,.bool v.x,.string v.m,.bool v.y,.slice va vl vc] 101) _ (lt_of_some Bk.out)).trans Bk.out);have GV : Hid ((wr.alloc (.cells #[.string v.n,.int .i64 v.c,.string v.z,.string v.k,.bool v.x,.string v.m,.bool v.y,.slice va vl vc] 101)).heap[wr.heap.size]? = some (.cells #[.string v.n,.int .i64 v.c,.string v.z,.string v.k,.bool v.x,.string v.m,.bool v.y,.slice va vl vc] 101 (0,0))):=Array.getElem?_push_size;have BV:=hidK (HB.out.trans ((below1 wr (.cells #[.string v.n,.int .i64 v.c,.string v.z,.string v.k,.bool v.x,.string v.m,.bool v.y,.slice va vl vc] 101)).mono HB.out.size));have TV:=hidK (HTv.out.below (below1 wr (.cells #[.string v.n,.int .i64 v.c,.string v.z,.string v.k,.bool v.x,.string v.m,.bool v.y,.slice va vl vc] 101)));obtain ⟨W,hW⟩ : ∃ W,W = wr.alloc (.cells #[.string v.n,.int .i64 v.c,.string v.z,.string v.k,.bool v.x,.string v.m,.bool v.y,.slice va vl vc] 101):=⟨_,rfl⟩;obtain ⟨gb,hgb⟩ : ∃ gb,gb = wr.heap.size:=⟨_,rfl⟩;rw [← hW] at KV GV BV TV;rw [← hgb] at GV
   go_wp2
   rw [← hW,← hgb];clear hW hgb HB Bk HTv c0 c1 c2 c3 c4 c5 c6 c7 hb
   go_loopw [21] (fun i wr => ∃ kq : Nat,kq ≤ vl ∧ i = .int .i64 kq ∧ Hid (∀ (j : Nat) t,j < kq → v.zs[j]? = some t → ∃ (i : Nat) (n : Nd),c.ns[i]? = some n ∧ n.n = t ∧ n.z = v.z) ∧ Hid (Below W.heap.size W wr)) (fun i _ => vl - (intOf i).toNat)
   case atStart => exact ⟨0,by omega,rfl,fun _ _ h => absurd h (by omega),Below.refl _ _⟩
   case round =>
    obtain ⟨kq,hkq,rfl,HQ2,HBW⟩:=hrel;have HB:=hidK (BV.out.trans (HBW.out.mono BV.out.size));have Bk:=upK KV HBW.out;have Bv:=upK GV HBW.out
    by_cases hlt2 : kq < vl
    ·obtain ⟨b2,o2,t,rfl,hb,hx,hc,hsz⟩:=(TV.out.below HBW.out).at hlt2;have HXt:=hidK hx;clear hx hsz;obtain ⟨k0,k1,k2,k3,k4,k5⟩:=cs6 Bk.out;obtain ⟨v0,v1,v2,v3,v4,v5,v6,v7⟩:=cs8 Bv.out;go_wp2_with fail;refine (thend_any ⟨a1,l1,y1,a2,l2,y2,(some ⟨b,o,none⟩),l3,y3,a4,l4,y4,a5,l5,y5⟩ c.now c.ns t w _ HR.out.n HB.out).mono ?_;rintro e w1 ⟨hb2,hf⟩;have HBW1:=upB HBW hb2;clear k0 k1 k2 k3 k4 k5 v0 v1 v2 v3 v4 v5 v6 v7;replace Bk:=upK Bk hb2;replace Bv:=upK Bv hb2;replace HB:=upB HB hb2;clear hb2;clear hb hc
     rcases hf with ⟨hh,m,ma,ml,mc,hx,hn,rfl,z0,z1,hmr⟩ | ⟨hh,rfl⟩
     rotate_left
     ·have HH:=hidK hh;clear hh;obtain ⟨k0,k1,k2,k3,k4,k5⟩:=cs6 Bk.out;obtain ⟨v0,v1,v2,v3,v4,v5,v6,v7⟩:=cs8 Bv.out;have ltv_1:=lt_of_some Bv.out
      go_wp2
      go_ret;refine BoolB.f (fun h => ?_) (HB.out.alloc HB.out.size _);obtain ⟨i,m,e1,e2,_⟩:=(h.1 k v HXv.out) kq t HXt.out;have:=(hit_at HNR.out e1 e2).2;rw [HH.out] at this
      cases this
     have HXm:=hidK hx;have HNm:=hidK hn;clear hx hn hh z0 z1 hmr
     by_cases hz : m.z = v.z
     ·have q1:=tl_yes hz;have HZ:=hidK hz;clear hz;obtain ⟨k0,k1,k2,k3,k4,k5⟩:=cs6 Bk.out;obtain ⟨v0,v1,v2,v3,v4,v5,v6,v7⟩:=cs8 Bv.out;have ltv_1:=lt_of_some Bv.out;go_wp2_with fail;refine ⟨⟨kq + 1,by omega,by go_num,fun j s hj hs => ?_,HBW1.out.alloc HBW1.out.size _⟩,by simp [intOf];omega⟩
      by_cases e : j = kq
      ·subst e;rw [HXt.out] at hs;obtain rfl:=Option.some.inj hs;exact ⟨_,m,HXm.out,HNm.out,HZ.out⟩
      ·exact HQ2.out j s (by omega) hs
     ·have q1:=tl_no hz;have HZ:=hidK hz;clear hz;obtain ⟨k0,k1,k2,k3,k4,k5⟩:=cs6 Bk.out;obtain ⟨v0,v1,v2,v3,v4,v5,v6,v7⟩:=cs8 Bv.out;have ltv_1:=lt_of_some Bv.out
      go_wp2
      go_ret;refine BoolB.f (fun h => ?_) (HB.out.alloc HB.out.size _);obtain ⟨i,m2,e1,e2,e3⟩:=(h.1 k v HXv.out) kq t HXt.out;obtain ⟨_,rfl⟩:=HNR.out.inj e1 HXm.out (e2.trans HNm.out.symm);exact HZ.out e3
    ·obtain rfl : vl = kq:=by omega
     go_wp2_with fail;refine ⟨⟨k + 1,by omega,by go_num,fun j z hj hz => ?_,HB.out,Bk.out⟩,by simp [intOf];omega⟩
     by_cases e : j = k
     ·subst e;rw [HXv.out] at hz;obtain rfl:=Option.some.inj hz;exact fun j s hs => HQ2.out j s (by have h1:=(List.getElem?_eq_some_iff.1 hs).1;have h2:=HVL.out;omega) hs
     ·exact HQ.out j z (by omega) hz
  ·obtain rfl : l3 = k:=by omega
   have HQ1 : Hid (∀ (j : Nat) z,c.vs[j]? = some z → AQ1 c z):=fun j z hz => HQ.out j z (by have:=(List.getElem?_eq_some_iff.1 hz).1;omega) hz;clear HQ;have kc:=ck0 Bk.out
   go_wp2
   go_loopw [45] (fun i wr => ∃ k : Nat,k ≤ l1 ∧ i = .int .i64 k ∧ Hid (∀ (j : Nat) z,j < k → c.ns[j]? = some z → AQ2 c z) ∧ Hid (Below w.heap.size w wr) ∧ Hid (wr.heap[w.heap.size]? = some (.cells #[.slice a1 l1 y1,.slice a2 l2 y2,.slice a3 l3 y3,.slice a4 l4 y4,.slice a5 l5 y5,.int .i64 c.now] 36 (0,0)))) (fun i _ => l1 - (intOf i).toNat)
   case atStart => exact ⟨0,by omega,rfl,fun _ _ h => absurd h (by omega),HB.out,Bk.out⟩
   case round =>
    obtain ⟨k,hk,rfl,HQ,HB,Bk⟩:=hrel
    by_cases hlt : k < l1
    ·obtain ⟨b,o,n,rfl,hb,hx,hat⟩:=nd_at (HR.out.n.below HB.out) hlt;obtain ⟨va,vl,vc,hvr,z0,z1,c0,c1,c2,c3,c4,c5,c6⟩:=nd_cells hat;have HXn:=hidK hx;clear hat hx z0 z1 hvr;have GK:=hidK ((Below.heap_alloc wr (.cells #[.string n.n,.string n.z,.int .i64 n.c,.int .i64 n.s,.int .i64 n.u,.bool n.d,.slice va vl vc] 56) _ (lt_of_some Bk.out)).trans Bk.out);have GR : Hid ((wr.alloc (.cells #[.string n.n,.string n.z,.int .i64 n.c,.int .i64 n.s,.int .i64 n.u,.bool n.d,.slice va vl vc] 56)).heap[wr.heap.size]? = some (.cells #[.string n.n,.string n.z,.int .i64 n.c,.int .i64 n.s,.int .i64 n.u,.bool n.d,.slice va vl vc] 56 (0,0))):=Array.getElem?_push_size;have HW:=hidK (HB.out.trans ((below1 wr (.cells #[.string n.n,.string n.z,.int .i64 n.c,.int .i64 n.s,.int .i64 n.u,.bool n.d,.slice va vl vc] 56)).mono HB.out.size));obtain ⟨k0,k1,k2,k3,k4,k5⟩:=sl6 GK;have r0:=fun q : Wd (wr.alloc (.cells #[.string n.n,.string n.z,.int .i64 n.c,.int .i64 n.s,.int .i64 n.u,.bool n.d,.slice va vl vc] 56)) => q.slot (o:=0) GR.out rfl;have r3:=fun q : Wd (wr.alloc (.cells #[.string n.n,.string n.z,.int .i64 n.c,.int .i64 n.s,.int .i64 n.u,.bool n.d,.slice va vl vc] 56)) => q.slot (o:=3) GR.out rfl;have hne0:=Wd.ne (wr.alloc (.cells #[.string n.n,.string n.z,.int .i64 n.c,.int .i64 n.s,.int .i64 n.u,.bool n.d,.slice va vl vc] 56));have HC:=hidK (fun q : Wd (wr.alloc (.cells #[.string n.n,.string n.z,.int .i64 n.c,.int .i64 n.s,.int .i64 n.u,.bool n.d,.slice va vl vc] 56)) => iusedSlots_any ⟨(some ⟨b,o,none⟩),l1,y1,a2,l2,y2,a3,l3,y3,a4,l4,y4,a5,l5,y5⟩ c.now c.vs n.n q.w (HR.out.v.below (HW.out.trans (q.b.mono HW.out.size))) HL3.out);go_wp2_with fail;refine wp_region_wide (by kernel_rfl) (by kernel_rfl) ?_
     repeat (go_big_quiet_step (first | (go_at_call 151;exact Calls.wide (HC.out _)) | fail))
     refine wpQuiet_nil ?_;rintro _ ⟨q,rfl⟩;have HB2:=upB HW q.b;have Bk2:=upK GK q.b;clear HC hne0 k0 k1 k2 k3 k4 k5 r0 r3 c0 c1 c2 c3 c4 c5 c6 hb HB Bk HW GK GR;have HB:=HB2;have Bk:=Bk2;clear HB2 Bk2
     by_cases hq : onOf n.n c.vs ≤ n.s
     ·go_wp2_with fail;refine ⟨⟨k + 1,by omega,by go_num,fun j z hj hz => ?_,HB.out,Bk.out⟩,by simp [intOf];omega⟩
      by_cases e : j = k
      ·subst e;rw [HXn.out] at hz;obtain rfl:=Option.some.inj hz;exact hq
      ·exact HQ.out j z (by omega) hz
     ·have HQ2:=hidK hq
      go_wp2
      go_ret;exact BoolB.f (fun h => by have h1 : onOf n.n c.vs ≤ n.s:=(h.2 k n HXn.out);have h2:=HQ2.out;omega) HB.out
    ·obtain rfl : l1 = k:=by omega
     have HQ2 : Hid (∀ (j : Nat) z,c.ns[j]? = some z → AQ2 c z):=fun j z hz => HQ.out j z (by have:=(List.getElem?_eq_some_iff.1 hz).1;omega) hz;clear HQ
     go_wp2
     go_ret;exact BoolB.t ⟨HQ1.out,HQ2.out⟩ HB.out

def MQ2 (c : Cl) (p : Pd) : Prop:=p.p = 2 → RunI c p
def MountedI (c : Cl) : Prop:=(∀ (j : Nat) z,c.ns[j]? = some z → MntI c z) ∧ (∀ (j : Nat) z,c.ps[j]? = some z → MQ2 c z)

theorem imounted_any (d : Ad) (c : Cl) (w : World) (hr : ClRow w d c.raw) (hn : RisBy Nd.n c.ns) (hx : RisBy Xd.n c.xs) (hv : RisBy Vd.n c.vs) (hne : ∀ (j : Nat) v,c.vs[j]? = some v → ¬ v.n = ⟨#[]⟩) :
  Calls Tryz.prog 130 #[.agg #[.slice d.a1 d.l1 d.c1,.slice d.a2 d.l2 d.c2,.slice d.a3 d.l3 d.c3,.slice d.a4 d.l4 d.c4,.slice d.a5 d.l5 d.c5,.int .i64 c.now]] w (BoolB (MountedI c) w):=by
 obtain ⟨a1,l1,y1,a2,l2,y2,a3,l3,y3,a4,l4,y4,a5,l5,y5⟩:=d;dsimp only;have HR:=hidK hr
 have hl1 : c.ns.length = l1:=by simpa using (show (c.ns.map ndF).length = l1 from hr.n.1)
 have hm1 : l1 ≤ 9223372036854775807:=Nat.le_trans hr.n.2.1 hr.n.2.2.1
 have hl5 : c.ps.length = l5:=by simpa using (show (c.ps.map pdF).length = l5 from hr.p.1)
 have hm5 : l5 ≤ 9223372036854775807:=Nat.le_trans hr.p.2.1 hr.p.2.2.1;clear hr;have HNR:=hidK hn;have HXR:=hidK hx;have HVR:=hidK hv;have HNE:=hidK hne;clear hn hx hv hne
 go_enter Tryz.func130,Tryz.ntmps130
 go_wp2
 go_loopw [10] (fun i wr => ∃ k : Nat,k ≤ l1 ∧ i = .int .i64 k ∧ Hid (∀ (j : Nat) z,j < k → c.ns[j]? = some z → MntI c z) ∧ Hid (Below w.heap.size w wr) ∧ Hid (wr.heap[w.heap.size]? = some (.cells #[.slice a1 l1 y1,.slice a2 l2 y2,.slice a3 l3 y3,.slice a4 l4 y4,.slice a5 l5 y5,.int .i64 c.now] 36 (0,0)))) (fun i _ => l1 - (intOf i).toNat)
 case atStart => exact ⟨0,by omega,rfl,fun _ _ h => absurd h (by omega),below1 _ _,Array.getElem?_push_size⟩
 case round =>
  obtain ⟨k,hk,rfl,HQ,HB,Bk⟩:=hrel
  by_cases hlt : k < l1
  ·obtain ⟨b,o,n,rfl,hb,hx,hat⟩:=nd_at (HR.out.n.below HB.out) hlt;obtain ⟨va,vl,vc,hvr,z0,z1,c0,c1,c2,c3,c4,c5,c6⟩:=nd_cells hat;have HXn:=hidK hx;have HTn:=hidK hvr;clear hat hx z0 z1 hvr;obtain ⟨k0,k1,k2,k3,k4,k5⟩:=cs6 Bk.out;have ltk_0:=lt_of_some Bk.out;go_wp2_with fail;refine (imnt_any ⟨(some ⟨b,o,none⟩),l1,y1,a2,l2,y2,a3,l3,y3,a4,l4,y4,a5,l5,y5⟩ c n va vl vc _ (HR.out.below (HB.out.trans ((below1 _ _).mono HB.out.size))) HVR.out (HTn.out.below (below1 _ _))).mono ?_;rintro e w2 ⟨r,rfl,hi,hb3⟩;clear k0 k1 k2 k3 k4 k5 ltk_0;obtain ⟨HA0,hbx⟩:=slots1 hb3;replace Bk:=upK Bk hbx;replace HB:=upB HB hbx;clear hb3 hbx HA0;have HI:=hidK hi;clear hi hb c0 c1 c2 c3 c4 c5 c6
   cases r
   ·go_wp2
    go_ret;exact BoolB.f (fun h => by have:=HI.out.2 (h.1 k n HXn.out);cases this) HB.out
   ·go_wp2_with fail;refine ⟨⟨k + 1,by omega,by go_num,fun j z hj hz => ?_,HB.out,Bk.out⟩,by simp [intOf];omega⟩
    by_cases e : j = k
    ·subst e;rw [HXn.out] at hz;obtain rfl:=Option.some.inj hz;exact HI.out.1 (by first | trivial | rfl)
    ·exact HQ.out j z (by omega) hz
  ·obtain rfl : l1 = k:=by omega
   have HQ1 : Hid (∀ (j : Nat) z,c.ns[j]? = some z → MntI c z):=fun j z hz => HQ.out j z (by have:=(List.getElem?_eq_some_iff.1 hz).1;omega) hz;clear HQ;have kc:=ck4 Bk.out
   go_wp2
   go_loopw [22] (fun i wr => ∃ k : Nat,k ≤ l5 ∧ i = .int .i64 k ∧ Hid (∀ (j : Nat) z,j < k → c.ps[j]? = some z → MQ2 c z) ∧ Hid (Below w.heap.size w wr) ∧ Hid (wr.heap[w.heap.size]? = some (.cells #[.slice a1 l1 y1,.slice a2 l2 y2,.slice a3 l3 y3,.slice a4 l4 y4,.slice a5 l5 y5,.int .i64 c.now] 36 (0,0)))) (fun i _ => l5 - (intOf i).toNat)
   case atStart => exact ⟨0,by omega,rfl,fun _ _ h => absurd h (by omega),HB.out,Bk.out⟩
   case round =>
    obtain ⟨k,hk,rfl,HQ,HB,Bk⟩:=hrel
    by_cases hlt : k < l5
    ·obtain ⟨b,o,p,rfl,hb,hx,hat⟩:=pd_at (HR.out.p.below HB.out) hlt;obtain ⟨va,vl,vc,hvr,z0,z2,z4,c0,c1,c2,c3,c4,c5⟩:=pd_cells hat;have HXp:=hidK hx;have HTp:=hidK hvr;clear hat hx z0 z2 z4 hvr
     by_cases hp2 : p.p = 2
     rotate_left
     ·have HP2:=hidK hp2;obtain ⟨k0,k1,k2,k3,k4,k5⟩:=cs6 Bk.out;have ltk_0:=lt_of_some Bk.out
      go_wp2
      refine ⟨⟨k + 1,by omega,by go_num,fun j z hj hz => ?_,(HB.out.alloc HB.out.size _),(Below.heap_alloc _ _ _ (lt_of_some Bk.out)).trans Bk.out⟩,by simp [intOf];omega⟩
      by_cases e : j = k
      ·subst e;rw [HXp.out] at hz;obtain rfl:=Option.some.inj hz;exact fun h => absurd h HP2.out
      ·exact HQ.out j z (by omega) hz
     have HP2:=hidK hp2;rw [hp2] at c5;clear hp2;obtain ⟨k0,k1,k2,k3,k4,k5⟩:=cs6 Bk.out;have ltk_0:=lt_of_some Bk.out;go_wp2_with fail;have HCall:=hidK (irun_any ⟨a1,l1,y1,a2,l2,y2,a3,l3,y3,a4,l4,y4,(some ⟨b,o,none⟩),l5,y5⟩ c p va vl vc (wr.alloc (.cells #[.string p.n,.int .i64 p.c,.string p.z,.slice va vl vc,.string p.d,.int .i64 2] 103)) (HR.out.below (HB.out.trans ((below1 _ _).mono HB.out.size))) HNR.out HXR.out HVR.out HNE.out (HTp.out.below (below1 _ _)));rw [HP2.out] at HCall;refine (HCall.out).mono ?_;rintro e w2 ⟨r,rfl,hi,hb3⟩;clear k0 k1 k2 k3 k4 k5 ltk_0;obtain ⟨HA0,hbx⟩:=slots1 hb3;replace Bk:=upK Bk hbx;replace HB:=upB HB hbx;clear hb3 hbx HA0;have HI:=hidK hi;clear hi hb HCall c0 c1 c2 c3 c4 c5
     cases r
     ·go_wp2
      go_ret;exact BoolB.f (fun h => by have:=HI.out.2 ((h.2 k p HXp.out) HP2.out);cases this) HB.out
     ·go_wp2_with fail;refine ⟨⟨k + 1,by omega,by go_num,fun j z hj hz => ?_,HB.out,Bk.out⟩,by simp [intOf];omega⟩
      by_cases e : j = k
      ·subst e;rw [HXp.out] at hz;obtain rfl:=Option.some.inj hz;exact fun _ => HI.out.1 (by first | trivial | rfl)
      ·exact HQ.out j z (by omega) hz
    ·obtain rfl : l5 = k:=by omega
     have HQ2 : Hid (∀ (j : Nat) z,c.ps[j]? = some z → MQ2 c z):=fun j z hz => HQ.out j z (by have:=(List.getElem?_eq_some_iff.1 hz).1;omega) hz;clear HQ
     go_wp2
     go_ret;exact BoolB.t ⟨HQ1.out,HQ2.out⟩ HB.out

def RowsOk (c : Cl) : Prop:=RowOk ndOk Nd.n c.ns 6 ∧ RowOk kdOk Kd.n c.ks 8 ∧ RowOk vdOk Vd.n c.vs 8 ∧ RowOk xdOk Xd.n c.xs 8 ∧ RowOk pdOk Pd.n c.ps 8
def RightI (c : Cl) : Prop:=Inn c.now 0 1000000 ∧ RowsOk c ∧ BoundI c ∧ PlacedI c ∧ AttachedI c ∧ MountedI c

theorem irows_any (d : Ad) (c : Cl) (w : World) (hr : ClRow w d c.raw) :
  Calls Tryz.prog 126 #[.agg #[.slice d.a1 d.l1 d.c1,.slice d.a2 d.l2 d.c2,.slice d.a3 d.l3 d.c3,.slice d.a4 d.l4 d.c4,.slice d.a5 d.l5 d.c5,.int .i64 c.now]] w (BoolB (RowsOk c) w):=by
 have HR:=hidK hr;have HB:=hidK (Below.refl w.heap.size w);clear hr
 go_enter Tryz.func126,Tryz.ntmps126
 go_wp2_with fail;refine (rowrnd_any _ _ _ c.ns 6 _ (HR.out.n.below (HB.out.trans ((below1 _ _).mono HB.out.size)))).mono ?_;rintro e w1 ⟨r,rfl,hi,hb⟩;obtain ⟨HA0,hbx⟩:=slots1 hb;have Bk:=hidK HA0;replace HB:=upB HB hbx;clear hb hbx HA0;have HI1:=hidK hi;clear hi
 cases r
 ·obtain ⟨k0,k1,k2,k3,k4,k5⟩:=cs6 Bk.out
  go_wp2
  go_ret;exact BoolB.f (fun h => by have:=HI1.out.2 h.1;cases this) HB.out
 obtain ⟨k0,k1,k2,k3,k4,k5⟩:=cs6 Bk.out;go_wp2_with fail;refine (rowrkd_any _ _ _ c.ks 8 _ (HR.out.k.below HB.out)).mono ?_;rintro e w2 ⟨r,rfl,hi,hb⟩;clear k0 k1 k2 k3 k4 k5;replace Bk:=upK Bk hb;replace HB:=upB HB hb;clear hb;have HI2:=hidK hi;clear hi
 cases r
 ·obtain ⟨k0,k1,k2,k3,k4,k5⟩:=cs6 Bk.out
  go_wp2
  go_ret;exact BoolB.f (fun h => by have:=HI2.out.2 h.2.1;cases this) HB.out
 obtain ⟨k0,k1,k2,k3,k4,k5⟩:=cs6 Bk.out;go_wp2_with fail;refine (rowrvd_any _ _ _ c.vs 8 _ (HR.out.v.below HB.out)).mono ?_;rintro e w3 ⟨r,rfl,hi,hb⟩;clear k0 k1 k2 k3 k4 k5;replace Bk:=upK Bk hb;replace HB:=upB HB hb;clear hb;have HI3:=hidK hi;clear hi
 cases r
 ·obtain ⟨k0,k1,k2,k3,k4,k5⟩:=cs6 Bk.out
  go_wp2
  go_ret;exact BoolB.f (fun h => by have:=HI3.out.2 h.2.2.1;cases this) HB.out
 obtain ⟨k0,k1,k2,k3,k4,k5⟩:=cs6 Bk.out;go_wp2_with fail;refine (rowrxd_any _ _ _ c.xs 8 _ (HR.out.x.below HB.out)).mono ?_;rintro e w4 ⟨r,rfl,hi,hb⟩;clear k0 k1 k2 k3 k4 k5;replace Bk:=upK Bk hb;replace HB:=upB HB hb;clear hb;have HI4:=hidK hi;clear hi
 cases r
 ·obtain ⟨k0,k1,k2,k3,k4,k5⟩:=cs6 Bk.out
  go_wp2
  go_ret;exact BoolB.f (fun h => by have:=HI4.out.2 h.2.2.2.1;cases this) HB.out
 obtain ⟨k0,k1,k2,k3,k4,k5⟩:=cs6 Bk.out;go_wp2_with fail;refine (rowrpd_any _ _ _ c.ps 8 _ (HR.out.p.below HB.out)).mono ?_;rintro e w5 ⟨r,rfl,hi,hb⟩;clear k0 k1 k2 k3 k4 k5;replace Bk:=upK Bk hb;replace HB:=upB HB hb;clear hb;have HI5:=hidK hi;clear hi
 cases r
 ·obtain ⟨k0,k1,k2,k3,k4,k5⟩:=cs6 Bk.out
  go_wp2
  go_ret;exact BoolB.f (fun h => by have:=HI5.out.2 h.2.2.2.2;cases this) HB.out
 go_wp2
 go_ret;exact BoolB.t ⟨HI1.out.1 (by first | trivial | rfl),HI2.out.1 (by first | trivial | rfl),HI3.out.1 (by first | trivial | rfl),HI4.out.1 (by first | trivial | rfl),HI5.out.1 (by first | trivial | rfl)⟩ HB.out

theorem RowsOk.ne {c : Cl} (h : RowsOk c) (j : Nat) (v : Vd) (hv : c.vs[j]? = some v) : ¬ v.n = ⟨#[]⟩:=fun e => by
 have h1:=(h.2.2.1.2.1 j v hv).1.1;rw [e] at h1;exact absurd h1 (by decide)
theorem RowsOk.cpu {c : Cl} (h : RowsOk c) (j : Nat) (p : Pd) (hp : c.ps[j]? = some p) : 0 ≤ p.c ∧ p.c ≤ 1000000:=(h.2.2.2.2.2.1 j p hp).2.1

theorem iright_any (d : Ad) (c : Cl) (w : World) (hr : ClRow w d c.raw) (hG : ens w) :
  Calls Tryz.prog 108 #[.agg #[.slice d.a1 d.l1 d.c1,.slice d.a2 d.l2 d.c2,.slice d.a3 d.l3 d.c3,.slice d.a4 d.l4 d.c4,.slice d.a5 d.l5 d.c5,.int .i64 c.now]] w (BoolB (RightI c) w):=by
 have HR:=hidK hr;have HE:=hidK hG;have HB:=hidK (Below.refl w.heap.size w);clear hr hG
 go_enter Tryz.func108,Tryz.ntmps108
 go_wp2_with fail;refine (kwithin_any c.now 0 1000000 _).mono ?_;rintro e w1 ⟨r,rfl,hi,hw⟩
 have hb : Below (w.alloc (.cells #[.slice d.a1 d.l1 d.c1,.slice d.a2 d.l2 d.c2,.slice d.a3 d.l3 d.c3,.slice d.a4 d.l4 d.c4,.slice d.a5 d.l5 d.c5,.int .i64 c.now] 36)).heap.size (w.alloc (.cells #[.slice d.a1 d.l1 d.c1,.slice d.a2 d.l2 d.c2,.slice d.a3 d.l3 d.c3,.slice d.a4 d.l4 d.c4,.slice d.a5 d.l5 d.c5,.int .i64 c.now] 36)) w1:=by first | (rw [hw];exact Below.refl _ _) | (rw [← hw];exact Below.refl _ _)
 clear hw;obtain ⟨HA0,hbx⟩:=slots1 hb;have Bk:=hidK HA0;replace HB:=upB HB hbx;clear hb hbx HA0;have HI1:=hidK hi;clear hi
 cases r
 ·obtain ⟨k0,k1,k2,k3,k4,k5⟩:=cs6 Bk.out
  go_wp2
  go_ret;exact BoolB.f (fun h => by have:=HI1.out.2 h.1;cases this) HB.out
 obtain ⟨k0,k1,k2,k3,k4,k5⟩:=cs6 Bk.out;go_wp2_with fail;refine (irows_any d c _ (HR.out.below HB.out)).mono ?_;rintro e w2 ⟨r,rfl,hi,hb⟩;clear k0 k1 k2 k3 k4 k5;replace Bk:=upK Bk hb;replace HB:=upB HB hb;clear hb;have HI2:=hidK hi;clear hi
 cases r
 ·obtain ⟨k0,k1,k2,k3,k4,k5⟩:=cs6 Bk.out
  go_wp2
  go_ret;exact BoolB.f (fun h => by have:=HI2.out.2 h.2.1;cases this) HB.out
 have HOK:=hidK (HI2.out.1 (by first | trivial | rfl));obtain ⟨k0,k1,k2,k3,k4,k5⟩:=cs6 Bk.out;go_wp2_with fail;refine (ibound_any d c _ (HR.out.below HB.out) HOK.out.2.2.2.1.2.2 HOK.out.2.2.1.2.2 (HE.out.below HB.out)).mono ?_;rintro e w3 ⟨r,rfl,hi,hb⟩;clear k0 k1 k2 k3 k4 k5;replace Bk:=upK Bk hb;replace HB:=upB HB hb;clear hb;have HI3:=hidK hi;clear hi
 cases r
 ·obtain ⟨k0,k1,k2,k3,k4,k5⟩:=cs6 Bk.out
  go_wp2
  go_ret;exact BoolB.f (fun h => by have:=HI3.out.2 h.2.2.1;cases this) HB.out
 obtain ⟨k0,k1,k2,k3,k4,k5⟩:=cs6 Bk.out;go_wp2_with fail;refine (iplaced_any d c _ (HR.out.below HB.out) HOK.out.1.2.2 HOK.out.2.2.2.1.2.2 HOK.out.2.2.1.2.2 HOK.out.ne (by have:=HOK.out.2.2.2.2.1;omega) HOK.out.cpu (HE.out.below HB.out)).mono ?_;rintro e w4 ⟨r,rfl,hi,hb⟩;clear k0 k1 k2 k3 k4 k5;replace Bk:=upK Bk hb;replace HB:=upB HB hb;clear hb;have HI4:=hidK hi;clear hi
 cases r
 ·obtain ⟨k0,k1,k2,k3,k4,k5⟩:=cs6 Bk.out
  go_wp2
  go_ret;exact BoolB.f (fun h => by have:=HI4.out.2 h.2.2.2.1;cases this) HB.out
 obtain ⟨k0,k1,k2,k3,k4,k5⟩:=cs6 Bk.out;go_wp2_with fail;refine (iattached_any d c _ (HR.out.below HB.out) HOK.out.1.2.2 (by have:=HOK.out.2.2.1.1;omega)).mono ?_;rintro e w5 ⟨r,rfl,hi,hb⟩;clear k0 k1 k2 k3 k4 k5;replace Bk:=upK Bk hb;replace HB:=upB HB hb;clear hb;have HI5:=hidK hi;clear hi
 cases r
 ·obtain ⟨k0,k1,k2,k3,k4,k5⟩:=cs6 Bk.out
  go_wp2
  go_ret;exact BoolB.f (fun h => by have:=HI5.out.2 h.2.2.2.2.1;cases this) HB.out
 obtain ⟨k0,k1,k2,k3,k4,k5⟩:=cs6 Bk.out;go_wp2_with fail;refine (imounted_any d c _ (HR.out.below HB.out) HOK.out.1.2.2 HOK.out.2.2.2.1.2.2 HOK.out.2.2.1.2.2 HOK.out.ne).mono ?_;rintro e w6 ⟨r,rfl,hi,hb⟩;clear k0 k1 k2 k3 k4 k5;replace Bk:=upK Bk hb;replace HB:=upB HB hb;clear hb;have HI6:=hidK hi;clear hi
 cases r
 ·obtain ⟨k0,k1,k2,k3,k4,k5⟩:=cs6 Bk.out
  go_wp2
  go_ret;exact BoolB.f (fun h => by have:=HI6.out.2 h.2.2.2.2.2;cases this) HB.out
 go_wp2
 go_ret;exact BoolB.t ⟨HI1.out.1 (by first | trivial | rfl),HI2.out.1 (by first | trivial | rfl),HI3.out.1 (by first | trivial | rfl),HI4.out.1 (by first | trivial | rfl),HI5.out.1 (by first | trivial | rfl),HI6.out.1 (by first | trivial | rfl)⟩ HB.out

theorem shas_any (a : Option Addr) (len cap : Nat) (zs : List ByteArray) (t : ByteArray) (w : World) (hr : TxRow w a len cap zs) :
  Calls Tryz.prog 80 #[.slice a len cap,.string t] w (BoolB (InL zs t) w):=by
 have HR:=hidK hr;have hlc:=Nat.le_trans hr.2.1 hr.2.2.1;have hzl:=hr.1;clear hr
 go_enter Tryz.func80,Tryz.ntmps80
 go_wp2
 go_loop [5] (fun i => ∃ k : Nat,k ≤ len ∧ i = .int .i64 k ∧ Hid (∀ (j : Nat) x,j < k → zs[j]? = some x → ¬ x = t)) (fun i => len - (intOf i).toNat)
 case atStart => exact ⟨0,by omega,rfl,fun _ _ h => absurd h (by omega)⟩
 case round =>
  obtain ⟨k,hk,rfl,HE⟩:=hrel
  by_cases hlt : k < len
  ·obtain ⟨b,o,x,rfl,hb,hx,hc,hsz⟩:=HR.out.at hlt;have HX:=hidK hx;clear hx
   by_cases hn : x = t
   ·have hq:=tl_yes hn;have HN:=hidK hn;clear hn
    go_wp2
    go_ret;exact BoolB.t ⟨k,by rw [HX.out,HN.out]⟩ (Below.refl _ _)
   ·have hq:=tl_no hn;have HN:=hidK hn;clear hn
    go_wp2
    refine ⟨⟨k + 1,by omega,by go_num,fun j z hj hz => ?_⟩,by simp [intOf];omega⟩
    by_cases e : j = k
    ·subst e;rw [HX.out] at hz;obtain rfl:=Option.some.inj hz;exact HN.out
    ·exact HE.out j z (by omega) hz
  ·obtain rfl : len = k:=by omega
   go_wp2
   go_ret;exact BoolB.f (fun ⟨j,hj⟩ => HE.out j t (by have:=(List.getElem?_eq_some_iff.1 hj).1;omega) hj rfl) (Below.refl _ _)

theorem sxnd_hit (d : Ad) (now : Int) (xs : List Nd) (t : ByteArray) (w : World) (hr : RRow w d.a1 d.l1 d.c1 7 (xs.map ndF)) (hs : RisBy Nd.n xs) {j : Nat} {x : Nd} (hx : xs[j]? = some x) (hn : x.n = t) :
  Calls Tryz.prog 51 #[.agg #[.slice d.a1 d.l1 d.c1,.slice d.a2 d.l2 d.c2,.slice d.a3 d.l3 d.c3,.slice d.a4 d.l4 d.c4,.slice d.a5 d.l5 d.c5,.int .i64 now],.string t] w fun e w' => e = .returned (.int .i64 j) ∧ Below w.heap.size w w':=by
 refine (sxnd_any d now xs t w hr).mono ?_;rintro e w' ⟨hb,h⟩
 rcases h with ⟨i,y,h1,h2,rfl⟩ | ⟨h1,rfl⟩
 ·obtain ⟨rfl,_⟩:=hs.inj h1 hx (h2.trans hn.symm);exact ⟨rfl,hb⟩
 ·exact absurd hn (h1 j x hx)
theorem sxnd_miss (d : Ad) (now : Int) (xs : List Nd) (t : ByteArray) (w : World) (hr : RRow w d.a1 d.l1 d.c1 7 (xs.map ndF)) (hn : ∀ (j : Nat) x,xs[j]? = some x → ¬ x.n = t) :
  Calls Tryz.prog 51 #[.agg #[.slice d.a1 d.l1 d.c1,.slice d.a2 d.l2 d.c2,.slice d.a3 d.l3 d.c3,.slice d.a4 d.l4 d.c4,.slice d.a5 d.l5 d.c5,.int .i64 now],.string t] w fun e w' => e = .returned (.int .i64 (-1)) ∧ Below w.heap.size w w':=by
 refine (sxnd_any d now xs t w hr).mono ?_;rintro e w' ⟨hb,h⟩
 rcases h with ⟨i,y,h1,h2,rfl⟩ | ⟨h1,rfl⟩
 ·exact absurd h2 (hn i y h1)
 ·exact ⟨rfl,hb⟩

theorem sxkd_hit (d : Ad) (now : Int) (xs : List Kd) (t : ByteArray) (w : World) (hr : RRow w d.a2 d.l2 d.c2 4 (xs.map kdF)) (hs : RisBy Kd.n xs) {j : Nat} {x : Kd} (hx : xs[j]? = some x) (hn : x.n = t) :
  Calls Tryz.prog 121 #[.agg #[.slice d.a1 d.l1 d.c1,.slice d.a2 d.l2 d.c2,.slice d.a3 d.l3 d.c3,.slice d.a4 d.l4 d.c4,.slice d.a5 d.l5 d.c5,.int .i64 now],.string t] w fun e w' => e = .returned (.int .i64 j) ∧ Below w.heap.size w w':=by
 refine (sxkd_any d now xs t w hr).mono ?_;rintro e w' ⟨hb,h⟩
 rcases h with ⟨i,y,h1,h2,rfl⟩ | ⟨h1,rfl⟩
 ·obtain ⟨rfl,_⟩:=hs.inj h1 hx (h2.trans hn.symm);exact ⟨rfl,hb⟩
 ·exact absurd hn (h1 j x hx)
theorem sxkd_miss (d : Ad) (now : Int) (xs : List Kd) (t : ByteArray) (w : World) (hr : RRow w d.a2 d.l2 d.c2 4 (xs.map kdF)) (hn : ∀ (j : Nat) x,xs[j]? = some x → ¬ x.n = t) :
  Calls Tryz.prog 121 #[.agg #[.slice d.a1 d.l1 d.c1,.slice d.a2 d.l2 d.c2,.slice d.a3 d.l3 d.c3,.slice d.a4 d.l4 d.c4,.slice d.a5 d.l5 d.c5,.int .i64 now],.string t] w fun e w' => e = .returned (.int .i64 (-1)) ∧ Below w.heap.size w w':=by
 refine (sxkd_any d now xs t w hr).mono ?_;rintro e w' ⟨hb,h⟩
 rcases h with ⟨i,y,h1,h2,rfl⟩ | ⟨h1,rfl⟩
 ·exact absurd h2 (hn i y h1)
 ·exact ⟨rfl,hb⟩

theorem sxvd_hit (d : Ad) (now : Int) (xs : List Vd) (t : ByteArray) (w : World) (hr : RRow w d.a3 d.l3 d.c3 8 (xs.map vdF)) (hs : RisBy Vd.n xs) {j : Nat} {x : Vd} (hx : xs[j]? = some x) (hn : x.n = t) :
  Calls Tryz.prog 106 #[.agg #[.slice d.a1 d.l1 d.c1,.slice d.a2 d.l2 d.c2,.slice d.a3 d.l3 d.c3,.slice d.a4 d.l4 d.c4,.slice d.a5 d.l5 d.c5,.int .i64 now],.string t] w fun e w' => e = .returned (.int .i64 j) ∧ Below w.heap.size w w':=by
 refine (sxvd_any d now xs t w hr).mono ?_;rintro e w' ⟨hb,h⟩
 rcases h with ⟨i,y,h1,h2,rfl⟩ | ⟨h1,rfl⟩
 ·obtain ⟨rfl,_⟩:=hs.inj h1 hx (h2.trans hn.symm);exact ⟨rfl,hb⟩
 ·exact absurd hn (h1 j x hx)
theorem sxvd_miss (d : Ad) (now : Int) (xs : List Vd) (t : ByteArray) (w : World) (hr : RRow w d.a3 d.l3 d.c3 8 (xs.map vdF)) (hn : ∀ (j : Nat) x,xs[j]? = some x → ¬ x.n = t) :
  Calls Tryz.prog 106 #[.agg #[.slice d.a1 d.l1 d.c1,.slice d.a2 d.l2 d.c2,.slice d.a3 d.l3 d.c3,.slice d.a4 d.l4 d.c4,.slice d.a5 d.l5 d.c5,.int .i64 now],.string t] w fun e w' => e = .returned (.int .i64 (-1)) ∧ Below w.heap.size w w':=by
 refine (sxvd_any d now xs t w hr).mono ?_;rintro e w' ⟨hb,h⟩
 rcases h with ⟨i,y,h1,h2,rfl⟩ | ⟨h1,rfl⟩
 ·exact absurd h2 (hn i y h1)
 ·exact ⟨rfl,hb⟩

theorem sxxd_hit (d : Ad) (now : Int) (xs : List Xd) (t : ByteArray) (w : World) (hr : RRow w d.a4 d.l4 d.c4 5 (xs.map xdF)) (hs : RisBy Xd.n xs) {j : Nat} {x : Xd} (hx : xs[j]? = some x) (hn : x.n = t) :
  Calls Tryz.prog 105 #[.agg #[.slice d.a1 d.l1 d.c1,.slice d.a2 d.l2 d.c2,.slice d.a3 d.l3 d.c3,.slice d.a4 d.l4 d.c4,.slice d.a5 d.l5 d.c5,.int .i64 now],.string t] w fun e w' => e = .returned (.int .i64 j) ∧ Below w.heap.size w w':=by
 refine (sxxd_any d now xs t w hr).mono ?_;rintro e w' ⟨hb,h⟩
 rcases h with ⟨i,y,h1,h2,rfl⟩ | ⟨h1,rfl⟩
 ·obtain ⟨rfl,_⟩:=hs.inj h1 hx (h2.trans hn.symm);exact ⟨rfl,hb⟩
 ·exact absurd hn (h1 j x hx)
theorem sxxd_miss (d : Ad) (now : Int) (xs : List Xd) (t : ByteArray) (w : World) (hr : RRow w d.a4 d.l4 d.c4 5 (xs.map xdF)) (hn : ∀ (j : Nat) x,xs[j]? = some x → ¬ x.n = t) :
  Calls Tryz.prog 105 #[.agg #[.slice d.a1 d.l1 d.c1,.slice d.a2 d.l2 d.c2,.slice d.a3 d.l3 d.c3,.slice d.a4 d.l4 d.c4,.slice d.a5 d.l5 d.c5,.int .i64 now],.string t] w fun e w' => e = .returned (.int .i64 (-1)) ∧ Below w.heap.size w w':=by
 refine (sxxd_any d now xs t w hr).mono ?_;rintro e w' ⟨hb,h⟩
 rcases h with ⟨i,y,h1,h2,rfl⟩ | ⟨h1,rfl⟩
 ·exact absurd h2 (hn i y h1)
 ·exact ⟨rfl,hb⟩

def SbAns (c : Cl) (t : ByteArray) (w : World) (e : Ending) (w' : World) : Prop :=
 Below w.heap.size w w' ∧ ((∃ (j : Nat) (v : Vd),c.vs[j]? = some v ∧ IsBd c t v ∧ e = .returned (.int .i64 j)) ∨ ((∀ v,¬ IsBd c t v) ∧ e = .returned (.int .i64 (-1))))

theorem sbind_any (d : Ad) (c : Cl) (t : ByteArray) (w : World) (hr : ClRow w d c.raw) (hx : RisBy Xd.n c.xs) (hv : RisBy Vd.n c.vs) (hne : ∀ (j : Nat) v,c.vs[j]? = some v → ¬ v.n = ⟨#[]⟩) :
  Calls Tryz.prog 81 #[.agg #[.slice d.a1 d.l1 d.c1,.slice d.a2 d.l2 d.c2,.slice d.a3 d.l3 d.c3,.slice d.a4 d.l4 d.c4,.slice d.a5 d.l5 d.c5,.int .i64 c.now],.string t] w (SbAns c t w):=by
 obtain ⟨a1,l1,y1,a2,l2,y2,a3,l3,y3,a4,l4,y4,a5,l5,y5⟩:=d;dsimp only;have HR:=hidK hr
 have hl4 : c.xs.length = l4:=by simpa using (show (c.xs.map xdF).length = l4 from hr.x.1)
 clear hr;have HX:=hidK hx;have HV:=hidK hv;have HNE:=hidK hne;have HB:=hidK (Below.refl w.heap.size w);clear hx hv hne
 go_enter Tryz.func81,Tryz.ntmps81
 go_wp2_with fail;refine (sxxd_any ⟨a1,l1,y1,a2,l2,y2,a3,l3,y3,a4,l4,y4,a5,l5,y5⟩ c.now c.xs t _ (HR.out.x.below (below1 _ _))).mono ?_;rintro e w1 ⟨hb,hf⟩;obtain ⟨HA0,hbx⟩:=slots1 hb;have Bk:=hidK HA0;replace HB:=upB HB hbx;clear hb hbx HA0
 rcases hf with ⟨j,x,hx,hn,rfl⟩ | ⟨hh,rfl⟩
 rotate_left
 ·have HH:=hidK hh;clear hh;obtain ⟨k0,k1,k2,k3,k4,k5⟩:=cs6 Bk.out
  go_wp2
  go_ret;exact ⟨HB.out,.inr ⟨fun v ⟨i,j,x,e1,e2,_⟩ => HH.out i x e1 e2,rfl⟩⟩
 have hj : j < l4:=by have h1:=(List.getElem?_eq_some_iff.1 hx).1;omega
 obtain ⟨b,o,y,rfl,hbb,hy,hat⟩:=xd_at HR.out.x hj;rw [hx] at hy;obtain rfl:=Option.some.inj hy;obtain ⟨z0,z2,z4,c0,c1,c2,c3,c4⟩:=xd_cells hat;have HX1:=hidK hx;have HN1:=hidK hn;have e4:=(cell_below HB.out hbb).trans c4;have hb1:=Nat.lt_of_lt_of_le hbb HB.out.size
 have hj0 : (0 : Int) ≤ j:=by omega
 clear hx hn hy hat z0 z2 z4 c0 c1 c2 c3
 by_cases he : x.v = ⟨#[]⟩
 ·have hq:=isE_y he;have HEm:=hidK he;clear he;obtain ⟨k0,k1,k2,k3,k4,k5⟩:=cs6 Bk.out
  go_wp2
  go_ret;refine ⟨HB.out,.inr ⟨fun v ⟨i,j2,x2,e1,e2,e3,e5⟩ => ?_,rfl⟩⟩;obtain ⟨_,rfl⟩:=HX.out.inj e1 HX1.out (e2.trans HN1.out.symm);exact HNE.out j2 v e3 (e5.trans HEm.out)
 ·have hq:=isE_no he;have HEm:=hidK he;clear he;obtain ⟨k0,k1,k2,k3,k4,k5⟩:=cs6 Bk.out;go_wp2_with fail
  by_cases hf : ∃ (j2 : Nat) (v : Vd),c.vs[j2]? = some v ∧ v.n = x.v
  ·obtain ⟨j2,v,h1,h2⟩:=hf;have HF1:=hidK h1;have HF2:=hidK h2;clear h1 h2;clear k0 k1 k2 k3 k4 k5;have Gk:=Bk;have HW:=HB;have k0:=fun q : Wd w1 => q.slot (o:=0) Gk.out rfl;have k1:=fun q : Wd w1 => q.slot (o:=1) Gk.out rfl;have k2:=fun q : Wd w1 => q.slot (o:=2) Gk.out rfl;have k3:=fun q : Wd w1 => q.slot (o:=3) Gk.out rfl;have k4:=fun q : Wd w1 => q.slot (o:=4) Gk.out rfl;have k5:=fun q : Wd w1 => q.slot (o:=5) Gk.out rfl;have e4w:=fun q : Wd w1 => (q.cell hb1).trans e4;have hne0:=Wd.ne w1;have HC0:=hidK (fun q : Wd w1 => sxvd_hit ⟨a1,l1,y1,a2,l2,y2,a3,l3,y3,(some ⟨b,o,none⟩),l4,y4,a5,l5,y5⟩ c.now c.vs x.v q.w (HR.out.v.below (HW.out.trans (q.b.mono HW.out.size))) HV.out HF1.out HF2.out);go_wp2_with fail;refine wp_region_wide (by kernel_rfl) (by kernel_rfl) ?_
   repeat (go_big_quiet_step (first | (go_at_call 106;exact Calls.wide (HC0.out _)) | fail))
   refine wpQuiet_nil ?_;rintro _ ⟨q,rfl⟩;have HB2:=upB HW q.b;have Ck:=upK Gk q.b;clear hne0 HW HB HC0 k0 k1 k2 k3 k4 k5 e4w Gk Bk;have HB:=HB2;clear HB2;have Bk:=Ck;clear Ck;go_wp2_with fail;go_ret;exact ⟨HB.out,.inl ⟨j2,v,HF1.out,⟨_,_,x,HX1.out,HN1.out,HF1.out,HF2.out⟩,rfl⟩⟩
  ·have HF:=hidK hf;clear hf;clear k0 k1 k2 k3 k4 k5;have Gk:=Bk;have HW:=HB;obtain ⟨k0,k1,k2,k3,k4,k5⟩:=sl6 Gk;have e4w:=fun q : Wd w1 => (q.cell hb1).trans e4;have hne0:=Wd.ne w1;have HC0:=hidK (fun q : Wd w1 => sxvd_miss ⟨a1,l1,y1,a2,l2,y2,a3,l3,y3,(some ⟨b,o,none⟩),l4,y4,a5,l5,y5⟩ c.now c.vs x.v q.w (HR.out.v.below (HW.out.trans (q.b.mono HW.out.size))) (fun j2 v h1 h2 => HF.out ⟨j2,v,h1,h2⟩));go_wp2_with fail;refine wp_region_wide (by kernel_rfl) (by kernel_rfl) ?_
   repeat (go_big_quiet_step (first | (go_at_call 106;exact Calls.wide (HC0.out _)) | fail))
   refine wpQuiet_nil ?_;rintro _ ⟨q,rfl⟩;have HB2:=upB HW q.b;have Ck:=upK Gk q.b;clear hne0 HW HB HC0 k0 k1 k2 k3 k4 k5 e4w Gk Bk;have HB:=HB2;clear HB2;have Bk:=Ck;clear Ck;go_wp2_with fail;go_ret;refine ⟨HB.out,.inr ⟨fun v ⟨i,j2,x2,e1,e2,e3,e5⟩ => ?_,rfl⟩⟩;obtain ⟨_,rfl⟩:=HX.out.inj e1 HX1.out (e2.trans HN1.out.symm);exact HF.out ⟨j2,v,e3,e5⟩

theorem sbind_hit (d : Ad) (c : Cl) (t : ByteArray) (w : World) (hr : ClRow w d c.raw) (hx : RisBy Xd.n c.xs) (hv : RisBy Vd.n c.vs) (hne : ∀ (j : Nat) v,c.vs[j]? = some v → ¬ v.n = ⟨#[]⟩) {j : Nat} {v : Vd} (hj : c.vs[j]? = some v) (hb : IsBd c t v) :
  Calls Tryz.prog 81 #[.agg #[.slice d.a1 d.l1 d.c1,.slice d.a2 d.l2 d.c2,.slice d.a3 d.l3 d.c3,.slice d.a4 d.l4 d.c4,.slice d.a5 d.l5 d.c5,.int .i64 c.now],.string t] w fun e w' => e = .returned (.int .i64 j) ∧ Below w.heap.size w w':=by
 refine (sbind_any d c t w hr hx hv hne).mono ?_;rintro e w' ⟨hw,h⟩
 rcases h with ⟨i,u,h1,h2,rfl⟩ | ⟨h1,rfl⟩
 ·obtain rfl:=IsBd.inj hx hv h2 hb;obtain ⟨rfl,_⟩:=hv.inj h1 hj rfl;exact ⟨rfl,hw⟩
 ·exact absurd hb (h1 v)
theorem sbind_miss (d : Ad) (c : Cl) (t : ByteArray) (w : World) (hr : ClRow w d c.raw) (hx : RisBy Xd.n c.xs) (hv : RisBy Vd.n c.vs) (hne : ∀ (j : Nat) v,c.vs[j]? = some v → ¬ v.n = ⟨#[]⟩) (hb : ∀ v,¬ IsBd c t v) :
  Calls Tryz.prog 81 #[.agg #[.slice d.a1 d.l1 d.c1,.slice d.a2 d.l2 d.c2,.slice d.a3 d.l3 d.c3,.slice d.a4 d.l4 d.c4,.slice d.a5 d.l5 d.c5,.int .i64 c.now],.string t] w fun e w' => e = .returned (.int .i64 (-1)) ∧ Below w.heap.size w w':=by
 refine (sbind_any d c t w hr hx hv hne).mono ?_;rintro e w' ⟨hw,h⟩
 rcases h with ⟨i,u,h1,h2,rfl⟩ | ⟨h1,rfl⟩
 ·exact absurd h2 (hb u)
 ·exact ⟨rfl,hw⟩
theorem IsBd.at {c : Cl} {t : ByteArray} {v : Vd} (h : IsBd c t v) : ∃ j : Nat,c.vs[j]? = some v:=by
 obtain ⟨_,j,_,_,_,h,_⟩:=h;exact ⟨j,h⟩

theorem sused_any (d : Ad) (now : Int) (ps : List Pd) (t : ByteArray) (w : World) (hr : RRow w d.a5 d.l5 d.c5 6 (ps.map pdF)) (hl : ps.length ≤ 8) (hp : ∀ (j : Nat) p,ps[j]? = some p → 0 ≤ p.c ∧ p.c ≤ 1000000) :
  Calls Tryz.prog 123 #[.agg #[.slice d.a1 d.l1 d.c1,.slice d.a2 d.l2 d.c2,.slice d.a3 d.l3 d.c3,.slice d.a4 d.l4 d.c4,.slice d.a5 d.l5 d.c5,.int .i64 now],.string t] w fun e w' => e = .returned (.int .i64 (cpuOf t ps)) ∧ Below w.heap.size w w':=by
 obtain ⟨a1,l1,y1,a2,l2,y2,a3,l3,y3,a4,l4,y4,a5,l5,y5⟩:=d;dsimp only at hr ⊢;have HR:=hidK hr
 have hxl : ps.length = l5:=by simpa using hr.1
 have HP:=hidK hp;clear hr hp
 go_enter Tryz.func123,Tryz.ntmps123
 go_wp2
 go_loopw [5,6] (fun q i wr => ∃ (k : Nat) (s : Int),k ≤ l5 ∧ q = .int .i64 s ∧ i = .int .i64 k ∧ Hid (s = cpuOf t (ps.take k)) ∧ 0 ≤ s ∧ s ≤ k * 1000000 ∧ wr = w.alloc (.cells #[.slice a1 l1 y1,.slice a2 l2 y2,.slice a3 l3 y3,.slice a4 l4 y4,.slice a5 l5 y5,.int .i64 now] 36)) (fun _ i _ => l5 - (intOf i).toNat)
 case atStart => exact ⟨0,0,by omega,rfl,rfl,rfl,by omega,by omega,rfl⟩
 case round =>
  obtain ⟨k,s,hk,rfl,rfl,HS,hs0,hs1,rfl⟩:=hrel
  by_cases hlt : k < l5
  ·obtain ⟨b,o,p,rfl,hb,hx,hat⟩:=pd_at HR.out hlt;obtain ⟨va,vl,vc,hvr,z0,z2,z4,c0,c1,c2,c3,c4,c5⟩:=pd_cells hat;have HX:=hidK hx;have hpc:=HP.out k p hx;clear hat hx z0 z2 z4 hvr
   by_cases hn : p.d = t
   ·have hq:=tl_yes hn;have HN:=hidK hn;clear hn
    go_wp2
    refine ⟨⟨k + 1,s + p.c,by omega,by go_num,by go_num,?_,by omega,by omega,by first | rfl | trivial⟩,by simp [intOf];omega⟩
    show _ = _
    rw [cpuOf_step HX.out,if_pos HN.out,← HS.out]
   ·have hq:=tl_no hn;have HN:=hidK hn;clear hn
    go_wp2
    refine ⟨⟨k + 1,s,by omega,rfl,by go_num,?_,by omega,by omega,by first | rfl | trivial⟩,by simp [intOf];omega⟩
    show _ = _
    rw [cpuOf_step HX.out,if_neg HN.out,← HS.out,Int.add_zero]
  ·obtain rfl : l5 = k:=by omega
   go_wp2
   go_ret;exact ⟨congrArg (fun z => Ending.returned (.int .i64 z)) (HS.out.trans (by rw [List.take_of_length_le (by omega)])),below1 _ _⟩

theorem son_any (d : Ad) (now : Int) (vs : List Vd) (t : ByteArray) (w : World) (hr : RRow w d.a3 d.l3 d.c3 8 (vs.map vdF)) (hl : vs.length ≤ 8) :
  Calls Tryz.prog 124 #[.agg #[.slice d.a1 d.l1 d.c1,.slice d.a2 d.l2 d.c2,.slice d.a3 d.l3 d.c3,.slice d.a4 d.l4 d.c4,.slice d.a5 d.l5 d.c5,.int .i64 now],.string t] w fun e w' => e = .returned (.int .i64 (onOf t vs)) ∧ Below w.heap.size w w':=by
 obtain ⟨a1,l1,y1,a2,l2,y2,a3,l3,y3,a4,l4,y4,a5,l5,y5⟩:=d;dsimp only at hr ⊢;have HR:=hidK hr
 have hxl : vs.length = l3:=by simpa using hr.1
 clear hr
 go_enter Tryz.func124,Tryz.ntmps124
 go_wp2
 go_loopw [5,6] (fun q i wr => ∃ (k : Nat) (s : Int),k ≤ l3 ∧ q = .int .i64 s ∧ i = .int .i64 k ∧ Hid (s = onOf t (vs.take k)) ∧ 0 ≤ s ∧ s ≤ k ∧ Hid (Below w.heap.size w wr) ∧ Hid (wr.heap[w.heap.size]? = some (.cells #[.slice a1 l1 y1,.slice a2 l2 y2,.slice a3 l3 y3,.slice a4 l4 y4,.slice a5 l5 y5,.int .i64 now] 36 (0,0)))) (fun _ i _ => l3 - (intOf i).toNat)
 case atStart => exact ⟨0,0,by omega,rfl,rfl,rfl,by omega,by omega,below1 _ _,Array.getElem?_push_size⟩
 case round =>
  obtain ⟨k,s,hk,rfl,rfl,HS,hs0,hs1,HB,Bk⟩:=hrel;have kk:=ck2 Bk.out
  by_cases hlt : k < l3
  ·obtain ⟨b,o,v,rfl,hb,hx,hat⟩:=vd_at (HR.out.below HB.out) hlt;obtain ⟨va,vl,vc,hvr,z0,z2,z3,z5,c0,c1,c2,c3,c4,c5,c6,c7⟩:=vd_cells hat;have HX:=hidK hx;have HT:=hidK hvr;clear hat hx z0 z2 z3 z5 hvr;go_wp2_with fail;refine (shas_any va vl vc v.zs t _ HT.out).mono ?_;rintro e w1 ⟨r,rfl,hi,hb2⟩;replace Bk:=upK Bk hb2;replace HB:=upB HB hb2;clear hb2;have HI:=hidK hi;clear hi hb kk c0 c1 c2 c3 c4 c5 c6 c7
   cases r
   ·go_wp2
    refine ⟨⟨k + 1,s,by omega,rfl,by go_num,?_,by omega,by omega,HB.out,Bk.out⟩,by simp [intOf];omega⟩
    show _ = _
    rw [onOf_step HX.out,if_neg (fun h => by have:=HI.out.2 h;cases this),← HS.out,Int.add_zero]
   ·go_wp2
    refine ⟨⟨k + 1,s + 1,by omega,by go_num,by go_num,?_,by omega,by omega,HB.out,Bk.out⟩,by simp [intOf];omega⟩
    show _ = _
    rw [onOf_step HX.out,if_pos (HI.out.1 (by first | trivial | rfl)),← HS.out]
  ·obtain rfl : l3 = k:=by omega
   go_wp2
   go_ret;exact ⟨congrArg (fun z => Ending.returned (.int .i64 z)) (HS.out.trans (by rw [List.take_of_length_le (by omega)])),HB.out⟩

def PairS (c : Cl) (p q : Pd) : Prop:=p.d = ⟨#[]⟩ ∨ q.d = ⟨#[]⟩ ∨ p.d = q.d ∨ ∀ (j : Nat) t,p.zs[j]? = some t → ∀ v,IsBd c t v → v.x = true → ¬ InL q.zs t

theorem spair_any (d : Ad) (c : Cl) (p q : Pd) (pa : Option Addr) (pl pc : Nat) (qa : Option Addr) (ql qc : Nat) (w : World) (hr : ClRow w d c.raw) (hx : RisBy Xd.n c.xs) (hv : RisBy Vd.n c.vs) (hne : ∀ (j : Nat) v,c.vs[j]? = some v → ¬ v.n = ⟨#[]⟩) (hp : TxRow w pa pl pc p.zs) (hq : TxRow w qa ql qc q.zs) :
  Calls Tryz.prog 122 #[.agg #[.slice d.a1 d.l1 d.c1,.slice d.a2 d.l2 d.c2,.slice d.a3 d.l3 d.c3,.slice d.a4 d.l4 d.c4,.slice d.a5 d.l5 d.c5,.int .i64 c.now],.agg #[.string p.n,.int .i64 p.c,.string p.z,.slice pa pl pc,.string p.d,.int .i64 p.p],.agg #[.string q.n,.int .i64 q.c,.string q.z,.slice qa ql qc,.string q.d,.int .i64 q.p]] w (BoolB (PairS c p q) w):=by
 obtain ⟨a1,l1,y1,a2,l2,y2,a3,l3,y3,a4,l4,y4,a5,l5,y5⟩:=d;dsimp only;have HR:=hidK hr
 have hl3 : c.vs.length = l3:=by simpa using (show (c.vs.map vdF).length = l3 from hr.v.1)
 clear hr;have HX:=hidK hx;have HV:=hidK hv;have HNE:=hidK hne;have HP:=hidK hp;have HQ0:=hidK hq;have hlc:=Nat.le_trans hp.2.1 hp.2.2.1;have hzl:=hp.1;clear hx hv hne hp hq
 by_cases hp0 : p.d = ⟨#[]⟩
 ·have e1:=isE_y hp0;have HH:=hidK hp0;clear hp0
  go_enter Tryz.func122,Tryz.ntmps122
  go_wp2
  go_ret;exact BoolB.t (.inl HH.out) (below3 _ _ _ _)
 by_cases hq0 : q.d = ⟨#[]⟩
 ·have e1:=isE_no hp0;have e2:=isE_y hq0;have HH:=hidK hq0;clear hp0 hq0
  go_enter Tryz.func122,Tryz.ntmps122
  go_wp2
  go_ret;exact BoolB.t (.inr (.inl HH.out)) (below3 _ _ _ _)
 by_cases hpq : p.d = q.d
 ·have e1:=isE_no hp0;have e2:=isE_no hq0;have e3:=tl_yes hpq;have HH:=hidK hpq;clear hp0 hq0 hpq
  go_enter Tryz.func122,Tryz.ntmps122
  go_wp2
  go_ret;exact BoolB.t (.inr (.inr (.inl HH.out))) (below3 _ _ _ _)
 have e1:=isE_no hp0;have e2:=isE_no hq0;have e3:=tl_no hpq;have HP0:=hidK hp0;have HQ1:=hidK hq0;have HPQ:=hidK hpq;clear hp0 hq0 hpq
 go_enter Tryz.func122,Tryz.ntmps122
 go_wp2
 clear e1 e2 e3
 go_loopw [7] (fun i wr => ∃ k : Nat,k ≤ pl ∧ i = .int .i64 k ∧ Hid (∀ (j : Nat) t,j < k → p.zs[j]? = some t → ∀ v,IsBd c t v → v.x = true → ¬ InL q.zs t) ∧ Hid (Below w.heap.size w wr) ∧ Hid (wr.heap[w.heap.size]? = some (.cells #[.slice a1 l1 y1,.slice a2 l2 y2,.slice a3 l3 y3,.slice a4 l4 y4,.slice a5 l5 y5,.int .i64 c.now] 36 (0,0))) ∧ Hid (wr.heap[w.heap.size + 1]? = some (.cells #[.string p.n,.int .i64 p.c,.string p.z,.slice pa pl pc,.string p.d,.int .i64 p.p] 103 (0,0))) ∧ Hid (wr.heap[w.heap.size + 1 + 1]? = some (.cells #[.string q.n,.int .i64 q.c,.string q.z,.slice qa ql qc,.string q.d,.int .i64 q.p] 103 (0,0)))) (fun i _ => pl - (intOf i).toNat)
 case atStart => exact ⟨0,by omega,rfl,fun _ _ h => absurd h (by omega),below3 _ _ _ _,heap3_0 _ _ _ _,heap3_1 _ _ _ _,heap3_2 _ _ _ _⟩
 case round =>
  obtain ⟨k,hk,rfl,HQ,HB,Bk,Bx,By⟩:=hrel;have px3:=ck3 Bx.out
  by_cases hlt : k < pl
  ·obtain ⟨b,o,t,rfl,hb,hxt,hc,hsz⟩:=HP.out.at hlt;have HXt:=hidK hxt;have hcw:=(cell_below HB.out hb).trans hc;have hbw:=Nat.lt_of_lt_of_le hb HB.out.size;clear hxt hsz
   have hcase : (∃ v,IsBd c t v) ∨ (∀ v,¬ IsBd c t v):=by
    by_cases h : ∃ v,IsBd c t v
    ·exact .inl h
    ·exact .inr (fun v hv => h ⟨v,hv⟩)
   rcases hcase with ⟨v,hbd⟩ | hbd
   ·obtain ⟨j3,hj3⟩:=hbd.at
    have hl3' : j3 < l3:=by have h1:=(List.getElem?_eq_some_iff.1 hj3).1;omega
    obtain ⟨b3,o3,v',rfl,hb3,hv',hat⟩:=vd_at HR.out.v hl3';rw [hj3] at hv';obtain rfl:=Option.some.inj hv';obtain ⟨va,vl,vc,hvr,z0,z2,z3,z5,c0,c1,c2,c3,c4,c5,c6,c7⟩:=vd_cells hat;have HJ:=hidK hj3;have HD:=hidK hbd;have hcv:=(cell_below HB.out hb3).trans c4;have hbv:=Nat.lt_of_lt_of_le hb3 HB.out.size
    have hj0 : (0 : Int) ≤ j3:=by omega
    clear hv' hat hvr z0 z2 z3 z5 c0 c1 c2 c3 c4 c5 c6 c7 hj3 hbd;have Gk:=Bk;have Gx:=Bx;have Gy:=By;have HW:=HB;obtain ⟨k0,k1,k2,k3,k4,k5⟩:=sl6 Gk;have x3:=fun q : Wd wr => q.slot (o:=3) Gx.out rfl;have tw:=fun q : Wd wr => (q.cell hbw).trans hcw;have hne0:=Wd.ne wr;have HC0:=hidK (fun q : Wd wr => sbind_hit ⟨a1,l1,y1,a2,l2,y2,(some ⟨b3,o3,none⟩),l3,y3,a4,l4,y4,a5,l5,y5⟩ c t q.w (HR.out.below (HW.out.trans (q.b.mono HW.out.size))) HX.out HV.out HNE.out HJ.out HD.out);go_wp2_with fail;refine wp_region_wide (by kernel_rfl) (by kernel_rfl) ?_
    repeat (go_big_quiet_step (first | (go_at_call 81;exact Calls.wide (HC0.out _)) | fail))
    refine wpQuiet_nil ?_;rintro _ ⟨q1,rfl⟩;have HB1:=upB HW q1.b;have Ck:=upK Gk q1.b;have Cx:=upK Gx q1.b;have Cy:=upK Gy q1.b;clear hne0 HW HB HC0 k0 k1 k2 k3 k4 k5 x3 tw Gk Gx Gy Bk Bx By px3;have HB:=HB1;clear HB1;have Bk:=Ck;clear Ck;have Bx:=Cx;clear Cx;have By:=Cy;clear Cy;have hcw1:=(q1.cell hbw).trans hcw;have hbw1:=Nat.lt_of_lt_of_le hbw q1.b.size;have hcv1:=(q1.cell hbv).trans hcv;have hbv1:=Nat.lt_of_lt_of_le hbv q1.b.size;clear hcw hbw hcv hbv
    rcases Bool.eq_false_or_eq_true v.x with hs | hs
    rotate_left
    ·have HSi:=hidK hs;rw [hs] at hcv1;clear hs;have Gk:=Bk;have Gx:=Bx;have Gy:=By;have HW:=HB;have k2:=fun q : Wd q1.w => q.slot (o:=2) Gk.out rfl;have x3:=fun q : Wd q1.w => q.slot (o:=3) Gx.out rfl;have y3:=fun q : Wd q1.w => q.slot (o:=3) Gy.out rfl;have tw:=fun q : Wd q1.w => (q.cell hbw1).trans hcw1;have vw:=fun q : Wd q1.w => (q.cell hbv1).trans hcv1;have hne0:=Wd.ne q1.w;go_wp2_with fail;refine wp_region_wide (by kernel_rfl) (by kernel_rfl) ?_
     repeat (go_big_quiet_step (first | fail))
     refine wpQuiet_nil ?_;rintro _ ⟨q2,rfl⟩;have HB2:=upB HW q2.b;have Ck:=upK Gk q2.b;have Cx:=upK Gx q2.b;have Cy:=upK Gy q2.b;clear hne0 HW HB k2 x3 y3 tw vw Gk Gx Gy Bk Bx By;have HB:=HB2;clear HB2;have Bk:=Ck;clear Ck;have Bx:=Cx;clear Cx;have By:=Cy;clear Cy;go_wp2_with fail;refine ⟨⟨k + 1,by omega,by go_num,fun j s hj hs => ?_,HB.out,Bk.out,Bx.out,By.out⟩,by simp [intOf];omega⟩
     by_cases e : j = k
     ·subst e;rw [HXt.out] at hs;obtain rfl:=Option.some.inj hs;intro v2 h1 h2;obtain rfl:=IsBd.inj HX.out HV.out HD.out h1;rw [HSi.out] at h2;cases h2
     ·exact HQ.out j s (by omega) hs
    have HSi:=hidK hs;rw [hs] at hcv1;clear hs
    by_cases hin : InL q.zs t
    ·have HIn:=hidK hin;clear hin;have Gk:=Bk;have Gx:=Bx;have Gy:=By;have HW:=HB;have k2:=fun q : Wd q1.w => q.slot (o:=2) Gk.out rfl;have x3:=fun q : Wd q1.w => q.slot (o:=3) Gx.out rfl;have y3:=fun q : Wd q1.w => q.slot (o:=3) Gy.out rfl;have tw:=fun q : Wd q1.w => (q.cell hbw1).trans hcw1;have vw:=fun q : Wd q1.w => (q.cell hbv1).trans hcv1;have hne0:=Wd.ne q1.w;have HC0:=hidK (fun qq : Wd q1.w => (shas_any qa ql qc q.zs t qq.w (HQ0.out.below (HW.out.trans (qq.b.mono HW.out.size)))).mono (fun _ _ h => BoolB.yes h HIn.out));go_wp2_with fail;refine wp_region_wide (by kernel_rfl) (by kernel_rfl) ?_
     repeat (go_big_quiet_step (first | (go_at_call 80;exact Calls.wide (HC0.out _)) | fail))
     refine wpQuiet_nil ?_;rintro _ ⟨q2,rfl⟩;have HB2:=upB HW q2.b;have Ck:=upK Gk q2.b;have Cx:=upK Gx q2.b;have Cy:=upK Gy q2.b;clear hne0 HW HB HC0 k2 x3 y3 tw vw Gk Gx Gy Bk Bx By;have HB:=HB2;clear HB2;have Bk:=Ck;clear Ck;have Bx:=Cx;clear Cx;have By:=Cy;clear Cy
     go_wp2
     go_ret;refine BoolB.f (fun h => ?_) HB.out
     rcases h with h | h | h | h
     ·exact HP0.out h
     ·exact HQ1.out h
     ·exact HPQ.out h
     ·exact h k t HXt.out v HD.out HSi.out HIn.out
    ·have HIn:=hidK hin;clear hin;have Gk:=Bk;have Gx:=Bx;have Gy:=By;have HW:=HB;have k2:=fun q : Wd q1.w => q.slot (o:=2) Gk.out rfl;have x3:=fun q : Wd q1.w => q.slot (o:=3) Gx.out rfl;have y3:=fun q : Wd q1.w => q.slot (o:=3) Gy.out rfl;have tw:=fun q : Wd q1.w => (q.cell hbw1).trans hcw1;have vw:=fun q : Wd q1.w => (q.cell hbv1).trans hcv1;have hne0:=Wd.ne q1.w;have HC0:=hidK (fun qq : Wd q1.w => (shas_any qa ql qc q.zs t qq.w (HQ0.out.below (HW.out.trans (qq.b.mono HW.out.size)))).mono (fun _ _ h => BoolB.no h HIn.out));go_wp2_with fail;refine wp_region_wide (by kernel_rfl) (by kernel_rfl) ?_
     repeat (go_big_quiet_step (first | (go_at_call 80;exact Calls.wide (HC0.out _)) | fail))
     refine wpQuiet_nil ?_;rintro _ ⟨q2,rfl⟩;have HB2:=upB HW q2.b;have Ck:=upK Gk q2.b;have Cx:=upK Gx q2.b;have Cy:=upK Gy q2.b;clear hne0 HW HB HC0 k2 x3 y3 tw vw Gk Gx Gy Bk Bx By;have HB:=HB2;clear HB2;have Bk:=Ck;clear Ck;have Bx:=Cx;clear Cx;have By:=Cy;clear Cy;go_wp2_with fail;refine ⟨⟨k + 1,by omega,by go_num,fun j s hj hs => ?_,HB.out,Bk.out,Bx.out,By.out⟩,by simp [intOf];omega⟩
     by_cases e : j = k
     ·subst e;rw [HXt.out] at hs;obtain rfl:=Option.some.inj hs;intro v2 h1 h2;exact HIn.out
     ·exact HQ.out j s (by omega) hs
   ·have HD:=hidK hbd;clear hbd;have Gk:=Bk;have Gx:=Bx;have Gy:=By;have HW:=HB;obtain ⟨k0,k1,k2,k3,k4,k5⟩:=sl6 Gk;have x3:=fun q : Wd wr => q.slot (o:=3) Gx.out rfl;have tw:=fun q : Wd wr => (q.cell hbw).trans hcw;have hne0:=Wd.ne wr;have HC0:=hidK (fun q : Wd wr => sbind_miss ⟨a1,l1,y1,a2,l2,y2,a3,l3,y3,a4,l4,y4,a5,l5,y5⟩ c t q.w (HR.out.below (HW.out.trans (q.b.mono HW.out.size))) HX.out HV.out HNE.out HD.out);go_wp2_with fail;refine wp_region_wide (by kernel_rfl) (by kernel_rfl) ?_
    repeat (go_big_quiet_step (first | (go_at_call 81;exact Calls.wide (HC0.out _)) | fail))
    refine wpQuiet_nil ?_;rintro _ ⟨q1,rfl⟩;have HB1:=upB HW q1.b;have Ck:=upK Gk q1.b;have Cx:=upK Gx q1.b;have Cy:=upK Gy q1.b;clear hne0 HW HB HC0 k0 k1 k2 k3 k4 k5 x3 tw Gk Gx Gy Bk Bx By px3;have HB:=HB1;clear HB1;have Bk:=Ck;clear Ck;have Bx:=Cx;clear Cx;have By:=Cy;clear Cy;have Gk:=Bk;have Gx:=Bx;have Gy:=By;have HW:=HB;have k2:=fun q : Wd q1.w => q.slot (o:=2) Gk.out rfl;have x3:=fun q : Wd q1.w => q.slot (o:=3) Gx.out rfl;have y3:=fun q : Wd q1.w => q.slot (o:=3) Gy.out rfl;have hne0:=Wd.ne q1.w;go_wp2_with fail;refine wp_region_wide (by kernel_rfl) (by kernel_rfl) ?_
    repeat (go_big_quiet_step (first | fail))
    refine wpQuiet_nil ?_;rintro _ ⟨q2,rfl⟩;have HB2:=upB HW q2.b;have Ck:=upK Gk q2.b;have Cx:=upK Gx q2.b;have Cy:=upK Gy q2.b;clear hne0 HW HB k2 x3 y3 Gk Gx Gy Bk Bx By;have HB:=HB2;clear HB2;have Bk:=Ck;clear Ck;have Bx:=Cx;clear Cx;have By:=Cy;clear Cy;go_wp2_with fail;refine ⟨⟨k + 1,by omega,by go_num,fun j s hj hs => ?_,HB.out,Bk.out,Bx.out,By.out⟩,by simp [intOf];omega⟩
    by_cases e : j = k
    ·subst e;rw [HXt.out] at hs;obtain rfl:=Option.some.inj hs;intro v2 h1;exact absurd h1 (HD.out v2)
    ·exact HQ.out j s (by omega) hs
  ·obtain rfl : pl = k:=by omega
   go_wp2
   go_ret;exact BoolB.t (.inr (.inr (.inr (fun j t ht => HQ.out j t (by have:=(List.getElem?_eq_some_iff.1 ht).1;omega) ht)))) HB.out

theorem seach_any (d : Ad) (c : Cl) (w : World) (hr : ClRow w d c.raw) :
  Calls Tryz.prog 100 #[.agg #[.slice d.a1 d.l1 d.c1,.slice d.a2 d.l2 d.c2,.slice d.a3 d.l3 d.c3,.slice d.a4 d.l4 d.c4,.slice d.a5 d.l5 d.c5,.int .i64 c.now]] w (BoolB (RowsOk c) w):=by
 obtain ⟨a1,l1,y1,a2,l2,y2,a3,l3,y3,a4,l4,y4,a5,l5,y5⟩:=d;dsimp only;have HR:=hidK hr
 have hl1 : c.ns.length = l1:=by simpa using (show (c.ns.map ndF).length = l1 from hr.n.1)
 have hm1 : l1 ≤ 9223372036854775807:=Nat.le_trans hr.n.2.1 hr.n.2.2.1
 have hl2 : c.ks.length = l2:=by simpa using (show (c.ks.map kdF).length = l2 from hr.k.1)
 have hm2 : l2 ≤ 9223372036854775807:=Nat.le_trans hr.k.2.1 hr.k.2.2.1
 have hl3 : c.vs.length = l3:=by simpa using (show (c.vs.map vdF).length = l3 from hr.v.1)
 have hm3 : l3 ≤ 9223372036854775807:=Nat.le_trans hr.v.2.1 hr.v.2.2.1
 have hl4 : c.xs.length = l4:=by simpa using (show (c.xs.map xdF).length = l4 from hr.x.1)
 have hm4 : l4 ≤ 9223372036854775807:=Nat.le_trans hr.x.2.1 hr.x.2.2.1
 have hl5 : c.ps.length = l5:=by simpa using (show (c.ps.map pdF).length = l5 from hr.p.1)
 have hm5 : l5 ≤ 9223372036854775807:=Nat.le_trans hr.p.2.1 hr.p.2.2.1;clear hr
 by_cases hL1 : (6 : Int) < l1
 ·go_enter Tryz.func100,Tryz.ntmps100
  go_wp2
  go_ret;exact BoolB.f (fun h => by have:=h.1.1;omega) (below1 _ _)
 by_cases hL2 : (8 : Int) < l2
 ·go_enter Tryz.func100,Tryz.ntmps100
  go_wp2
  go_ret;exact BoolB.f (fun h => by have:=h.2.1.1;omega) (below1 _ _)
 by_cases hL3 : (8 : Int) < l3
 ·go_enter Tryz.func100,Tryz.ntmps100
  go_wp2
  go_ret;exact BoolB.f (fun h => by have:=h.2.2.1.1;omega) (below1 _ _)
 by_cases hL4 : (8 : Int) < l4
 ·go_enter Tryz.func100,Tryz.ntmps100
  go_wp2
  go_ret;exact BoolB.f (fun h => by have:=h.2.2.2.1.1;omega) (below1 _ _)
 by_cases hL5 : (8 : Int) < l5
 ·go_enter Tryz.func100,Tryz.ntmps100
  go_wp2
  go_ret;exact BoolB.f (fun h => by have:=h.2.2.2.2.1;omega) (below1 _ _)
 go_enter Tryz.func100,Tryz.ntmps100
 go_wp2
 go_loopw [3] (fun i wr => ∃ k : Nat,k ≤ l1 ∧ i = .int .i64 k ∧ Hid (∀ (j : Nat) z,j < k → c.ns[j]? = some z → ndOk z) ∧ Hid (∀ (j : Nat) z u,j + 1 < k → c.ns[j + 1]? = some z → c.ns[j]? = some u → Op.bytesLess u.n.toList z.n.toList = true) ∧ Hid (Below w.heap.size w wr) ∧ Hid (wr.heap[w.heap.size]? = some (.cells #[.slice a1 l1 y1,.slice a2 l2 y2,.slice a3 l3 y3,.slice a4 l4 y4,.slice a5 l5 y5,.int .i64 c.now] 36 (0,0)))) (fun i _ => l1 - (intOf i).toNat)
 case atStart => exact ⟨0,by omega,rfl,fun _ _ h => absurd h (by omega),fun _ _ _ h => absurd h (by omega),below1 _ _,Array.getElem?_push_size⟩
 case round =>
  obtain ⟨k,hk,rfl,HQ,HO,HB,Bk⟩:=hrel;have pk:=ck0 Bk.out
  by_cases hlt : k < l1
  ·obtain ⟨b,o,x,rfl,hb,hx,hat⟩:=nd_at (HR.out.n.below HB.out) hlt;obtain ⟨va,vl,vc,hvr,z0,z1,c0,c1,c2,c3,c4,c5,c6⟩:=nd_cells hat;have HXx:=hidK hx;have HTx:=hidK hvr;have HZx0:=hidK z0;have HZx1:=hidK z1;clear hat hx z0 z1 hvr
   by_cases hok : ndOk x
   rotate_left
   ·have HOK:=hidK hok;clear hok;have Gk:=Bk;have HW:=HB;have k0:=fun q : Wd wr => q.slot (o:=0) Gk.out rfl;have x0:=fun q : Wd wr => (q.cell hb).trans c0;have x1:=fun q : Wd wr => (q.cell hb).trans c1;have x2:=fun q : Wd wr => (q.cell hb).trans c2;have x3:=fun q : Wd wr => (q.cell hb).trans c3;have x4:=fun q : Wd wr => (q.cell hb).trans c4;have x5:=fun q : Wd wr => (q.cell hb).trans c5;have x6:=fun q : Wd wr => (q.cell hb).trans c6;have hne0:=Wd.ne wr;have HC0:=hidK (fun q : Wd wr => (snode_any x.n x.z x.c x.s x.u x.d va vl vc x.zs q.w HZx0.out HZx1.out (HTx.out.below q.b)).mono (fun _ _ h => BoolB.no h HOK.out));go_wp2_with fail;refine wp_region_wide (by kernel_rfl) (by kernel_rfl) ?_
    repeat (go_big_quiet_step (first | (go_at_call 116;exact Calls.wide (HC0.out _)) | fail))
    refine wpQuiet_nil ?_;rintro _ ⟨q,rfl⟩;have HB1:=upB HW q.b;have Ck:=upK Gk q.b;clear hne0 HW HB HC0 k0 x0 x1 x2 x3 x4 x5 x6 Gk Bk c0 c1 c2 c3 c4 c5 c6 pk;have HB:=HB1;clear HB1;have Bk:=Ck;clear Ck
    go_wp2
    go_ret;exact BoolB.f (fun h => HOK.out (h.1.2.1 k x HXx.out)) HB.out
   have HOK:=hidK hok;clear hok
   by_cases hk0 : 0 < k
   rotate_left
   ·have hd : decide ((0 : Int) < k) = false:=by simp;omega
    have Gk:=Bk;have HW:=HB;have k0:=fun q : Wd wr => q.slot (o:=0) Gk.out rfl;have x0:=fun q : Wd wr => (q.cell hb).trans c0;have x1:=fun q : Wd wr => (q.cell hb).trans c1;have x2:=fun q : Wd wr => (q.cell hb).trans c2;have x3:=fun q : Wd wr => (q.cell hb).trans c3;have x4:=fun q : Wd wr => (q.cell hb).trans c4;have x5:=fun q : Wd wr => (q.cell hb).trans c5;have x6:=fun q : Wd wr => (q.cell hb).trans c6;have hne0:=Wd.ne wr;have HC0:=hidK (fun q : Wd wr => (snode_any x.n x.z x.c x.s x.u x.d va vl vc x.zs q.w HZx0.out HZx1.out (HTx.out.below q.b)).mono (fun _ _ h => BoolB.yes h HOK.out));go_wp2_with fail;refine wp_region_wide (by kernel_rfl) (by kernel_rfl) ?_
    repeat (go_big_quiet_step (first | (go_at_call 116;exact Calls.wide (HC0.out _)) | fail))
    refine wpQuiet_nil ?_;rintro _ ⟨q,rfl⟩;have HB1:=upB HW q.b;have Ck:=upK Gk q.b;clear hne0 HW HB HC0 k0 x0 x1 x2 x3 x4 x5 x6 Gk Bk c0 c1 c2 c3 c4 c5 c6 pk;have HB:=HB1;clear HB1;have Bk:=Ck;clear Ck;clear hd;go_wp2_with fail;refine ⟨⟨k + 1,by omega,by go_num,fun j z hj hz => ?_,fun j z y hj hz hy => ?_,HB.out,Bk.out⟩,by simp [intOf];omega⟩
    ·by_cases e : j = k
     ·subst e;rw [HXx.out] at hz;obtain rfl:=Option.some.inj hz;exact HOK.out
     ·exact HQ.out j z (by omega) hz
    ·by_cases e : j + 1 = k
     ·exact absurd hk0 (by omega)
     ·exact HO.out j z y (by omega) hz hy
   have ek : ((k : Int) - 1).toNat = k - 1:=by omega
   obtain ⟨b',o',y,e',hb',hy,haty⟩:=nd_at (HR.out.n.below HB.out) (show k - 1 < l1 by omega)
   cases e'
   have y0 : wr.cell? ⟨b,o + (k - 1) * 7,none⟩ = some (.string y.n):=by
    obtain ⟨q,h1,h2⟩:=haty 0 _ rfl;obtain ⟨rfl,-⟩:=h2;exact h1
   have HXy:=hidK hy;clear hy haty
   cases hless : Op.bytesLess y.n.toList x.n.toList
   ·have Gk : Hid (wr.heap[w.heap.size]? = some (.cells #[.slice (some ⟨b,o,none⟩) l1 y1,.slice a2 l2 y2,.slice a3 l3 y3,.slice a4 l4 y4,.slice a5 l5 y5,.int .i64 c.now] 36 (0,0))):=Bk.out;have HW:=HB;have k0:=fun q : Wd wr => q.slot (o:=0) Gk.out rfl;have x0:=fun q : Wd wr => (q.cell hb).trans c0;have x1:=fun q : Wd wr => (q.cell hb).trans c1;have x2:=fun q : Wd wr => (q.cell hb).trans c2;have x3:=fun q : Wd wr => (q.cell hb).trans c3;have x4:=fun q : Wd wr => (q.cell hb).trans c4;have x5:=fun q : Wd wr => (q.cell hb).trans c5;have x6:=fun q : Wd wr => (q.cell hb).trans c6;have yw:=fun q : Wd wr => (q.cell hb).trans y0;have hne0:=Wd.ne wr;have HC0:=hidK (fun q : Wd wr => (snode_any x.n x.z x.c x.s x.u x.d va vl vc x.zs q.w HZx0.out HZx1.out (HTx.out.below q.b)).mono (fun _ _ h => BoolB.yes h HOK.out));go_wp2_with fail;refine wp_region_wide (by kernel_rfl) (by kernel_rfl) ?_
    repeat (go_big_quiet_step (first | (go_at_call 116;exact Calls.wide (HC0.out _)) | fail))
    refine wpQuiet_nil ?_;rintro _ ⟨q,rfl⟩;have HB1:=upB HW q.b;have Ck:=upK Gk q.b;clear hne0 HW HB HC0 k0 x0 x1 x2 x3 x4 x5 x6 yw Gk Bk c0 c1 c2 c3 c4 c5 c6 pk y0;have HB:=HB1;clear HB1;have Bk:=Ck;clear Ck
    go_wp2
    go_ret;refine BoolB.f (fun h => ?_) HB.out;have h3:=h.1.2.2 (k - 1) x y (by rw [Nat.sub_add_cancel hk0];exact HXx.out) HXy.out;rw [hless] at h3
    cases h3
   ·have Gk : Hid (wr.heap[w.heap.size]? = some (.cells #[.slice (some ⟨b,o,none⟩) l1 y1,.slice a2 l2 y2,.slice a3 l3 y3,.slice a4 l4 y4,.slice a5 l5 y5,.int .i64 c.now] 36 (0,0))):=Bk.out;have HW:=HB;have k0:=fun q : Wd wr => q.slot (o:=0) Gk.out rfl;have x0:=fun q : Wd wr => (q.cell hb).trans c0;have x1:=fun q : Wd wr => (q.cell hb).trans c1;have x2:=fun q : Wd wr => (q.cell hb).trans c2;have x3:=fun q : Wd wr => (q.cell hb).trans c3;have x4:=fun q : Wd wr => (q.cell hb).trans c4;have x5:=fun q : Wd wr => (q.cell hb).trans c5;have x6:=fun q : Wd wr => (q.cell hb).trans c6;have yw:=fun q : Wd wr => (q.cell hb).trans y0;have hne0:=Wd.ne wr;have HC0:=hidK (fun q : Wd wr => (snode_any x.n x.z x.c x.s x.u x.d va vl vc x.zs q.w HZx0.out HZx1.out (HTx.out.below q.b)).mono (fun _ _ h => BoolB.yes h HOK.out));go_wp2_with fail;refine wp_region_wide (by kernel_rfl) (by kernel_rfl) ?_
    repeat (go_big_quiet_step (first | (go_at_call 116;exact Calls.wide (HC0.out _)) | fail))
    refine wpQuiet_nil ?_;rintro _ ⟨q,rfl⟩;have HB1:=upB HW q.b;have Ck:=upK Gk q.b;clear hne0 HW HB HC0 k0 x0 x1 x2 x3 x4 x5 x6 yw Gk Bk c0 c1 c2 c3 c4 c5 c6 pk y0;have HB:=HB1;clear HB1;have Bk:=Ck;clear Ck;clear ek;go_wp2_with fail;refine ⟨⟨k + 1,by omega,by go_num,fun j z hj hz => ?_,fun j z y hj hz hy => ?_,HB.out,Bk.out⟩,by simp [intOf];omega⟩
    ·by_cases e : j = k
     ·subst e;rw [HXx.out] at hz;obtain rfl:=Option.some.inj hz;exact HOK.out
     ·exact HQ.out j z (by omega) hz
    ·by_cases e : j + 1 = k
     ·have hj : j = k - 1:=by omega
      subst hj;rw [Nat.sub_add_cancel hk0,HXx.out] at hz;obtain rfl:=Option.some.inj hz;rw [HXy.out] at hy;obtain rfl:=Option.some.inj hy;exact hless
     ·exact HO.out j z y (by omega) hz hy
  ·obtain rfl : l1 = k:=by omega
   have HR1 : Hid (RowOk ndOk Nd.n c.ns 6):=⟨by omega,fun j z hz => HQ.out j z (by have:=(List.getElem?_eq_some_iff.1 hz).1;omega) hz,fun j z u hz hu => HO.out j z u (by have:=(List.getElem?_eq_some_iff.1 hz).1;omega) hz hu⟩;clear HQ HO
   skip
   have kc:=ck1 Bk.out
   go_wp2
   go_loopw [4] (fun i wr => ∃ k : Nat,k ≤ l2 ∧ i = .int .i64 k ∧ Hid (∀ (j : Nat) z,j < k → c.ks[j]? = some z → kdOk z) ∧ Hid (∀ (j : Nat) z u,j + 1 < k → c.ks[j + 1]? = some z → c.ks[j]? = some u → Op.bytesLess u.n.toList z.n.toList = true) ∧ Hid (Below w.heap.size w wr) ∧ Hid (wr.heap[w.heap.size]? = some (.cells #[.slice a1 l1 y1,.slice a2 l2 y2,.slice a3 l3 y3,.slice a4 l4 y4,.slice a5 l5 y5,.int .i64 c.now] 36 (0,0)))) (fun i _ => l2 - (intOf i).toNat)
   case atStart => exact ⟨0,by omega,rfl,fun _ _ h => absurd h (by omega),fun _ _ _ h => absurd h (by omega),HB.out,Bk.out⟩
   case round =>
    obtain ⟨k,hk,rfl,HQ,HO,HB,Bk⟩:=hrel;have pk:=ck1 Bk.out
    by_cases hlt : k < l2
    ·obtain ⟨b,o,x,rfl,hb,hx,hat⟩:=kd_at (HR.out.k.below HB.out) hlt;obtain ⟨z0,z3,c0,c1,c2,c3⟩:=kd_cells hat;have HXx:=hidK hx;have HZx0:=hidK z0;have HZx3:=hidK z3;clear hat hx z0 z3
     by_cases hok : kdOk x
     rotate_left
     ·have HOK:=hidK hok;clear hok;have Gk:=Bk;have HW:=HB;have k1:=fun q : Wd wr => q.slot (o:=1) Gk.out rfl;have x0:=fun q : Wd wr => (q.cell hb).trans c0;have x1:=fun q : Wd wr => (q.cell hb).trans c1;have x2:=fun q : Wd wr => (q.cell hb).trans c2;have x3:=fun q : Wd wr => (q.cell hb).trans c3;have hne0:=Wd.ne wr;have HC0:=hidK (fun q : Wd wr => (sclass_any x.n x.z x.x x.y q.w HZx0.out HZx3.out).mono (fun _ _ h => BoolB.no h HOK.out));go_wp2_with fail;refine wp_region_wide (by kernel_rfl) (by kernel_rfl) ?_
      repeat (go_big_quiet_step (first | (go_at_call 117;exact Calls.wide (HC0.out _)) | fail))
      refine wpQuiet_nil ?_;rintro _ ⟨q,rfl⟩;have HB1:=upB HW q.b;have Ck:=upK Gk q.b;clear hne0 HW HB HC0 k1 x0 x1 x2 x3 Gk Bk c0 c1 c2 c3 pk;have HB:=HB1;clear HB1;have Bk:=Ck;clear Ck
      go_wp2
      go_ret;exact BoolB.f (fun h => HOK.out (h.2.1.2.1 k x HXx.out)) HB.out
     have HOK:=hidK hok;clear hok
     by_cases hk0 : 0 < k
     rotate_left
     ·have hd : decide ((0 : Int) < k) = false:=by simp;omega
      have Gk:=Bk;have HW:=HB;have k1:=fun q : Wd wr => q.slot (o:=1) Gk.out rfl;have x0:=fun q : Wd wr => (q.cell hb).trans c0;have x1:=fun q : Wd wr => (q.cell hb).trans c1;have x2:=fun q : Wd wr => (q.cell hb).trans c2;have x3:=fun q : Wd wr => (q.cell hb).trans c3;have hne0:=Wd.ne wr;have HC0:=hidK (fun q : Wd wr => (sclass_any x.n x.z x.x x.y q.w HZx0.out HZx3.out).mono (fun _ _ h => BoolB.yes h HOK.out));go_wp2_with fail;refine wp_region_wide (by kernel_rfl) (by kernel_rfl) ?_
      repeat (go_big_quiet_step (first | (go_at_call 117;exact Calls.wide (HC0.out _)) | fail))
      refine wpQuiet_nil ?_;rintro _ ⟨q,rfl⟩;have HB1:=upB HW q.b;have Ck:=upK Gk q.b;clear hne0 HW HB HC0 k1 x0 x1 x2 x3 Gk Bk c0 c1 c2 c3 pk;have HB:=HB1;clear HB1;have Bk:=Ck;clear Ck;clear hd;go_wp2_with fail;refine ⟨⟨k + 1,by omega,by go_num,fun j z hj hz => ?_,fun j z y hj hz hy => ?_,HB.out,Bk.out⟩,by simp [intOf];omega⟩
      ·by_cases e : j = k
       ·subst e;rw [HXx.out] at hz;obtain rfl:=Option.some.inj hz;exact HOK.out
       ·exact HQ.out j z (by omega) hz
      ·by_cases e : j + 1 = k
       ·exact absurd hk0 (by omega)
       ·exact HO.out j z y (by omega) hz hy
     have ek : ((k : Int) - 1).toNat = k - 1:=by omega
     obtain ⟨b',o',y,e',hb',hy,haty⟩:=kd_at (HR.out.k.below HB.out) (show k - 1 < l2 by omega)
     cases e'
     have y0 : wr.cell? ⟨b,o + (k - 1) * 4,none⟩ = some (.string y.n):=by
      obtain ⟨q,h1,h2⟩:=haty 0 _ rfl;obtain ⟨rfl,-⟩:=h2;exact h1
     have HXy:=hidK hy;clear hy haty
     cases hless : Op.bytesLess y.n.toList x.n.toList
     ·have Gk : Hid (wr.heap[w.heap.size]? = some (.cells #[.slice a1 l1 y1,.slice (some ⟨b,o,none⟩) l2 y2,.slice a3 l3 y3,.slice a4 l4 y4,.slice a5 l5 y5,.int .i64 c.now] 36 (0,0))):=Bk.out;have HW:=HB;have k1:=fun q : Wd wr => q.slot (o:=1) Gk.out rfl;have x0:=fun q : Wd wr => (q.cell hb).trans c0;have x1:=fun q : Wd wr => (q.cell hb).trans c1;have x2:=fun q : Wd wr => (q.cell hb).trans c2;have x3:=fun q : Wd wr => (q.cell hb).trans c3;have yw:=fun q : Wd wr => (q.cell hb).trans y0;have hne0:=Wd.ne wr;have HC0:=hidK (fun q : Wd wr => (sclass_any x.n x.z x.x x.y q.w HZx0.out HZx3.out).mono (fun _ _ h => BoolB.yes h HOK.out));go_wp2_with fail;refine wp_region_wide (by kernel_rfl) (by kernel_rfl) ?_
      repeat (go_big_quiet_step (first | (go_at_call 117;exact Calls.wide (HC0.out _)) | fail))
      refine wpQuiet_nil ?_;rintro _ ⟨q,rfl⟩;have HB1:=upB HW q.b;have Ck:=upK Gk q.b;clear hne0 HW HB HC0 k1 x0 x1 x2 x3 yw Gk Bk c0 c1 c2 c3 pk y0;have HB:=HB1;clear HB1;have Bk:=Ck;clear Ck
      go_wp2
      go_ret;refine BoolB.f (fun h => ?_) HB.out;have h3:=h.2.1.2.2 (k - 1) x y (by rw [Nat.sub_add_cancel hk0];exact HXx.out) HXy.out;rw [hless] at h3
      cases h3
     ·have Gk : Hid (wr.heap[w.heap.size]? = some (.cells #[.slice a1 l1 y1,.slice (some ⟨b,o,none⟩) l2 y2,.slice a3 l3 y3,.slice a4 l4 y4,.slice a5 l5 y5,.int .i64 c.now] 36 (0,0))):=Bk.out;have HW:=HB;have k1:=fun q : Wd wr => q.slot (o:=1) Gk.out rfl;have x0:=fun q : Wd wr => (q.cell hb).trans c0;have x1:=fun q : Wd wr => (q.cell hb).trans c1;have x2:=fun q : Wd wr => (q.cell hb).trans c2;have x3:=fun q : Wd wr => (q.cell hb).trans c3;have yw:=fun q : Wd wr => (q.cell hb).trans y0;have hne0:=Wd.ne wr;have HC0:=hidK (fun q : Wd wr => (sclass_any x.n x.z x.x x.y q.w HZx0.out HZx3.out).mono (fun _ _ h => BoolB.yes h HOK.out));go_wp2_with fail;refine wp_region_wide (by kernel_rfl) (by kernel_rfl) ?_
      repeat (go_big_quiet_step (first | (go_at_call 117;exact Calls.wide (HC0.out _)) | fail))
      refine wpQuiet_nil ?_;rintro _ ⟨q,rfl⟩;have HB1:=upB HW q.b;have Ck:=upK Gk q.b;clear hne0 HW HB HC0 k1 x0 x1 x2 x3 yw Gk Bk c0 c1 c2 c3 pk y0;have HB:=HB1;clear HB1;have Bk:=Ck;clear Ck;clear ek;go_wp2_with fail;refine ⟨⟨k + 1,by omega,by go_num,fun j z hj hz => ?_,fun j z y hj hz hy => ?_,HB.out,Bk.out⟩,by simp [intOf];omega⟩
      ·by_cases e : j = k
       ·subst e;rw [HXx.out] at hz;obtain rfl:=Option.some.inj hz;exact HOK.out
       ·exact HQ.out j z (by omega) hz
      ·by_cases e : j + 1 = k
       ·have hj : j = k - 1:=by omega
        subst hj;rw [Nat.sub_add_cancel hk0,HXx.out] at hz;obtain rfl:=Option.some.inj hz;rw [HXy.out] at hy;obtain rfl:=Option.some.inj hy;exact hless
       ·exact HO.out j z y (by omega) hz hy
    ·obtain rfl : l2 = k:=by omega
     have HR2 : Hid (RowOk kdOk Kd.n c.ks 8):=⟨by omega,fun j z hz => HQ.out j z (by have:=(List.getElem?_eq_some_iff.1 hz).1;omega) hz,fun j z u hz hu => HO.out j z u (by have:=(List.getElem?_eq_some_iff.1 hz).1;omega) hz hu⟩;clear HQ HO
     skip
     have kc:=ck2 Bk.out
     go_wp2
     go_loopw [5] (fun i wr => ∃ k : Nat,k ≤ l3 ∧ i = .int .i64 k ∧ Hid (∀ (j : Nat) z,j < k → c.vs[j]? = some z → vdOk z) ∧ Hid (∀ (j : Nat) z u,j + 1 < k → c.vs[j + 1]? = some z → c.vs[j]? = some u → Op.bytesLess u.n.toList z.n.toList = true) ∧ Hid (Below w.heap.size w wr) ∧ Hid (wr.heap[w.heap.size]? = some (.cells #[.slice a1 l1 y1,.slice a2 l2 y2,.slice a3 l3 y3,.slice a4 l4 y4,.slice a5 l5 y5,.int .i64 c.now] 36 (0,0)))) (fun i _ => l3 - (intOf i).toNat)
     case atStart => exact ⟨0,by omega,rfl,fun _ _ h => absurd h (by omega),fun _ _ _ h => absurd h (by omega),HB.out,Bk.out⟩
     case round =>
      obtain ⟨k,hk,rfl,HQ,HO,HB,Bk⟩:=hrel;have pk:=ck2 Bk.out
      by_cases hlt : k < l3
      ·obtain ⟨b,o,x,rfl,hb,hx,hat⟩:=vd_at (HR.out.v.below HB.out) hlt;obtain ⟨va,vl,vc,hvr,z0,z2,z3,z5,c0,c1,c2,c3,c4,c5,c6,c7⟩:=vd_cells hat;have HXx:=hidK hx;have HTx:=hidK hvr;have HZx0:=hidK z0;have HZx2:=hidK z2;have HZx3:=hidK z3;have HZx5:=hidK z5;clear hat hx z0 z2 z3 z5 hvr
       by_cases hok : vdOk x
       rotate_left
       ·have HOK:=hidK hok;clear hok;have Gk:=Bk;have HW:=HB;have k2:=fun q : Wd wr => q.slot (o:=2) Gk.out rfl;have x0:=fun q : Wd wr => (q.cell hb).trans c0;have x1:=fun q : Wd wr => (q.cell hb).trans c1;have x2:=fun q : Wd wr => (q.cell hb).trans c2;have x3:=fun q : Wd wr => (q.cell hb).trans c3;have x4:=fun q : Wd wr => (q.cell hb).trans c4;have x5:=fun q : Wd wr => (q.cell hb).trans c5;have x6:=fun q : Wd wr => (q.cell hb).trans c6;have x7:=fun q : Wd wr => (q.cell hb).trans c7;have hne0:=Wd.ne wr;have HC0:=hidK (fun q : Wd wr => (svol_any x.n x.c x.z x.k x.x x.m x.y va vl vc x.zs q.w HZx0.out HZx2.out HZx3.out HZx5.out (HTx.out.below q.b)).mono (fun _ _ h => BoolB.no h HOK.out));go_wp2_with fail;refine wp_region_wide (by kernel_rfl) (by kernel_rfl) ?_
        repeat (go_big_quiet_step (first | (go_at_call 118;exact Calls.wide (HC0.out _)) | fail))
        refine wpQuiet_nil ?_;rintro _ ⟨q,rfl⟩;have HB1:=upB HW q.b;have Ck:=upK Gk q.b;clear hne0 HW HB HC0 k2 x0 x1 x2 x3 x4 x5 x6 x7 Gk Bk c0 c1 c2 c3 c4 c5 c6 c7 pk;have HB:=HB1;clear HB1;have Bk:=Ck;clear Ck
        go_wp2
        go_ret;exact BoolB.f (fun h => HOK.out (h.2.2.1.2.1 k x HXx.out)) HB.out
       have HOK:=hidK hok;clear hok
       by_cases hk0 : 0 < k
       rotate_left
       ·have hd : decide ((0 : Int) < k) = false:=by simp;omega
        have Gk:=Bk;have HW:=HB;have k2:=fun q : Wd wr => q.slot (o:=2) Gk.out rfl;have x0:=fun q : Wd wr => (q.cell hb).trans c0;have x1:=fun q : Wd wr => (q.cell hb).trans c1;have x2:=fun q : Wd wr => (q.cell hb).trans c2;have x3:=fun q : Wd wr => (q.cell hb).trans c3;have x4:=fun q : Wd wr => (q.cell hb).trans c4;have x5:=fun q : Wd wr => (q.cell hb).trans c5;have x6:=fun q : Wd wr => (q.cell hb).trans c6;have x7:=fun q : Wd wr => (q.cell hb).trans c7;have hne0:=Wd.ne wr;have HC0:=hidK (fun q : Wd wr => (svol_any x.n x.c x.z x.k x.x x.m x.y va vl vc x.zs q.w HZx0.out HZx2.out HZx3.out HZx5.out (HTx.out.below q.b)).mono (fun _ _ h => BoolB.yes h HOK.out));go_wp2_with fail;refine wp_region_wide (by kernel_rfl) (by kernel_rfl) ?_
        repeat (go_big_quiet_step (first | (go_at_call 118;exact Calls.wide (HC0.out _)) | fail))
        refine wpQuiet_nil ?_;rintro _ ⟨q,rfl⟩;have HB1:=upB HW q.b;have Ck:=upK Gk q.b;clear hne0 HW HB HC0 k2 x0 x1 x2 x3 x4 x5 x6 x7 Gk Bk c0 c1 c2 c3 c4 c5 c6 c7 pk;have HB:=HB1;clear HB1;have Bk:=Ck;clear Ck;clear hd;go_wp2_with fail;refine ⟨⟨k + 1,by omega,by go_num,fun j z hj hz => ?_,fun j z y hj hz hy => ?_,HB.out,Bk.out⟩,by simp [intOf];omega⟩
        ·by_cases e : j = k
         ·subst e;rw [HXx.out] at hz;obtain rfl:=Option.some.inj hz;exact HOK.out
         ·exact HQ.out j z (by omega) hz
        ·by_cases e : j + 1 = k
         ·exact absurd hk0 (by omega)
         ·exact HO.out j z y (by omega) hz hy
       have ek : ((k : Int) - 1).toNat = k - 1:=by omega
       obtain ⟨b',o',y,e',hb',hy,haty⟩:=vd_at (HR.out.v.below HB.out) (show k - 1 < l3 by omega)
       cases e'
       have y0 : wr.cell? ⟨b,o + (k - 1) * 8,none⟩ = some (.string y.n):=by
        obtain ⟨q,h1,h2⟩:=haty 0 _ rfl;obtain ⟨rfl,-⟩:=h2;exact h1
       have HXy:=hidK hy;clear hy haty
       cases hless : Op.bytesLess y.n.toList x.n.toList
       ·have Gk : Hid (wr.heap[w.heap.size]? = some (.cells #[.slice a1 l1 y1,.slice a2 l2 y2,.slice (some ⟨b,o,none⟩) l3 y3,.slice a4 l4 y4,.slice a5 l5 y5,.int .i64 c.now] 36 (0,0))):=Bk.out;have HW:=HB;have k2:=fun q : Wd wr => q.slot (o:=2) Gk.out rfl;have x0:=fun q : Wd wr => (q.cell hb).trans c0;have x1:=fun q : Wd wr => (q.cell hb).trans c1;have x2:=fun q : Wd wr => (q.cell hb).trans c2;have x3:=fun q : Wd wr => (q.cell hb).trans c3;have x4:=fun q : Wd wr => (q.cell hb).trans c4;have x5:=fun q : Wd wr => (q.cell hb).trans c5;have x6:=fun q : Wd wr => (q.cell hb).trans c6;have x7:=fun q : Wd wr => (q.cell hb).trans c7;have yw:=fun q : Wd wr => (q.cell hb).trans y0;have hne0:=Wd.ne wr;have HC0:=hidK (fun q : Wd wr => (svol_any x.n x.c x.z x.k x.x x.m x.y va vl vc x.zs q.w HZx0.out HZx2.out HZx3.out HZx5.out (HTx.out.below q.b)).mono (fun _ _ h => BoolB.yes h HOK.out));go_wp2_with fail;refine wp_region_wide (by kernel_rfl) (by kernel_rfl) ?_
        repeat (go_big_quiet_step (first | (go_at_call 118;exact Calls.wide (HC0.out _)) | fail))
        refine wpQuiet_nil ?_;rintro _ ⟨q,rfl⟩;have HB1:=upB HW q.b;have Ck:=upK Gk q.b;clear hne0 HW HB HC0 k2 x0 x1 x2 x3 x4 x5 x6 x7 yw Gk Bk c0 c1 c2 c3 c4 c5 c6 c7 pk y0;have HB:=HB1;clear HB1;have Bk:=Ck;clear Ck
        go_wp2
        go_ret;refine BoolB.f (fun h => ?_) HB.out;have h3:=h.2.2.1.2.2 (k - 1) x y (by rw [Nat.sub_add_cancel hk0];exact HXx.out) HXy.out;rw [hless] at h3
        cases h3
       ·have Gk : Hid (wr.heap[w.heap.size]? = some (.cells #[.slice a1 l1 y1,.slice a2 l2 y2,.slice (some ⟨b,o,none⟩) l3 y3,.slice a4 l4 y4,.slice a5 l5 y5,.int .i64 c.now] 36 (0,0))):=Bk.out;have HW:=HB;have k2:=fun q : Wd wr => q.slot (o:=2) Gk.out rfl;have x0:=fun q : Wd wr => (q.cell hb).trans c0;have x1:=fun q : Wd wr => (q.cell hb).trans c1;have x2:=fun q : Wd wr => (q.cell hb).trans c2;have x3:=fun q : Wd wr => (q.cell hb).trans c3;have x4:=fun q : Wd wr => (q.cell hb).trans c4;have x5:=fun q : Wd wr => (q.cell hb).trans c5;have x6:=fun q : Wd wr => (q.cell hb).trans c6;have x7:=fun q : Wd wr => (q.cell hb).trans c7;have yw:=fun q : Wd wr => (q.cell hb).trans y0;have hne0:=Wd.ne wr;have HC0:=hidK (fun q : Wd wr => (svol_any x.n x.c x.z x.k x.x x.m x.y va vl vc x.zs q.w HZx0.out HZx2.out HZx3.out HZx5.out (HTx.out.below q.b)).mono (fun _ _ h => BoolB.yes h HOK.out));go_wp2_with fail;refine wp_region_wide (by kernel_rfl) (by kernel_rfl) ?_
        repeat (go_big_quiet_step (first | (go_at_call 118;exact Calls.wide (HC0.out _)) | fail))
        refine wpQuiet_nil ?_;rintro _ ⟨q,rfl⟩;have HB1:=upB HW q.b;have Ck:=upK Gk q.b;clear hne0 HW HB HC0 k2 x0 x1 x2 x3 x4 x5 x6 x7 yw Gk Bk c0 c1 c2 c3 c4 c5 c6 c7 pk y0;have HB:=HB1;clear HB1;have Bk:=Ck;clear Ck;clear ek;go_wp2_with fail;refine ⟨⟨k + 1,by omega,by go_num,fun j z hj hz => ?_,fun j z y hj hz hy => ?_,HB.out,Bk.out⟩,by simp [intOf];omega⟩
        ·by_cases e : j = k
         ·subst e;rw [HXx.out] at hz;obtain rfl:=Option.some.inj hz;exact HOK.out
         ·exact HQ.out j z (by omega) hz
        ·by_cases e : j + 1 = k
         ·have hj : j = k - 1:=by omega
          subst hj;rw [Nat.sub_add_cancel hk0,HXx.out] at hz;obtain rfl:=Option.some.inj hz;rw [HXy.out] at hy;obtain rfl:=Option.some.inj hy;exact hless
         ·exact HO.out j z y (by omega) hz hy
      ·obtain rfl : l3 = k:=by omega
       have HR3 : Hid (RowOk vdOk Vd.n c.vs 8):=⟨by omega,fun j z hz => HQ.out j z (by have:=(List.getElem?_eq_some_iff.1 hz).1;omega) hz,fun j z u hz hu => HO.out j z u (by have:=(List.getElem?_eq_some_iff.1 hz).1;omega) hz hu⟩;clear HQ HO
       skip
       have kc:=ck3 Bk.out
       go_wp2
       go_loopw [6] (fun i wr => ∃ k : Nat,k ≤ l4 ∧ i = .int .i64 k ∧ Hid (∀ (j : Nat) z,j < k → c.xs[j]? = some z → xdOk z) ∧ Hid (∀ (j : Nat) z u,j + 1 < k → c.xs[j + 1]? = some z → c.xs[j]? = some u → Op.bytesLess u.n.toList z.n.toList = true) ∧ Hid (Below w.heap.size w wr) ∧ Hid (wr.heap[w.heap.size]? = some (.cells #[.slice a1 l1 y1,.slice a2 l2 y2,.slice a3 l3 y3,.slice a4 l4 y4,.slice a5 l5 y5,.int .i64 c.now] 36 (0,0)))) (fun i _ => l4 - (intOf i).toNat)
       case atStart => exact ⟨0,by omega,rfl,fun _ _ h => absurd h (by omega),fun _ _ _ h => absurd h (by omega),HB.out,Bk.out⟩
       case round =>
        obtain ⟨k,hk,rfl,HQ,HO,HB,Bk⟩:=hrel;have pk:=ck3 Bk.out
        by_cases hlt : k < l4
        ·obtain ⟨b,o,x,rfl,hb,hx,hat⟩:=xd_at (HR.out.x.below HB.out) hlt;obtain ⟨z0,z2,z4,c0,c1,c2,c3,c4⟩:=xd_cells hat;have HXx:=hidK hx;have HZx0:=hidK z0;have HZx2:=hidK z2;have HZx4:=hidK z4;clear hat hx z0 z2 z4
         by_cases hok : xdOk x
         rotate_left
         ·have HOK:=hidK hok;clear hok;have Gk:=Bk;have HW:=HB;have k3:=fun q : Wd wr => q.slot (o:=3) Gk.out rfl;have x0:=fun q : Wd wr => (q.cell hb).trans c0;have x1:=fun q : Wd wr => (q.cell hb).trans c1;have x2:=fun q : Wd wr => (q.cell hb).trans c2;have x3:=fun q : Wd wr => (q.cell hb).trans c3;have x4:=fun q : Wd wr => (q.cell hb).trans c4;have hne0:=Wd.ne wr;have HC0:=hidK (fun q : Wd wr => (sclaim_any x.n x.z x.k x.x x.v q.w HZx0.out HZx2.out HZx4.out).mono (fun _ _ h => BoolB.no h HOK.out));go_wp2_with fail;refine wp_region_wide (by kernel_rfl) (by kernel_rfl) ?_
          repeat (go_big_quiet_step (first | (go_at_call 119;exact Calls.wide (HC0.out _)) | fail))
          refine wpQuiet_nil ?_;rintro _ ⟨q,rfl⟩;have HB1:=upB HW q.b;have Ck:=upK Gk q.b;clear hne0 HW HB HC0 k3 x0 x1 x2 x3 x4 Gk Bk c0 c1 c2 c3 c4 pk;have HB:=HB1;clear HB1;have Bk:=Ck;clear Ck
          go_wp2
          go_ret;exact BoolB.f (fun h => HOK.out (h.2.2.2.1.2.1 k x HXx.out)) HB.out
         have HOK:=hidK hok;clear hok
         by_cases hk0 : 0 < k
         rotate_left
         ·have hd : decide ((0 : Int) < k) = false:=by simp;omega
          have Gk:=Bk;have HW:=HB;have k3:=fun q : Wd wr => q.slot (o:=3) Gk.out rfl;have x0:=fun q : Wd wr => (q.cell hb).trans c0;have x1:=fun q : Wd wr => (q.cell hb).trans c1;have x2:=fun q : Wd wr => (q.cell hb).trans c2;have x3:=fun q : Wd wr => (q.cell hb).trans c3;have x4:=fun q : Wd wr => (q.cell hb).trans c4;have hne0:=Wd.ne wr;have HC0:=hidK (fun q : Wd wr => (sclaim_any x.n x.z x.k x.x x.v q.w HZx0.out HZx2.out HZx4.out).mono (fun _ _ h => BoolB.yes h HOK.out));go_wp2_with fail;refine wp_region_wide (by kernel_rfl) (by kernel_rfl) ?_
          repeat (go_big_quiet_step (first | (go_at_call 119;exact Calls.wide (HC0.out _)) | fail))
          refine wpQuiet_nil ?_;rintro _ ⟨q,rfl⟩;have HB1:=upB HW q.b;have Ck:=upK Gk q.b;clear hne0 HW HB HC0 k3 x0 x1 x2 x3 x4 Gk Bk c0 c1 c2 c3 c4 pk;have HB:=HB1;clear HB1;have Bk:=Ck;clear Ck;clear hd;go_wp2_with fail;refine ⟨⟨k + 1,by omega,by go_num,fun j z hj hz => ?_,fun j z y hj hz hy => ?_,HB.out,Bk.out⟩,by simp [intOf];omega⟩
          ·by_cases e : j = k
           ·subst e;rw [HXx.out] at hz;obtain rfl:=Option.some.inj hz;exact HOK.out
           ·exact HQ.out j z (by omega) hz
          ·by_cases e : j + 1 = k
           ·exact absurd hk0 (by omega)
           ·exact HO.out j z y (by omega) hz hy
         have ek : ((k : Int) - 1).toNat = k - 1:=by omega
         obtain ⟨b',o',y,e',hb',hy,haty⟩:=xd_at (HR.out.x.below HB.out) (show k - 1 < l4 by omega)
         cases e'
         have y0 : wr.cell? ⟨b,o + (k - 1) * 5,none⟩ = some (.string y.n):=by
          obtain ⟨q,h1,h2⟩:=haty 0 _ rfl;obtain ⟨rfl,-⟩:=h2;exact h1
         have HXy:=hidK hy;clear hy haty
         cases hless : Op.bytesLess y.n.toList x.n.toList
         ·have Gk : Hid (wr.heap[w.heap.size]? = some (.cells #[.slice a1 l1 y1,.slice a2 l2 y2,.slice a3 l3 y3,.slice (some ⟨b,o,none⟩) l4 y4,.slice a5 l5 y5,.int .i64 c.now] 36 (0,0))):=Bk.out;have HW:=HB;have k3:=fun q : Wd wr => q.slot (o:=3) Gk.out rfl;have x0:=fun q : Wd wr => (q.cell hb).trans c0;have x1:=fun q : Wd wr => (q.cell hb).trans c1;have x2:=fun q : Wd wr => (q.cell hb).trans c2;have x3:=fun q : Wd wr => (q.cell hb).trans c3;have x4:=fun q : Wd wr => (q.cell hb).trans c4;have yw:=fun q : Wd wr => (q.cell hb).trans y0;have hne0:=Wd.ne wr;have HC0:=hidK (fun q : Wd wr => (sclaim_any x.n x.z x.k x.x x.v q.w HZx0.out HZx2.out HZx4.out).mono (fun _ _ h => BoolB.yes h HOK.out));go_wp2_with fail;refine wp_region_wide (by kernel_rfl) (by kernel_rfl) ?_
          repeat (go_big_quiet_step (first | (go_at_call 119;exact Calls.wide (HC0.out _)) | fail))
          refine wpQuiet_nil ?_;rintro _ ⟨q,rfl⟩;have HB1:=upB HW q.b;have Ck:=upK Gk q.b;clear hne0 HW HB HC0 k3 x0 x1 x2 x3 x4 yw Gk Bk c0 c1 c2 c3 c4 pk y0;have HB:=HB1;clear HB1;have Bk:=Ck;clear Ck
          go_wp2
          go_ret;refine BoolB.f (fun h => ?_) HB.out;have h3:=h.2.2.2.1.2.2 (k - 1) x y (by rw [Nat.sub_add_cancel hk0];exact HXx.out) HXy.out;rw [hless] at h3
          cases h3
         ·have Gk : Hid (wr.heap[w.heap.size]? = some (.cells #[.slice a1 l1 y1,.slice a2 l2 y2,.slice a3 l3 y3,.slice (some ⟨b,o,none⟩) l4 y4,.slice a5 l5 y5,.int .i64 c.now] 36 (0,0))):=Bk.out;have HW:=HB;have k3:=fun q : Wd wr => q.slot (o:=3) Gk.out rfl;have x0:=fun q : Wd wr => (q.cell hb).trans c0;have x1:=fun q : Wd wr => (q.cell hb).trans c1;have x2:=fun q : Wd wr => (q.cell hb).trans c2;have x3:=fun q : Wd wr => (q.cell hb).trans c3;have x4:=fun q : Wd wr => (q.cell hb).trans c4;have yw:=fun q : Wd wr => (q.cell hb).trans y0;have hne0:=Wd.ne wr;have HC0:=hidK (fun q : Wd wr => (sclaim_any x.n x.z x.k x.x x.v q.w HZx0.out HZx2.out HZx4.out).mono (fun _ _ h => BoolB.yes h HOK.out));go_wp2_with fail;refine wp_region_wide (by kernel_rfl) (by kernel_rfl) ?_
          repeat (go_big_quiet_step (first | (go_at_call 119;exact Calls.wide (HC0.out _)) | fail))
          refine wpQuiet_nil ?_;rintro _ ⟨q,rfl⟩;have HB1:=upB HW q.b;have Ck:=upK Gk q.b;clear hne0 HW HB HC0 k3 x0 x1 x2 x3 x4 yw Gk Bk c0 c1 c2 c3 c4 pk y0;have HB:=HB1;clear HB1;have Bk:=Ck;clear Ck;clear ek;go_wp2_with fail;refine ⟨⟨k + 1,by omega,by go_num,fun j z hj hz => ?_,fun j z y hj hz hy => ?_,HB.out,Bk.out⟩,by simp [intOf];omega⟩
          ·by_cases e : j = k
           ·subst e;rw [HXx.out] at hz;obtain rfl:=Option.some.inj hz;exact HOK.out
           ·exact HQ.out j z (by omega) hz
          ·by_cases e : j + 1 = k
           ·have hj : j = k - 1:=by omega
            subst hj;rw [Nat.sub_add_cancel hk0,HXx.out] at hz;obtain rfl:=Option.some.inj hz;rw [HXy.out] at hy;obtain rfl:=Option.some.inj hy;exact hless
           ·exact HO.out j z y (by omega) hz hy
        ·obtain rfl : l4 = k:=by omega
         have HR4 : Hid (RowOk xdOk Xd.n c.xs 8):=⟨by omega,fun j z hz => HQ.out j z (by have:=(List.getElem?_eq_some_iff.1 hz).1;omega) hz,fun j z u hz hu => HO.out j z u (by have:=(List.getElem?_eq_some_iff.1 hz).1;omega) hz hu⟩;clear HQ HO
         skip
         have kc:=ck4 Bk.out
         go_wp2
         go_loopw [7] (fun i wr => ∃ k : Nat,k ≤ l5 ∧ i = .int .i64 k ∧ Hid (∀ (j : Nat) z,j < k → c.ps[j]? = some z → pdOk z) ∧ Hid (∀ (j : Nat) z u,j + 1 < k → c.ps[j + 1]? = some z → c.ps[j]? = some u → Op.bytesLess u.n.toList z.n.toList = true) ∧ Hid (Below w.heap.size w wr) ∧ Hid (wr.heap[w.heap.size]? = some (.cells #[.slice a1 l1 y1,.slice a2 l2 y2,.slice a3 l3 y3,.slice a4 l4 y4,.slice a5 l5 y5,.int .i64 c.now] 36 (0,0)))) (fun i _ => l5 - (intOf i).toNat)
         case atStart => exact ⟨0,by omega,rfl,fun _ _ h => absurd h (by omega),fun _ _ _ h => absurd h (by omega),HB.out,Bk.out⟩
         case round =>
          obtain ⟨k,hk,rfl,HQ,HO,HB,Bk⟩:=hrel;have pk:=ck4 Bk.out
          by_cases hlt : k < l5
          ·obtain ⟨b,o,x,rfl,hb,hx,hat⟩:=pd_at (HR.out.p.below HB.out) hlt;obtain ⟨va,vl,vc,hvr,z0,z2,z4,c0,c1,c2,c3,c4,c5⟩:=pd_cells hat;have HXx:=hidK hx;have HTx:=hidK hvr;have HZx0:=hidK z0;have HZx2:=hidK z2;have HZx4:=hidK z4;clear hat hx z0 z2 z4 hvr
           by_cases hok : pdOk x
           rotate_left
           ·have HOK:=hidK hok;clear hok;have Gk:=Bk;have HW:=HB;have k4:=fun q : Wd wr => q.slot (o:=4) Gk.out rfl;have x0:=fun q : Wd wr => (q.cell hb).trans c0;have x1:=fun q : Wd wr => (q.cell hb).trans c1;have x2:=fun q : Wd wr => (q.cell hb).trans c2;have x3:=fun q : Wd wr => (q.cell hb).trans c3;have x4:=fun q : Wd wr => (q.cell hb).trans c4;have x5:=fun q : Wd wr => (q.cell hb).trans c5;have hne0:=Wd.ne wr;have HC0:=hidK (fun q : Wd wr => (spod_any x.n x.c x.z va vl vc x.zs x.d x.p q.w HZx0.out HZx2.out HZx4.out (HTx.out.below q.b)).mono (fun _ _ h => BoolB.no h HOK.out));go_wp2_with fail;refine wp_region_wide (by kernel_rfl) (by kernel_rfl) ?_
            repeat (go_big_quiet_step (first | (go_at_call 120;exact Calls.wide (HC0.out _)) | fail))
            refine wpQuiet_nil ?_;rintro _ ⟨q,rfl⟩;have HB1:=upB HW q.b;have Ck:=upK Gk q.b;clear hne0 HW HB HC0 k4 x0 x1 x2 x3 x4 x5 Gk Bk c0 c1 c2 c3 c4 c5 pk;have HB:=HB1;clear HB1;have Bk:=Ck;clear Ck
            go_wp2
            go_ret;exact BoolB.f (fun h => HOK.out (h.2.2.2.2.2.1 k x HXx.out)) HB.out
           have HOK:=hidK hok;clear hok
           by_cases hk0 : 0 < k
           rotate_left
           ·have hd : decide ((0 : Int) < k) = false:=by simp;omega
            have Gk:=Bk;have HW:=HB;have k4:=fun q : Wd wr => q.slot (o:=4) Gk.out rfl;have x0:=fun q : Wd wr => (q.cell hb).trans c0;have x1:=fun q : Wd wr => (q.cell hb).trans c1;have x2:=fun q : Wd wr => (q.cell hb).trans c2;have x3:=fun q : Wd wr => (q.cell hb).trans c3;have x4:=fun q : Wd wr => (q.cell hb).trans c4;have x5:=fun q : Wd wr => (q.cell hb).trans c5;have hne0:=Wd.ne wr;have HC0:=hidK (fun q : Wd wr => (spod_any x.n x.c x.z va vl vc x.zs x.d x.p q.w HZx0.out HZx2.out HZx4.out (HTx.out.below q.b)).mono (fun _ _ h => BoolB.yes h HOK.out));go_wp2_with fail;refine wp_region_wide (by kernel_rfl) (by kernel_rfl) ?_
            repeat (go_big_quiet_step (first | (go_at_call 120;exact Calls.wide (HC0.out _)) | fail))
            refine wpQuiet_nil ?_;rintro _ ⟨q,rfl⟩;have HB1:=upB HW q.b;have Ck:=upK Gk q.b;clear hne0 HW HB HC0 k4 x0 x1 x2 x3 x4 x5 Gk Bk c0 c1 c2 c3 c4 c5 pk;have HB:=HB1;clear HB1;have Bk:=Ck;clear Ck;clear hd;go_wp2_with fail;refine ⟨⟨k + 1,by omega,by go_num,fun j z hj hz => ?_,fun j z y hj hz hy => ?_,HB.out,Bk.out⟩,by simp [intOf];omega⟩
            ·by_cases e : j = k
             ·subst e;rw [HXx.out] at hz;obtain rfl:=Option.some.inj hz;exact HOK.out
             ·exact HQ.out j z (by omega) hz
            ·by_cases e : j + 1 = k
             ·exact absurd hk0 (by omega)
             ·exact HO.out j z y (by omega) hz hy
           have ek : ((k : Int) - 1).toNat = k - 1:=by omega
           obtain ⟨b',o',y,e',hb',hy,haty⟩:=pd_at (HR.out.p.below HB.out) (show k - 1 < l5 by omega)
           cases e'
           have y0 : wr.cell? ⟨b,o + (k - 1) * 6,none⟩ = some (.string y.n):=by
            obtain ⟨q,h1,h2⟩:=haty 0 _ rfl;obtain ⟨rfl,-⟩:=h2;exact h1
           have HXy:=hidK hy;clear hy haty
           cases hless : Op.bytesLess y.n.toList x.n.toList
           ·have Gk : Hid (wr.heap[w.heap.size]? = some (.cells #[.slice a1 l1 y1,.slice a2 l2 y2,.slice a3 l3 y3,.slice a4 l4 y4,.slice (some ⟨b,o,none⟩) l5 y5,.int .i64 c.now] 36 (0,0))):=Bk.out;have HW:=HB;have k4:=fun q : Wd wr => q.slot (o:=4) Gk.out rfl;have x0:=fun q : Wd wr => (q.cell hb).trans c0;have x1:=fun q : Wd wr => (q.cell hb).trans c1;have x2:=fun q : Wd wr => (q.cell hb).trans c2;have x3:=fun q : Wd wr => (q.cell hb).trans c3;have x4:=fun q : Wd wr => (q.cell hb).trans c4;have x5:=fun q : Wd wr => (q.cell hb).trans c5;have yw:=fun q : Wd wr => (q.cell hb).trans y0;have hne0:=Wd.ne wr;have HC0:=hidK (fun q : Wd wr => (spod_any x.n x.c x.z va vl vc x.zs x.d x.p q.w HZx0.out HZx2.out HZx4.out (HTx.out.below q.b)).mono (fun _ _ h => BoolB.yes h HOK.out));go_wp2_with fail;refine wp_region_wide (by kernel_rfl) (by kernel_rfl) ?_
            repeat (go_big_quiet_step (first | (go_at_call 120;exact Calls.wide (HC0.out _)) | fail))
            refine wpQuiet_nil ?_;rintro _ ⟨q,rfl⟩;have HB1:=upB HW q.b;have Ck:=upK Gk q.b;clear hne0 HW HB HC0 k4 x0 x1 x2 x3 x4 x5 yw Gk Bk c0 c1 c2 c3 c4 c5 pk y0;have HB:=HB1;clear HB1;have Bk:=Ck;clear Ck
            go_wp2
            go_ret;refine BoolB.f (fun h => ?_) HB.out;have h3:=h.2.2.2.2.2.2 (k - 1) x y (by rw [Nat.sub_add_cancel hk0];exact HXx.out) HXy.out;rw [hless] at h3
            cases h3
           ·have Gk : Hid (wr.heap[w.heap.size]? = some (.cells #[.slice a1 l1 y1,.slice a2 l2 y2,.slice a3 l3 y3,.slice a4 l4 y4,.slice (some ⟨b,o,none⟩) l5 y5,.int .i64 c.now] 36 (0,0))):=Bk.out;have HW:=HB;have k4:=fun q : Wd wr => q.slot (o:=4) Gk.out rfl;have x0:=fun q : Wd wr => (q.cell hb).trans c0;have x1:=fun q : Wd wr => (q.cell hb).trans c1;have x2:=fun q : Wd wr => (q.cell hb).trans c2;have x3:=fun q : Wd wr => (q.cell hb).trans c3;have x4:=fun q : Wd wr => (q.cell hb).trans c4;have x5:=fun q : Wd wr => (q.cell hb).trans c5;have yw:=fun q : Wd wr => (q.cell hb).trans y0;have hne0:=Wd.ne wr;have HC0:=hidK (fun q : Wd wr => (spod_any x.n x.c x.z va vl vc x.zs x.d x.p q.w HZx0.out HZx2.out HZx4.out (HTx.out.below q.b)).mono (fun _ _ h => BoolB.yes h HOK.out));go_wp2_with fail;refine wp_region_wide (by kernel_rfl) (by kernel_rfl) ?_
            repeat (go_big_quiet_step (first | (go_at_call 120;exact Calls.wide (HC0.out _)) | fail))
            refine wpQuiet_nil ?_;rintro _ ⟨q,rfl⟩;have HB1:=upB HW q.b;have Ck:=upK Gk q.b;clear hne0 HW HB HC0 k4 x0 x1 x2 x3 x4 x5 yw Gk Bk c0 c1 c2 c3 c4 c5 pk y0;have HB:=HB1;clear HB1;have Bk:=Ck;clear Ck;clear ek;go_wp2_with fail;refine ⟨⟨k + 1,by omega,by go_num,fun j z hj hz => ?_,fun j z y hj hz hy => ?_,HB.out,Bk.out⟩,by simp [intOf];omega⟩
            ·by_cases e : j = k
             ·subst e;rw [HXx.out] at hz;obtain rfl:=Option.some.inj hz;exact HOK.out
             ·exact HQ.out j z (by omega) hz
            ·by_cases e : j + 1 = k
             ·have hj : j = k - 1:=by omega
              subst hj;rw [Nat.sub_add_cancel hk0,HXx.out] at hz;obtain rfl:=Option.some.inj hz;rw [HXy.out] at hy;obtain rfl:=Option.some.inj hy;exact hless
             ·exact HO.out j z y (by omega) hz hy
          ·obtain rfl : l5 = k:=by omega
           have HR5 : Hid (RowOk pdOk Pd.n c.ps 8):=⟨by omega,fun j z hz => HQ.out j z (by have:=(List.getElem?_eq_some_iff.1 hz).1;omega) hz,fun j z u hz hu => HO.out j z u (by have:=(List.getElem?_eq_some_iff.1 hz).1;omega) hz hu⟩;clear HQ HO
           go_wp2
           go_ret;exact BoolB.t ⟨HR1.out,HR2.out,HR3.out,HR4.out,HR5.out⟩ HB.out

end Rc
end Go.Proofs.YtdfgbboadbnodaaGreatDoor

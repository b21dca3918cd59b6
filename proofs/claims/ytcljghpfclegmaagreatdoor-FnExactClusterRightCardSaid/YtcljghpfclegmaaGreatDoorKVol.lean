/-
  VolumeRight of the program.
-/
import Derived.Test.YtcljghpfclegmaaGreatDoorKinds
import Derived.Deep.RegionWith
namespace Go.Proofs.YtcljghpfclegmaaGreatDoor
open Go.RowKit

set_option maxHeartbeats 3200000 in
theorem ivol_any (n : ByteArray) (c : Int) (z k : ByteArray) (x : Bool) (m : ByteArray) (y : Bool) (a : Option Addr) (len cap : Nat) (zs : List ByteArray) (w : World) (hn : n.size ≤ 9223372036854775807) (hz : z.size ≤ 9223372036854775807) (hk : k.size ≤ 9223372036854775807) (hm : m.size ≤ 9223372036854775807) (hr : TxRow w a len cap zs) :
    Calls Tryz.prog 104 #[.agg #[.string n, .int .i64 c, .string z, .string k, .bool x, .string m, .bool y, .slice a len cap]] w (BoolB (VolOk n c z k x m y zs) w) := by
  have HR : Hid (TxRow w a len cap zs) := hr
  have hzl : zs.length = len := hr.1
  have hlc : len ≤ 9223372036854775807 := Nat.le_trans hr.2.1 hr.2.2.1
  clear hr
  cases y
  · have HY : Hid (false = true → m = ⟨#[]⟩) := fun h => (by cases h)
    by_cases p0 : NameOk n
    case neg =>
      have F0 : Hid (∀ w, Calls Tryz.prog 165 #[.string n] w fun e w' => e = .returned (.bool false) ∧ w' = w) := fun w => (iname_any n w hn).mono fun _ _ h => h.no p0
      have HP := hidK p0
      clear p0
      go_enter Tryz.func104, Tryz.ntmps104
      go_wp2_with fail
      go_quiet ((first | (go_at_call_of 165 (Value.string n); exact Calls.quiet_of_same (F0.out _))))
      go_wp2_with fail
      go_ret
      exact ⟨false, rfl, ⟨fun h => (by cases h), fun h => (HP.out (h.1)).elim⟩, below_drewN (below1 _ _) _⟩
    have F0 : Hid (∀ w, Calls Tryz.prog 165 #[.string n] w fun e w' => e = .returned (.bool true) ∧ w' = w) := fun w => (iname_any n w hn).mono fun _ _ h => h.yes p0
    by_cases p1 : Inn c 1 1048576
    case neg =>
      have F1 : Hid (∀ w, Calls Tryz.prog 65 #[.int .i64 c, .int .i64 1, .int .i64 1048576] w fun e w' => e = .returned (.bool false) ∧ w' = w) := fun w => (kwithin_any c 1 1048576 w).mono fun _ _ h => h.no p1
      have HP := hidK p1
      clear p1
      go_enter Tryz.func104, Tryz.ntmps104
      go_wp2_with fail
      go_quiet ((first | (go_at_call_of 165 (Value.string n); exact Calls.quiet_of_same (F0.out _)) | (go_at_call_of 65 (Value.int .i64 c); exact Calls.quiet_of_same (F1.out _))))
      go_wp2_with fail
      go_ret
      exact ⟨false, rfl, ⟨fun h => (by cases h), fun h => (HP.out (h.2.1)).elim⟩, below_drewN (below1 _ _) _⟩
    have F1 : Hid (∀ w, Calls Tryz.prog 65 #[.int .i64 c, .int .i64 1, .int .i64 1048576] w fun e w' => e = .returned (.bool true) ∧ w' = w) := fun w => (kwithin_any c 1 1048576 w).mono fun _ _ h => h.yes p1
    by_cases p2 : NameOk z
    case neg =>
      have F2 : Hid (∀ w, Calls Tryz.prog 165 #[.string z] w fun e w' => e = .returned (.bool false) ∧ w' = w) := fun w => (iname_any z w hz).mono fun _ _ h => h.no p2
      have HP := hidK p2
      clear p2
      go_enter Tryz.func104, Tryz.ntmps104
      go_wp2_with fail
      go_quiet ((first | (go_at_call_of 165 (Value.string n); exact Calls.quiet_of_same (F0.out _)) | (go_at_call_of 65 (Value.int .i64 c); exact Calls.quiet_of_same (F1.out _)) | (go_at_call_of 165 (Value.string z); exact Calls.quiet_of_same (F2.out _))))
      go_wp2_with fail
      go_ret
      exact ⟨false, rfl, ⟨fun h => (by cases h), fun h => (HP.out (h.2.2.1)).elim⟩, below_drewN (below1 _ _) _⟩
    have F2 : Hid (∀ w, Calls Tryz.prog 165 #[.string z] w fun e w' => e = .returned (.bool true) ∧ w' = w) := fun w => (iname_any z w hz).mono fun _ _ h => h.yes p2
    by_cases p3 : NameOk k
    case neg =>
      have F3 : Hid (∀ w, Calls Tryz.prog 165 #[.string k] w fun e w' => e = .returned (.bool false) ∧ w' = w) := fun w => (iname_any k w hk).mono fun _ _ h => h.no p3
      have HP := hidK p3
      clear p3
      go_enter Tryz.func104, Tryz.ntmps104
      go_wp2_with fail
      go_quiet ((first | (go_at_call_of 165 (Value.string n); exact Calls.quiet_of_same (F0.out _)) | (go_at_call_of 65 (Value.int .i64 c); exact Calls.quiet_of_same (F1.out _)) | (go_at_call_of 165 (Value.string z); exact Calls.quiet_of_same (F2.out _)) | (go_at_call_of 165 (Value.string k); exact Calls.quiet_of_same (F3.out _))))
      go_wp2_with fail
      go_ret
      exact ⟨false, rfl, ⟨fun h => (by cases h), fun h => (HP.out (h.2.2.2.1)).elim⟩, below_drewN (below1 _ _) _⟩
    have F3 : Hid (∀ w, Calls Tryz.prog 165 #[.string k] w fun e w' => e = .returned (.bool true) ∧ w' = w) := fun w => (iname_any k w hk).mono fun _ _ h => h.yes p3
    by_cases p4 : ZoneOk m
    case neg =>
      have F4 : Hid (∀ w, Calls Tryz.prog 181 #[.string m] w fun e w' => e = .returned (.bool false) ∧ w' = w) := fun w => (izone_any m w hm).mono fun _ _ h => h.no p4
      have HP := hidK p4
      clear p4
      go_enter Tryz.func104, Tryz.ntmps104
      go_wp2_with fail
      go_quiet ((first | (go_at_call_of 165 (Value.string n); exact Calls.quiet_of_same (F0.out _)) | (go_at_call_of 65 (Value.int .i64 c); exact Calls.quiet_of_same (F1.out _)) | (go_at_call_of 165 (Value.string z); exact Calls.quiet_of_same (F2.out _)) | (go_at_call_of 165 (Value.string k); exact Calls.quiet_of_same (F3.out _)) | (go_at_call_of 181 (Value.string m); exact Calls.quiet_of_same (F4.out _))))
      go_wp2_with fail
      go_ret
      exact ⟨false, rfl, ⟨fun h => (by cases h), fun h => (HP.out (h.2.2.2.2.1)).elim⟩, below_drewN (below1 _ _) _⟩
    have F4 : Hid (∀ w, Calls Tryz.prog 181 #[.string m] w fun e w' => e = .returned (.bool true) ∧ w' = w) := fun w => (izone_any m w hm).mono fun _ _ h => h.yes p4
    obtain ⟨q, hq⟩ : ∃ q : Int, q = if x = true then 1 else 6 := ⟨_, rfl⟩
    have HM : Hid (∀ w, Calls Tryz.prog 186 #[.agg #[.string n, .int .i64 c, .string z, .string k, .bool x, .string m, .bool false, .slice a len cap]] w fun e w' => e = .returned (.int .i64 q) ∧ Below w.heap.size w w') := fun w => by rw [hq]; exact mostOn_any n c z k x m false a len cap w
    have HQ : Hid (q = if x = true then 1 else 6) := hq
    clear hq
    go_enter Tryz.func104, Tryz.ntmps104
    go_wp2_with fail
    go_region_with (first | (go_at_call_of 165 (Value.string n); refine (F0.out _).mono ?_; rintro e w1 ⟨rfl, rfl⟩) | (go_at_call_of 65 (Value.int .i64 c); refine (F1.out _).mono ?_; rintro e w1 ⟨rfl, rfl⟩) | (go_at_call_of 165 (Value.string z); refine (F2.out _).mono ?_; rintro e w1 ⟨rfl, rfl⟩) | (go_at_call_of 165 (Value.string k); refine (F3.out _).mono ?_; rintro e w1 ⟨rfl, rfl⟩) | (go_at_call_of 181 (Value.string m); refine (F4.out _).mono ?_; rintro e w1 ⟨rfl, rfl⟩) | (go_at_call 186; refine (HM.out _).mono ?_; rintro e w1 ⟨rfl, hb⟩; have hc7 := cellK (slotKd hb).1 7; simp only [List.getElem?_toArray, List.getElem?_cons_succ, List.getElem?_cons_zero] at hc7) | (go_at_call 166; refine (inames_any a len cap zs _ _ (HR.out.below (slotKd hb).2.1)).mono ?_; rintro e w2 ⟨r, rfl, hr, rfl⟩))
    all_goals (
      go_wp2_with fail
      go_ret
      exact ⟨r, rfl, ⟨fun h => ⟨p0, p1, p2, p3, p4, HY.out, HQ.out ▸ hr.1 h⟩, fun h => hr.2 (HQ.out ▸ h.2.2.2.2.2.2)⟩, (slotKd hb).2.1⟩)
  by_cases hm0 : m = ⟨#[]⟩
  · subst hm0
    have HY : Hid True := trivial
    by_cases p0 : NameOk n
    case neg =>
      have F0 : Hid (∀ w, Calls Tryz.prog 165 #[.string n] w fun e w' => e = .returned (.bool false) ∧ w' = w) := fun w => (iname_any n w hn).mono fun _ _ h => h.no p0
      have HP := hidK p0
      clear p0
      go_enter Tryz.func104, Tryz.ntmps104
      go_wp2_with fail
      go_quiet ((first | (go_at_call_of 165 (Value.string n); exact Calls.quiet_of_same (F0.out _))))
      go_wp2_with fail
      go_ret
      exact ⟨false, rfl, ⟨fun h => (by cases h), fun h => (HP.out (h.1)).elim⟩, below_drewN (below1 _ _) _⟩
    have F0 : Hid (∀ w, Calls Tryz.prog 165 #[.string n] w fun e w' => e = .returned (.bool true) ∧ w' = w) := fun w => (iname_any n w hn).mono fun _ _ h => h.yes p0
    by_cases p1 : Inn c 1 1048576
    case neg =>
      have F1 : Hid (∀ w, Calls Tryz.prog 65 #[.int .i64 c, .int .i64 1, .int .i64 1048576] w fun e w' => e = .returned (.bool false) ∧ w' = w) := fun w => (kwithin_any c 1 1048576 w).mono fun _ _ h => h.no p1
      have HP := hidK p1
      clear p1
      go_enter Tryz.func104, Tryz.ntmps104
      go_wp2_with fail
      go_quiet ((first | (go_at_call_of 165 (Value.string n); exact Calls.quiet_of_same (F0.out _)) | (go_at_call_of 65 (Value.int .i64 c); exact Calls.quiet_of_same (F1.out _))))
      go_wp2_with fail
      go_ret
      exact ⟨false, rfl, ⟨fun h => (by cases h), fun h => (HP.out (h.2.1)).elim⟩, below_drewN (below1 _ _) _⟩
    have F1 : Hid (∀ w, Calls Tryz.prog 65 #[.int .i64 c, .int .i64 1, .int .i64 1048576] w fun e w' => e = .returned (.bool true) ∧ w' = w) := fun w => (kwithin_any c 1 1048576 w).mono fun _ _ h => h.yes p1
    by_cases p2 : NameOk z
    case neg =>
      have F2 : Hid (∀ w, Calls Tryz.prog 165 #[.string z] w fun e w' => e = .returned (.bool false) ∧ w' = w) := fun w => (iname_any z w hz).mono fun _ _ h => h.no p2
      have HP := hidK p2
      clear p2
      go_enter Tryz.func104, Tryz.ntmps104
      go_wp2_with fail
      go_quiet ((first | (go_at_call_of 165 (Value.string n); exact Calls.quiet_of_same (F0.out _)) | (go_at_call_of 65 (Value.int .i64 c); exact Calls.quiet_of_same (F1.out _)) | (go_at_call_of 165 (Value.string z); exact Calls.quiet_of_same (F2.out _))))
      go_wp2_with fail
      go_ret
      exact ⟨false, rfl, ⟨fun h => (by cases h), fun h => (HP.out (h.2.2.1)).elim⟩, below_drewN (below1 _ _) _⟩
    have F2 : Hid (∀ w, Calls Tryz.prog 165 #[.string z] w fun e w' => e = .returned (.bool true) ∧ w' = w) := fun w => (iname_any z w hz).mono fun _ _ h => h.yes p2
    by_cases p3 : NameOk k
    case neg =>
      have F3 : Hid (∀ w, Calls Tryz.prog 165 #[.string k] w fun e w' => e = .returned (.bool false) ∧ w' = w) := fun w => (iname_any k w hk).mono fun _ _ h => h.no p3
      have HP := hidK p3
      clear p3
      go_enter Tryz.func104, Tryz.ntmps104
      go_wp2_with fail
      go_quiet ((first | (go_at_call_of 165 (Value.string n); exact Calls.quiet_of_same (F0.out _)) | (go_at_call_of 65 (Value.int .i64 c); exact Calls.quiet_of_same (F1.out _)) | (go_at_call_of 165 (Value.string z); exact Calls.quiet_of_same (F2.out _)) | (go_at_call_of 165 (Value.string k); exact Calls.quiet_of_same (F3.out _))))
      go_wp2_with fail
      go_ret
      exact ⟨false, rfl, ⟨fun h => (by cases h), fun h => (HP.out (h.2.2.2.1)).elim⟩, below_drewN (below1 _ _) _⟩
    have F3 : Hid (∀ w, Calls Tryz.prog 165 #[.string k] w fun e w' => e = .returned (.bool true) ∧ w' = w) := fun w => (iname_any k w hk).mono fun _ _ h => h.yes p3
    by_cases p4 : ZoneOk (⟨#[]⟩ : ByteArray)
    case neg =>
      have F4 : Hid (∀ w, Calls Tryz.prog 181 #[.string (⟨#[]⟩ : ByteArray)] w fun e w' => e = .returned (.bool false) ∧ w' = w) := fun w => (izone_any (⟨#[]⟩ : ByteArray) w hm).mono fun _ _ h => h.no p4
      have HP := hidK p4
      clear p4
      go_enter Tryz.func104, Tryz.ntmps104
      go_wp2_with fail
      go_quiet ((first | (go_at_call_of 165 (Value.string n); exact Calls.quiet_of_same (F0.out _)) | (go_at_call_of 65 (Value.int .i64 c); exact Calls.quiet_of_same (F1.out _)) | (go_at_call_of 165 (Value.string z); exact Calls.quiet_of_same (F2.out _)) | (go_at_call_of 165 (Value.string k); exact Calls.quiet_of_same (F3.out _)) | (go_at_call_of 181 (Value.string (⟨#[]⟩ : ByteArray)); exact Calls.quiet_of_same (F4.out _))))
      go_wp2_with fail
      go_ret
      exact ⟨false, rfl, ⟨fun h => (by cases h), fun h => (HP.out (h.2.2.2.2.1)).elim⟩, below_drewN (below1 _ _) _⟩
    have F4 : Hid (∀ w, Calls Tryz.prog 181 #[.string (⟨#[]⟩ : ByteArray)] w fun e w' => e = .returned (.bool true) ∧ w' = w) := fun w => (izone_any (⟨#[]⟩ : ByteArray) w hm).mono fun _ _ h => h.yes p4
    obtain ⟨q, hq⟩ : ∃ q : Int, q = if x = true then 1 else 6 := ⟨_, rfl⟩
    have HM : Hid (∀ w, Calls Tryz.prog 186 #[.agg #[.string n, .int .i64 c, .string z, .string k, .bool x, .string (⟨#[]⟩ : ByteArray), .bool true, .slice a len cap]] w fun e w' => e = .returned (.int .i64 q) ∧ Below w.heap.size w w') := fun w => by rw [hq]; exact mostOn_any n c z k x (⟨#[]⟩ : ByteArray) true a len cap w
    have HQ : Hid (q = if x = true then 1 else 6) := hq
    clear hq
    go_enter Tryz.func104, Tryz.ntmps104
    go_wp2_with fail
    go_region_with (first | (go_at_call_of 165 (Value.string n); refine (F0.out _).mono ?_; rintro e w1 ⟨rfl, rfl⟩) | (go_at_call_of 65 (Value.int .i64 c); refine (F1.out _).mono ?_; rintro e w1 ⟨rfl, rfl⟩) | (go_at_call_of 165 (Value.string z); refine (F2.out _).mono ?_; rintro e w1 ⟨rfl, rfl⟩) | (go_at_call_of 165 (Value.string k); refine (F3.out _).mono ?_; rintro e w1 ⟨rfl, rfl⟩) | (go_at_call_of 181 (Value.string (⟨#[]⟩ : ByteArray)); refine (F4.out _).mono ?_; rintro e w1 ⟨rfl, rfl⟩) | (go_at_call 186; refine (HM.out _).mono ?_; rintro e w1 ⟨rfl, hb⟩; have hc7 := cellK (slotKd hb).1 7; simp only [List.getElem?_toArray, List.getElem?_cons_succ, List.getElem?_cons_zero] at hc7) | (go_at_call 166; refine (inames_any a len cap zs _ _ (HR.out.below (slotKd hb).2.1)).mono ?_; rintro e w2 ⟨r, rfl, hr, rfl⟩))
    all_goals (
      go_wp2_with fail
      go_ret
      exact ⟨r, rfl, ⟨fun h => ⟨p0, p1, p2, p3, p4, (fun _ => rfl), HQ.out ▸ hr.1 h⟩, fun h => hr.2 (HQ.out ▸ h.2.2.2.2.2.2)⟩, (slotKd hb).2.1⟩)
  have hq9 : m.toList.isEmpty = false := isE_no hm0
  go_enter Tryz.func104, Tryz.ntmps104
  go_wp2
  go_ret
  exact ⟨false, rfl, ⟨fun h => (by cases h), fun h => absurd (h.2.2.2.2.2.1 rfl) hm0⟩, below1 _ _⟩

end Go.Proofs.YtcljghpfclegmaaGreatDoor

/-
  The law FnNums, walked: whatever bytes are drawn from, it returns true.
-/
import Derived.Test.YtbnchappillecaaDoorNumMath2
import Derived.Test.YtbnchappillecaaDoorDraw4
import Derived.Test.YtbnchappillecaaDoorIsRow
namespace Go.Proofs.YtbnchappillecaaDoor
open Go.RowKit

def NumsOk (w : World) (e : Ending) (w' : World) : Prop := e = .returned (.bool true) ∧ Below w.heap.size w w'
theorem RowIn.on {w w' : World} {v : Value} {len : Nat} (h : RowIn w.heap.size w v len) (hb : Below w.heap.size w w') : RowIn w'.heap.size w' v len := by
  obtain ⟨hl, a0, cap, hv, hc⟩ := h.below hb
  refine ⟨hl, a0, cap, hv, fun j hj => ?_⟩
  obtain ⟨b, off, z, h1, h2, h3⟩ := hc j hj
  exact ⟨b, off, z, h1, Nat.lt_of_lt_of_le h2 hb.size, h3⟩
theorem cut_last (T : ByteArray) : (T.extract 0 (T.size - 1)).data.toList = T.data.toList.dropLast := by simp
theorem size_of_list {S : ByteArray} {l : List UInt8} (h : S.data.toList = l) : S.size = l.length := by rw [← h, Lib.size_eq]

/-- GetNum of what was put. -/
theorem num_back (n : Int) (n0 : -9223372036854775808 ≤ n) (n1 : n ≤ 9223372036854775807) (T S : ByteArray) (hT : T.data.toList = Lib.uvarint (zz n)) (hS : S.data.toList = 120 :: 121 :: (T.data.toList ++ [122])) (w : World) (hg : etCell w) :
    Calls Tryd.prog 7 #[.string S, .int .i64 2] w fun e w' => e = .returned (.agg #[.int .i64 n, .int .i64 ((T.size : Int) + 2), .int .i64 0]) ∧ Below w.heap.size w w' := by
  have hlen := Lib.uvarint_length64 (zz_bd n n0 n1)
  have hTs := size_of_list hT
  have hSs := size_of_list hS
  simp only [List.length_cons, List.length_append, List.length_nil, hT] at hSs
  have hgn := gn_put n n0 n1 S 2 [122] (by rw [hS, hT]; rfl) (by omega)
  have h := igetNum_any S 2 w (by decide) hg
  rw [show gn S 2 = (n, ((2 + (Lib.uvarint (zz n)).length : Nat) : Int), 0) from hgn] at h
  have e : ((2 + (Lib.uvarint (zz n)).length : Nat) : Int) = (T.size : Int) + 2 := by omega
  rw [e] at h
  exact h
theorem num_cut (n : Int) (n0 : -9223372036854775808 ≤ n) (n1 : n ≤ 9223372036854775807) (T S : ByteArray) (hT : T.data.toList = Lib.uvarint (zz n)) (hS : S.data.toList = T.data.toList.dropLast) (w : World) (hg : etCell w) :
    Calls Tryd.prog 7 #[.string S, .int .i64 0] w fun e w' => e = .returned (.agg #[.int .i64 0, .int .i64 0, .int .i64 4]) ∧ Below w.heap.size w w' := by
  have hlen := Lib.uvarint_length64 (zz_bd n n0 n1)
  have hSs := size_of_list hS
  rw [List.length_dropLast, hT] at hSs
  have h := igetNum_any S 0 w (by decide) hg
  rw [gn_put_cut n n0 n1 S (by rw [hS, hT]) (by omega)] at h
  exact h
theorem text_back (u P S : ByteArray) (hu : ¬ 8000 < u.size) (hP : P = putText u) (hS : S.data.toList = 120 :: P.data.toList) (h8 : P.size + 1 ≤ 8000) (w : World) (hg : etCell w) :
    Calls Tryd.prog 11 #[.string S, .int .i64 1] w fun e w' => e = .returned (.agg #[.string u, .int .i64 ((P.size : Int) + 1), .int .i64 0]) ∧ Below w.heap.size w w' := by
  have hSs := size_of_list hS
  rw [List.length_cons, ← Lib.size_eq] at hSs
  have h := igetText_any S 1 w (by decide) hg
  rw [gt_put u S hu 120 (by rw [hS, hP]) (by omega), ← hP] at h
  exact h
theorem text_cut (u P S : ByteArray) (hu : ¬ 8000 < u.size) (hP : P = putText u) (hS : S.data.toList = P.data.toList.dropLast) (h8 : P.size + 1 ≤ 8000) (w : World) (hg : etCell w) :
    Calls Tryd.prog 11 #[.string S, .int .i64 0] w fun e w' => e = .returned (.agg #[.string ⟨#[]⟩, .int .i64 0, .int .i64 4]) ∧ Below w.heap.size w w' := by
  have hSs := size_of_list hS
  rw [List.length_dropLast, ← Lib.size_eq] at hSs
  have h := igetText_any S 0 w (by decide) hg
  rw [gt_put_cut u S hu (by rw [hS, hP]) (by omega)] at h
  exact h

set_option maxHeartbeats 3200000 in
set_option maxRecDepth 100000 in
theorem fnNums_go (v0 v1 : Value) (len0 len1 : Nat) (w : World) (h0 : RowIn w.heap.size w v0 len0) (h1 : RowIn w.heap.size w v1 len1) (hl0 : len0 ≤ 1048576) (hl1 : len1 ≤ 1048576) (hg : etCell w) :
    Calls Tryd.prog 3 #[v0, v1] w (NumsOk w) := by
  have HD : Hid (Calls Tryd.prog 4 #[v0] w (DrewN w)) := drawPutNum_any v0 len0 w h0
  have H1 : Hid (RowIn w.heap.size w v1 len1) := h1
  have HG : Hid (etCell w) := hg
  have hw0 := hg.lt
  obtain ⟨_, a0, cap0, rfl, -⟩ := h0
  obtain ⟨_, a1, cap1, rfl, -⟩ := h1
  clear hg
  go_enter Tryd.func3, Tryd.ntmps3
  go_wp2_with fail
  refine HD.out.mono ?_
  rintro e w1 ⟨n, rfl, n0, n1, hb1⟩
  have HB1 : Hid (Below w.heap.size w w1) := hb1
  clear hb1 HD
  have HI := fun w => iput_any n w n0 n1
  have HS := fun w => sput_any n w n0 n1
  have hlen := Lib.uvarint_length64 (zz_bd n n0 n1)
  have hpos := Lib.uvarint_pos (zz n)
  obtain ⟨T, hT⟩ : ∃ T : ByteArray, T = ⟨(Lib.uvarint (zz n)).toArray⟩ := ⟨_, rfl⟩
  have HT : Hid (T.data.toList = Lib.uvarint (zz n)) := by rw [hT]; rfl
  have hTs := size_of_list HT.out
  rw [← hT] at HI HS
  have hT1 : 1 ≤ T.size := by omega
  have hT10 : T.size ≤ 10 := by omega
  have HNB : Hid (∀ (S : ByteArray), S.data.toList = 120 :: 121 :: (T.data.toList ++ [122]) → ∀ w, etCell w → Calls Tryd.prog 7 #[.string S, .int .i64 2] w fun e w' => e = .returned (.agg #[.int .i64 n, .int .i64 ((T.size : Int) + 2), .int .i64 0]) ∧ Below w.heap.size w w') := fun S hS w hg => num_back n n0 n1 T S HT.out hS w hg
  have HNC : Hid (∀ (S : ByteArray), S.data.toList = T.data.toList.dropLast → ∀ w, etCell w → Calls Tryd.prog 7 #[.string S, .int .i64 0] w fun e w' => e = .returned (.agg #[.int .i64 0, .int .i64 0, .int .i64 4]) ∧ Below w.heap.size w w') := fun S hS w hg => num_cut n n0 n1 T S HT.out hS w hg
  have HI' : Hid (∀ w, Calls Tryd.prog 5 #[.int .i64 n] w fun e w' => e = .returned (.string T) ∧ Below w.heap.size w w') := HI
  have HS' : Hid (∀ w, Calls Tryd.prog 6 #[.int .i64 n] w fun e w' => e = .returned (.string T) ∧ Below w.heap.size w w') := HS
  clear HI HS hT hTs hlen hpos HT
  go_wp2_with fail
  refine (HI'.out _).mono ?_
  rintro e w2 ⟨rfl, hb2⟩
  have HB2 : Hid (Below w.heap.size w w2) := HB1.out.trans (hb2.mono HB1.out.size)
  clear hb2 HI' HB1
  go_wp2_with fail
  refine (HS'.out _).mono ?_
  rintro e w3 ⟨rfl, hb3⟩
  have HB3 : Hid (Below w.heap.size w w3) := HB2.out.trans (hb3.mono HB2.out.size)
  clear hb3 HS' HB2
  go_wp2_with fail
  refine (HNB.out _ ?_ _ (HG.out.below HB3.out hw0)).mono ?_
  · simp
  rintro e w4 ⟨rfl, hb4⟩
  have HB4 : Hid (Below w.heap.size w w4) := HB3.out.trans (hb4.mono HB3.out.size)
  clear hb4 HB3 HNB
  go_wp2_with fail
  have HBa : Hid (Below w.heap.size w (w4.alloc (.cells #[.int .i64 n, .int .i64 ((T.size : Int) + 2), .int .i64 0] 26))) := HB4.out.alloc HB4.out.size _
  refine (HNC.out _ (cut_last T) _ (HG.out.below HBa.out hw0)).mono ?_
  rintro e w5 ⟨rfl, hb5⟩
  have HB5 : Hid (Below w.heap.size w w5) := HBa.out.trans (hb5.mono HBa.out.size)
  have hfld : ∀ w, (Instr.field 26 (.agg #[.int .i64 0, .int .i64 0, .int .i64 4]) 2).run Tryd.prog w = .ok (.int .i64 4) w := fun _ => by kernel_rfl
  clear hb5 HBa HB4 HNC
  go_wp2_with fail
  refine (drawPutText_any _ len1 _ (H1.out.on HB5.out)).mono ?_
  rintro e w6 ⟨u, rfl, hus, hb6⟩
  have HB6 : Hid (Below w.heap.size w w6) := HB5.out.trans (hb6.mono HB5.out.size)
  clear hb6 HB5 hfld H1
  have HPI := fun w => iputText_any u w
  have HPS := fun w => sputText_any u w
  by_cases hu : 8000 < u.size
  · have hp : putText u = ⟨#[]⟩ := by unfold putText; exact if_pos hu
    rw [hp] at HPI HPS
    have HPI' : Hid (∀ w, Calls Tryd.prog 9 #[.string u] w fun e w' => e = .returned (.string ⟨#[]⟩) ∧ Below w.heap.size w w') := HPI
    have HPS' : Hid (∀ w, Calls Tryd.prog 10 #[.string u] w fun e w' => e = .returned (.string ⟨#[]⟩) ∧ Below w.heap.size w w') := HPS
    clear HPI HPS hp
    go_wp2_with fail
    refine (HPI'.out _).mono ?_
    rintro e w7 ⟨rfl, hb7⟩
    have HB7 : Hid (Below w.heap.size w w7) := HB6.out.trans (hb7.mono HB6.out.size)
    clear hb7 HB6 HPI'
    go_wp2_with fail
    refine (HPS'.out _).mono ?_
    rintro e w8 ⟨rfl, hb8⟩
    have HB8 : Hid (Below w.heap.size w w8) := HB7.out.trans (hb8.mono HB7.out.size)
    clear hb8 HB7
    go_wp2_with fail
    refine (HPS'.out _).mono ?_
    rintro e w9 ⟨rfl, hb9⟩
    have HB9 : Hid (Below w.heap.size w w9) := HB8.out.trans (hb9.mono HB8.out.size)
    clear hb9 HB8 HPS'
    go_wp2
    go_ret
    exact ⟨rfl, HB9.out⟩
  · obtain ⟨P, hP⟩ : ∃ P, P = putText u := ⟨_, rfl⟩
    rw [← hP] at HPI HPS
    have hPl := putText_list u hu
    rw [← hP] at hPl
    have hPs := size_of_list hPl
    have hpos2 := Lib.uvarint_pos (zz u.size)
    have hlen2 := Lib.uvarint_length64 (zz_bd (u.size : Int) (by omega) (by omega))
    have hus2 : u.data.toList.length = u.size := (Lib.size_eq u).symm
    rw [List.length_append] at hPs
    have hP1 : 1 ≤ P.size := by omega
    have hPb : P.size ≤ 8010 := by omega
    have hne : (P.toList == []) = false := by
      rw [ByteArray.toList_eq]
      cases hc : P.data.toList with
      | nil => have h2 := size_of_list hc; rw [List.length_nil] at h2; omega
      | cons x l => rfl
    have hne2 : P.toList.isEmpty = false := by
      rw [ByteArray.toList_eq]
      cases hc : P.data.toList with
      | nil => have h2 := size_of_list hc; rw [List.length_nil] at h2; omega
      | cons x l => rfl
    have HTB : Hid (P.size + 1 ≤ 8000 → ∀ (S : ByteArray), S.data.toList = 120 :: P.data.toList → ∀ w, etCell w → Calls Tryd.prog 11 #[.string S, .int .i64 1] w fun e w' => e = .returned (.agg #[.string u, .int .i64 ((P.size : Int) + 1), .int .i64 0]) ∧ Below w.heap.size w w') := fun h8 S hS w hg => text_back u P S hu hP hS h8 w hg
    have HTC : Hid (P.size + 1 ≤ 8000 → ∀ (S : ByteArray), S.data.toList = P.data.toList.dropLast → ∀ w, etCell w → Calls Tryd.prog 11 #[.string S, .int .i64 0] w fun e w' => e = .returned (.agg #[.string ⟨#[]⟩, .int .i64 0, .int .i64 4]) ∧ Below w.heap.size w w') := fun h8 S hS w hg => text_cut u P S hu hP hS h8 w hg
    have HPI' : Hid (∀ w, Calls Tryd.prog 9 #[.string u] w fun e w' => e = .returned (.string P) ∧ Below w.heap.size w w') := HPI
    have HPS' : Hid (∀ w, Calls Tryd.prog 10 #[.string u] w fun e w' => e = .returned (.string P) ∧ Below w.heap.size w w') := HPS
    clear HPI HPS hP hPl hPs hpos2 hlen2 hus2
    go_wp2_with fail
    refine (HPI'.out _).mono ?_
    rintro e w7 ⟨rfl, hb7⟩
    have HB7 : Hid (Below w.heap.size w w7) := HB6.out.trans (hb7.mono HB6.out.size)
    clear hb7 HB6 HPI'
    go_wp2_with fail
    refine (HPS'.out _).mono ?_
    rintro e w8 ⟨rfl, hb8⟩
    have HB8 : Hid (Below w.heap.size w w8) := HB7.out.trans (hb8.mono HB7.out.size)
    clear hb8 HB7 HPS'
    by_cases h8 : 8000 < P.size + 1
    · have h8i : 8000 < (P.size : Int) + 1 := by omega
      go_wp2
      go_ret
      exact ⟨rfl, HB8.out⟩
    · have h8i : ¬ 8000 < (P.size : Int) + 1 := by omega
      have h8n : P.size + 1 ≤ 8000 := by omega
      go_wp2_with fail
      refine (HTB.out h8n _ ?_ _ (HG.out.below HB8.out hw0)).mono ?_
      · simp
      rintro e w9 ⟨rfl, hb9⟩
      have HB9 : Hid (Below w.heap.size w w9) := HB8.out.trans (hb9.mono HB8.out.size)
      clear hb9 HB8 HTB
      go_wp2_with fail
      refine (HTC.out h8n _ (cut_last P) _ (HG.out.below HB9.out hw0)).mono ?_
      rintro e w10 ⟨rfl, hb10⟩
      have HB10 : Hid (Below w.heap.size w w10) := HB9.out.trans (hb10.mono HB9.out.size)
      have hfld2 : ∀ w, (Instr.field 31 (.agg #[.string ⟨#[]⟩, .int .i64 0, .int .i64 4]) 2).run Tryd.prog w = .ok (.int .i64 4) w := fun _ => by kernel_rfl
      clear hb10 HB9 HTC
      go_wp2
      go_ret
      exact ⟨rfl, HB10.out⟩

end Go.Proofs.YtbnchappillecaaDoor

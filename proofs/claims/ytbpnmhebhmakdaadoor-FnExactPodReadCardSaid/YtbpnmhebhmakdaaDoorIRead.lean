/-
  SizeRead and CpuRead of the program: what is read of a text.
-/
import Derived.Test.YtbpnmhebhmakdaaDoorQRead
import Derived.Test.YtbpnmhebhmakdaaDoorLong
namespace Go.Proofs.YtbpnmhebhmakdaaDoor
open Go.RowKit

/-- The measure's and the answer's slots, in the loop. -/
structure MRd (vs : Array Value) (w wr : World) : Prop where
  hm : wr.heap[w.heap.size]? = some (.cells vs 49 (0, 0))
  hr : wr.heap[w.heap.size + 1]? = some (.cells #[.int .i64 0, .int .i64 0, .int .i64 0] 33 (0, 0))
  hb : Below w.heap.size w wr
  hsz : w.heap.size + 2 ≤ wr.heap.size
theorem MRd.below {vs : Array Value} {w wr wx : World} (h : MRd vs w wr) (hb : Below wr.heap.size wr wx) : MRd vs w wx := by
  have h1 := h.hsz
  have h2 := hb.size
  exact ⟨by rw [hb.block _ (by omega)]; exact h.hm, by rw [hb.block _ (by omega)]; exact h.hr, h.hb.trans (hb.mono (by omega)), by omega⟩
theorem MRd.start (vs : Array Value) (w : World) : MRd vs w ((w.alloc (.cells vs 49)).alloc (.cells #[.int .i64 0, .int .i64 0, .int .i64 0] 33)) := by
  refine ⟨?_, ?_, ((Below.refl _ _).alloc (Nat.le_refl _) _).alloc (by simp) _, by simp⟩
  · rw [Below.heap_alloc _ _ _ (by simp)]
    show (w.heap.push _)[w.heap.size]? = _
    simp
  · show ((w.heap.push _).push _)[w.heap.size + 1]? = _
    rw [Array.getElem?_push, if_pos (by simp)]
theorem rx_no0 {l m e : Int} {w0 w1 s : ByteArray} {c : Int} {b : Bool} (hl : 0 ≤ l) (he : 0 < e) (hp : PnIs ⟨(Lib.trimSuffix s.data.toList w0.data.toList).toArray⟩ (m / e) c b) (hq : ¬ (b = true ∧ mtext l m e w0 w1 (c * e) = s)) (n : Int) (h : mtext l m e w0 w1 n = s) (hne : ¬ s = ⟨#[]⟩) : ¬ n % e = 0 := by
  intro hz
  obtain ⟨h1, h2, ⟨_, h4⟩ | ⟨h3, _⟩⟩ := mtext_form h hne
  · have h5 : IsDec ⟨(Lib.trimSuffix s.data.toList w0.data.toList).toArray⟩ (n / e).toNat := (dec_cut h4).2
    have h0 : 0 ≤ n / e := Int.ediv_nonneg (by omega) (by omega)
    obtain ⟨h6, h7⟩ := hp.2.2 _ h5 (by rw [Int.toNat_of_nonneg h0]; exact Int.ediv_le_ediv he h2)
    rw [Int.toNat_of_nonneg h0] at h6
    apply hq
    refine ⟨h7, ?_⟩
    rw [h6, Int.ediv_mul_cancel (Int.dvd_of_emod_eq_zero hz)]
    exact h
  · exact h3 hz
theorem rx_no1 {l m e : Int} {w0 w1 s : ByteArray} {c : Int} {b : Bool} (hl : 0 ≤ l) (hp : PnIs ⟨(Lib.trimSuffix s.data.toList w1.data.toList).toArray⟩ m c b) (hq : ¬ (b = true ∧ mtext l m e w0 w1 c = s)) (hx : ∀ n, mtext l m e w0 w1 n = s → ¬ s = ⟨#[]⟩ → ¬ n % e = 0) (n : Int) (h : mtext l m e w0 w1 n = s) : s = ⟨#[]⟩ := by
  apply Classical.byContradiction
  intro hne
  obtain ⟨h1, h2, ⟨h3, _⟩ | ⟨_, h4⟩⟩ := mtext_form h hne
  · exact hx n h hne h3
  · have h5 : IsDec ⟨(Lib.trimSuffix s.data.toList w1.data.toList).toArray⟩ n.toNat := (dec_cut h4).2
    obtain ⟨h6, h7⟩ := hp.2.2 _ h5 (by omega)
    rw [Int.toNat_of_nonneg (by omega)] at h6
    exact hq ⟨h7, by rw [h6]; exact h⟩
theorem rx_miss0 {l m e : Int} {w0 w1 s : ByteArray} (hf : Lib.hasSuffix s.data.toList w0.data.toList = false) (n : Int) (h : mtext l m e w0 w1 n = s) (hne : ¬ s = ⟨#[]⟩) : ¬ n % e = 0 := by
  intro hz
  obtain ⟨_, _, ⟨_, h4⟩ | ⟨h3, _⟩⟩ := mtext_form h hne
  · rw [(dec_cut h4).1] at hf; cases hf
  · exact h3 hz
theorem rx_miss1 {l m e : Int} {w0 w1 s : ByteArray} (hf : Lib.hasSuffix s.data.toList w1.data.toList = false) (hx : ∀ n, mtext l m e w0 w1 n = s → ¬ s = ⟨#[]⟩ → ¬ n % e = 0) (n : Int) (h : mtext l m e w0 w1 n = s) : s = ⟨#[]⟩ := by
  apply Classical.byContradiction
  intro hne
  obtain ⟨_, _, ⟨h3, _⟩ | ⟨_, h4⟩⟩ := mtext_form h hne
  · exact hx n h hne h3
  · rw [(dec_cut h4).1] at hf; cases hf
theorem suf_ne {s x : ByteArray} (h : Lib.hasSuffix s.data.toList x.data.toList = true) (hx : 0 < x.size) : ¬ s = ⟨#[]⟩ := by
  intro e
  have := List.IsSuffix.length_le (List.isSuffixOf_iff_suffix.1 h)
  rw [← Lib.size_eq, ← Lib.size_eq, e] at this
  have : (⟨#[]⟩ : ByteArray).size = 0 := rfl
  omega
theorem cp_ne {n : Int} {s : ByteArray} (h0 : 0 ≤ n) (h1 : n ≤ 1000000) (h : cpText n = s) : ¬ s = ⟨#[]⟩ := by
  intro e
  rw [e] at h
  unfold cpText at h
  have h3 := congrArg ByteArray.size h
  by_cases hz : n % 1000 = 0
  · rw [← mtext_great h0 h1 hz, size_app] at h3; have := dec_pos (n / 1000); have : (⟨#[]⟩ : ByteArray).size = 0 := rfl; omega
  · rw [← mtext_small h0 h1 hz, size_app] at h3; have := dec_pos n; have : (⟨#[]⟩ : ByteArray).size = 0 := rfl; omega
theorem trim_size {s x : ByteArray} (h : s.size ≤ 8000) : (⟨(Lib.trimSuffix s.data.toList x.data.toList).toArray⟩ : ByteArray).size ≤ 8000 := by
  rw [Lib.size_eq]
  have h1 : (Lib.trimSuffix s.data.toList x.data.toList).length ≤ s.data.toList.length := by
    unfold Lib.trimSuffix
    split
    · rw [List.length_take]; omega
    · exact Nat.le_refl _
  rw [← Lib.size_eq] at h1
  show (Lib.trimSuffix s.data.toList x.data.toList).length ≤ 8000
  omega
theorem cell_of {w : World} {b : Nat} {vs : Array Value} {T : TypeId} (h : w.heap[b]? = some (.cells vs T (0, 0))) (i : Nat) : w.cell? ⟨b, i, none⟩ = vs[i]? := by simp [World.cell?, h]
theorem frozen_of {w : World} {b : Nat} {vs : Array Value} {T : TypeId} (h : w.heap[b]? = some (.cells vs T (0, 0))) (i : Nat) : w.frozen? ⟨b, i, none⟩ = false := by simp [World.frozen?, h]

set_option maxHeartbeats 3200000 in
theorem isizeread_any (s : ByteArray) (w : World) (hs : s.size ≤ 9223372036854775807) (ht : ptab w) :
    Calls Tryd.prog 27 #[.agg #[.int .i64 1, .int .i64 1048576, .string wTi, .int .i64 1024, .string wGi, .int .i64 1], .string s] w (RdAns szText s w) := by
  by_cases hl : 8000 < s.size
  · have HP : Hid (RdIs szText s 0 2) := Or.inl ⟨hl, rfl, rfl⟩
    clear ht
    go_enter Tryd.func27, Tryd.ntmps27
    go_wp2_with fail
    refine (long_yes s _ hl).mono ?_
    rintro e w1 ⟨rfl, rfl⟩
    go_wp2_with fail
    exact bodyPost_ret (v := .agg #[.int .i64 0, .int .i64 0, .int .i64 2]) (by simp [results, Tryd.results27, go_sem]) rfl ⟨_, _, rfl, HP.out, ((Below.refl _ _).alloc (Nat.le_refl _) _).alloc (by simp) _⟩
  have HT : Hid (ptab w) := ht
  clear ht
  go_enter Tryd.func27, Tryd.ntmps27
  go_wp2_with fail
  refine (long_no s _ hl).mono ?_
  rintro e w1 ⟨rfl, rfl⟩
  go_wp2_with fail
  go_loopw [16] (fun v wr => ∃ k : Nat, (k = 0 ∨ k = 1 ∨ k = 2) ∧ v = .int .i64 k ∧ (1 ≤ k → ∀ n, szText n = s → ¬ s = ⟨#[]⟩ → ¬ n % 1024 = 0) ∧ (2 ≤ k → ∀ n, szText n = s → s = ⟨#[]⟩) ∧ MRd #[.int .i64 1, .int .i64 1048576, .string wTi, .int .i64 1024, .string wGi, .int .i64 1] w wr) (fun v _ => 2 - (intOf v).toNat)
  case atStart => exact ⟨0, Or.inl rfl, rfl, (fun h => by omega), (fun h => by omega), MRd.start _ _⟩
  case round =>
    obtain ⟨k, hk, rfl, hx0, hx1, hM⟩ := hrel
    have HM : Hid (MRd #[.int .i64 1, .int .i64 1048576, .string wTi, .int .i64 1024, .string wGi, .int .i64 1] w wr) := hM
    have hix0 := isize_ix0 wr
    have hix1 := isize_ix1 wr
    have hsz := hM.hsz
    rcases hk with rfl | rfl | rfl
    · clear hx0 hx1
      have hm1 : ∀ o, (wr.alloc o).cell? ⟨w.heap.size, 1, none⟩ = some (.int .i64 1048576) := fun o => (((Below.refl wr.heap.size wr).alloc (Nat.le_refl _) o).cell (by show w.heap.size < wr.heap.size; omega)).trans (cell_of hM.hm 1)
      clear hM
      cases hf : Lib.hasSuffix s.data.toList (wTi).data.toList
      · have HX : Hid (∀ n, szText n = s → ¬ s = ⟨#[]⟩ → ¬ n % 1024 = 0) := rx_miss0 hf
        go_wp2_with fail
        refine (cutsuf_any s wTi _ hs).mono ?_
        rw [hf]
        rintro e w1 ⟨rfl, rfl⟩
        go_wp2_with fail
        go_roundw
        case rel => exact ⟨1, Or.inr (Or.inl rfl), by go_num, (fun _ => HX.out), (fun h => by omega), HM.out.below ((Below.refl _ _).alloc (Nat.le_refl _) _)⟩
        case measure => simp [intOf]
      · have HF : Hid (Lib.hasSuffix s.data.toList (wTi).data.toList = true) := hf
        go_wp2_with fail
        refine (cutsuf_any s wTi _ hs).mono ?_
        rw [hf]
        rintro e w1 ⟨rfl, rfl⟩
        go_wp2_with fail
        refine (ipnum_any _ 1024 _ (trim_size (by omega)) (by decide) (by decide)).mono ?_
        rintro e w1 ⟨c, b, rfl, hp, hb1⟩
        obtain ⟨hk1, hk2, hk3⟩ := slotN hb1
        clear hb1
        have hM1 := HM.out.below hk2
        have HM1 : Hid (MRd #[.int .i64 1, .int .i64 1048576, .string wTi, .int .i64 1024, .string wGi, .int .i64 1] w w1) := hM1
        have he1 : w1.cell? ⟨wr.heap.size, 1, none⟩ = some (.int .i64 1024) := cell_of hk1 1
        have hc0 := hp.1
        have hc1 := hp.2.1
        cases b
        · have HX : Hid (∀ n, szText n = s → ¬ s = ⟨#[]⟩ → ¬ n % 1024 = 0) := rx_no0 (by decide) (by decide) hp (fun h => by cases h.1)
          clear hp hk1
          go_wp2_with fail
          go_roundw
          case rel => exact ⟨1, Or.inr (Or.inl rfl), by go_num, (fun _ => HX.out), (fun h => by omega), HM1.out⟩
          case measure => simp [intOf]
        · have g0 : w1.cell? ⟨w.heap.size, 0, none⟩ = some (.int .i64 1) := cell_of hM1.hm 0
          have g1 : w1.cell? ⟨w.heap.size, 1, none⟩ = some (.int .i64 1048576) := cell_of hM1.hm 1
          have g2 : w1.cell? ⟨w.heap.size, 2, none⟩ = some (.string wTi) := cell_of hM1.hm 2
          have g3 : w1.cell? ⟨w.heap.size, 3, none⟩ = some (.int .i64 1024) := cell_of hM1.hm 3
          have g4 : w1.cell? ⟨w.heap.size, 4, none⟩ = some (.string wGi) := cell_of hM1.hm 4
          have g5 : w1.cell? ⟨w.heap.size, 5, none⟩ = some (.int .i64 1) := cell_of hM1.hm 5
          have HK : Hid (w1.heap[wr.heap.size]? = some (.cells #[.string wTi, .int .i64 1024] 46 (0, 0))) := hk1
          clear hM1 hk1
          go_wp2_with fail
          refine (isizetext_any _ _ (HT.out.below HM1.out.hb)).mono ?_
          rintro e w2 ⟨rfl, hb2⟩
          have hM2 := HM1.out.below hb2
          have HM2 : Hid (MRd #[.int .i64 1, .int .i64 1048576, .string wTi, .int .i64 1024, .string wGi, .int .i64 1] w w2) := hM2
          have he2 : w2.cell? ⟨wr.heap.size, 1, none⟩ = some (.int .i64 1024) := by
            rw [hb2.cell (p := ⟨wr.heap.size, 1, none⟩) (by exact hk3)]
            exact cell_of HK.out 1
          have r0 : w2.cell? ⟨w.heap.size + 1, 0, none⟩ = some (.int .i64 0) := cell_of hM2.hr 0
          have r1 : w2.cell? ⟨w.heap.size + 1, 1, none⟩ = some (.int .i64 0) := cell_of hM2.hr 1
          have r2 : w2.cell? ⟨w.heap.size + 1, 2, none⟩ = some (.int .i64 0) := cell_of hM2.hr 2
          have q0 : w2.frozen? ⟨w.heap.size + 1, 0, none⟩ = false := frozen_of hM2.hr 0
          have q1 : w2.frozen? ⟨w.heap.size + 1, 1, none⟩ = false := frozen_of hM2.hr 1
          have q2 : w2.frozen? ⟨w.heap.size + 1, 2, none⟩ = false := frozen_of hM2.hr 2
          clear hM2 hb2
          by_cases hq : szText (c * 1024) = s
          · have HP : Hid (RdIs szText s (c * 1024) 0) := rd_yes (by omega) (suf_ne HF.out (by decide)) hq
            have hq1 : ((mtext 1 1048576 1024 wTi wGi (c * 1024)).toList == s.toList) = true := beq_yes hq
            clear hq hp
            go_wp2_with fail
            exact bodyPost_ret (v := .agg #[.int .i64 (c * 1024), .int .i64 0, .int .i64 0]) (by simp [results, Tryd.results27, go_sem, *]) rfl ⟨_, _, rfl, HP.out, ((HM2.out.hb.setCell (Nat.le_succ _) _).setCell (Nat.le_succ _) _).setCell (Nat.le_succ _) _⟩
          · have HX : Hid (∀ n, szText n = s → ¬ s = ⟨#[]⟩ → ¬ n % 1024 = 0) := rx_no0 (by decide) (by decide) hp (fun h => hq h.2)
            have hq1 : ((mtext 1 1048576 1024 wTi wGi (c * 1024)).toList == s.toList) = false := beq_no hq
            clear hq hp
            go_wp2_with fail
            go_roundw
            case rel => exact ⟨1, Or.inr (Or.inl rfl), by go_num, (fun _ => HX.out), (fun h => by omega), HM2.out⟩
            case measure => simp [intOf]
    · have HX0 : Hid (∀ n, szText n = s → ¬ s = ⟨#[]⟩ → ¬ n % 1024 = 0) := hx0 (Nat.le_refl _)
      clear hx0 hx1
      have hm1 : ∀ o, (wr.alloc o).cell? ⟨w.heap.size, 1, none⟩ = some (.int .i64 1048576) := fun o => (((Below.refl wr.heap.size wr).alloc (Nat.le_refl _) o).cell (by show w.heap.size < wr.heap.size; omega)).trans (cell_of hM.hm 1)
      clear hM
      cases hf : Lib.hasSuffix s.data.toList (wGi).data.toList
      · have HX : Hid (∀ n, szText n = s → s = ⟨#[]⟩) := rx_miss1 hf HX0.out
        go_wp2_with fail
        refine (cutsuf_any s wGi _ hs).mono ?_
        rw [hf]
        rintro e w1 ⟨rfl, rfl⟩
        go_wp2_with fail
        go_roundw
        case rel => exact ⟨2, Or.inr (Or.inr rfl), by go_num, (fun _ => HX0.out), (fun _ => HX.out), HM.out.below ((Below.refl _ _).alloc (Nat.le_refl _) _)⟩
        case measure => simp [intOf]
      · have HF : Hid (Lib.hasSuffix s.data.toList (wGi).data.toList = true) := hf
        go_wp2_with fail
        refine (cutsuf_any s wGi _ hs).mono ?_
        rw [hf]
        rintro e w1 ⟨rfl, rfl⟩
        go_wp2_with fail
        refine (ipnum_any _ 1048576 _ (trim_size (by omega)) (by decide) (by decide)).mono ?_
        rintro e w1 ⟨c, b, rfl, hp, hb1⟩
        obtain ⟨hk1, hk2, hk3⟩ := slotN hb1
        clear hb1
        have hM1 := HM.out.below hk2
        have HM1 : Hid (MRd #[.int .i64 1, .int .i64 1048576, .string wTi, .int .i64 1024, .string wGi, .int .i64 1] w w1) := hM1
        have he1 : w1.cell? ⟨wr.heap.size, 1, none⟩ = some (.int .i64 1) := cell_of hk1 1
        have hc0 := hp.1
        have hc1 := hp.2.1
        cases b
        · have HX : Hid (∀ n, szText n = s → s = ⟨#[]⟩) := rx_no1 (by decide) hp (fun h => by cases h.1) HX0.out
          clear hp hk1
          go_wp2_with fail
          go_roundw
          case rel => exact ⟨2, Or.inr (Or.inr rfl), by go_num, (fun _ => HX0.out), (fun _ => HX.out), HM1.out⟩
          case measure => simp [intOf]
        · have g0 : w1.cell? ⟨w.heap.size, 0, none⟩ = some (.int .i64 1) := cell_of hM1.hm 0
          have g1 : w1.cell? ⟨w.heap.size, 1, none⟩ = some (.int .i64 1048576) := cell_of hM1.hm 1
          have g2 : w1.cell? ⟨w.heap.size, 2, none⟩ = some (.string wTi) := cell_of hM1.hm 2
          have g3 : w1.cell? ⟨w.heap.size, 3, none⟩ = some (.int .i64 1024) := cell_of hM1.hm 3
          have g4 : w1.cell? ⟨w.heap.size, 4, none⟩ = some (.string wGi) := cell_of hM1.hm 4
          have g5 : w1.cell? ⟨w.heap.size, 5, none⟩ = some (.int .i64 1) := cell_of hM1.hm 5
          have HK : Hid (w1.heap[wr.heap.size]? = some (.cells #[.string wGi, .int .i64 1] 46 (0, 0))) := hk1
          clear hM1 hk1
          go_wp2_with fail
          refine (isizetext_any _ _ (HT.out.below HM1.out.hb)).mono ?_
          rintro e w2 ⟨rfl, hb2⟩
          have hM2 := HM1.out.below hb2
          have HM2 : Hid (MRd #[.int .i64 1, .int .i64 1048576, .string wTi, .int .i64 1024, .string wGi, .int .i64 1] w w2) := hM2
          have he2 : w2.cell? ⟨wr.heap.size, 1, none⟩ = some (.int .i64 1) := by
            rw [hb2.cell (p := ⟨wr.heap.size, 1, none⟩) (by exact hk3)]
            exact cell_of HK.out 1
          have r0 : w2.cell? ⟨w.heap.size + 1, 0, none⟩ = some (.int .i64 0) := cell_of hM2.hr 0
          have r1 : w2.cell? ⟨w.heap.size + 1, 1, none⟩ = some (.int .i64 0) := cell_of hM2.hr 1
          have r2 : w2.cell? ⟨w.heap.size + 1, 2, none⟩ = some (.int .i64 0) := cell_of hM2.hr 2
          have q0 : w2.frozen? ⟨w.heap.size + 1, 0, none⟩ = false := frozen_of hM2.hr 0
          have q1 : w2.frozen? ⟨w.heap.size + 1, 1, none⟩ = false := frozen_of hM2.hr 1
          have q2 : w2.frozen? ⟨w.heap.size + 1, 2, none⟩ = false := frozen_of hM2.hr 2
          clear hM2 hb2
          by_cases hq : szText (c) = s
          · have HP : Hid (RdIs szText s (c) 0) := rd_yes (by omega) (suf_ne HF.out (by decide)) hq
            have hq1 : ((mtext 1 1048576 1024 wTi wGi (c)).toList == s.toList) = true := beq_yes hq
            clear hq hp
            go_wp2_with fail
            exact bodyPost_ret (v := .agg #[.int .i64 (c), .int .i64 0, .int .i64 0]) (by simp [results, Tryd.results27, go_sem, *]) rfl ⟨_, _, rfl, HP.out, ((HM2.out.hb.setCell (Nat.le_succ _) _).setCell (Nat.le_succ _) _).setCell (Nat.le_succ _) _⟩
          · have HX : Hid (∀ n, szText n = s → s = ⟨#[]⟩) := rx_no1 (by decide) hp (fun h => hq h.2) HX0.out
            have hq1 : ((mtext 1 1048576 1024 wTi wGi (c)).toList == s.toList) = false := beq_no hq
            clear hq hp
            go_wp2_with fail
            go_roundw
            case rel => exact ⟨2, Or.inr (Or.inr rfl), by go_num, (fun _ => HX0.out), (fun _ => HX.out), HM2.out⟩
            case measure => simp [intOf]
    · have HP : Hid (RdIs szText s 0 3) := Or.inr (Or.inr ⟨by omega, hx1 (Nat.le_refl _), rfl, rfl⟩)
      clear hx0 hx1
      have r0 : wr.cell? ⟨w.heap.size + 1, 0, none⟩ = some (.int .i64 0) := cell_of hM.hr 0
      have r1 : wr.cell? ⟨w.heap.size + 1, 1, none⟩ = some (.int .i64 0) := cell_of hM.hr 1
      have r2 : wr.cell? ⟨w.heap.size + 1, 2, none⟩ = some (.int .i64 0) := cell_of hM.hr 2
      have q0 : wr.frozen? ⟨w.heap.size + 1, 0, none⟩ = false := frozen_of hM.hr 0
      have q1 : wr.frozen? ⟨w.heap.size + 1, 1, none⟩ = false := frozen_of hM.hr 1
      have q2 : wr.frozen? ⟨w.heap.size + 1, 2, none⟩ = false := frozen_of hM.hr 2
      clear hM
      go_wp2_with fail
      exact bodyPost_ret (v := .agg #[.int .i64 0, .int .i64 0, .int .i64 3]) (by simp [results, Tryd.results27, go_sem, *]) rfl ⟨_, _, rfl, HP.out, ((HM.out.hb.setCell (Nat.le_succ _) _).setCell (Nat.le_succ _) _).setCell (Nat.le_succ _) _⟩

set_option maxHeartbeats 3200000 in
theorem icpuread_any (s : ByteArray) (w : World) (hs : s.size ≤ 9223372036854775807) (ht : ptab w) :
    Calls Tryd.prog 27 #[.agg #[.int .i64 0, .int .i64 1000000, .string wNo, .int .i64 1000, .string wM, .int .i64 1], .string s] w (RdAns cpText s w) := by
  by_cases hl : 8000 < s.size
  · have HP : Hid (RdIs cpText s 0 2) := Or.inl ⟨hl, rfl, rfl⟩
    clear ht
    go_enter Tryd.func27, Tryd.ntmps27
    go_wp2_with fail
    refine (long_yes s _ hl).mono ?_
    rintro e w1 ⟨rfl, rfl⟩
    go_wp2_with fail
    exact bodyPost_ret (v := .agg #[.int .i64 0, .int .i64 0, .int .i64 2]) (by simp [results, Tryd.results27, go_sem]) rfl ⟨_, _, rfl, HP.out, ((Below.refl _ _).alloc (Nat.le_refl _) _).alloc (by simp) _⟩
  have HT : Hid (ptab w) := ht
  clear ht
  go_enter Tryd.func27, Tryd.ntmps27
  go_wp2_with fail
  refine (long_no s _ hl).mono ?_
  rintro e w1 ⟨rfl, rfl⟩
  go_wp2_with fail
  go_loopw [16] (fun v wr => ∃ k : Nat, (k = 0 ∨ k = 1 ∨ k = 2) ∧ v = .int .i64 k ∧ (1 ≤ k → ∀ n, cpText n = s → ¬ s = ⟨#[]⟩ → ¬ n % 1000 = 0) ∧ (2 ≤ k → ∀ n, cpText n = s → s = ⟨#[]⟩) ∧ MRd #[.int .i64 0, .int .i64 1000000, .string wNo, .int .i64 1000, .string wM, .int .i64 1] w wr) (fun v _ => 2 - (intOf v).toNat)
  case atStart => exact ⟨0, Or.inl rfl, rfl, (fun h => by omega), (fun h => by omega), MRd.start _ _⟩
  case round =>
    obtain ⟨k, hk, rfl, hx0, hx1, hM⟩ := hrel
    have HM : Hid (MRd #[.int .i64 0, .int .i64 1000000, .string wNo, .int .i64 1000, .string wM, .int .i64 1] w wr) := hM
    have hix0 := icpu_ix0 wr
    have hix1 := icpu_ix1 wr
    have hsz := hM.hsz
    rcases hk with rfl | rfl | rfl
    · clear hx0 hx1
      have hm1 : ∀ o, (wr.alloc o).cell? ⟨w.heap.size, 1, none⟩ = some (.int .i64 1000000) := fun o => (((Below.refl wr.heap.size wr).alloc (Nat.le_refl _) o).cell (by show w.heap.size < wr.heap.size; omega)).trans (cell_of hM.hm 1)
      clear hM
      cases hf : Lib.hasSuffix s.data.toList (wNo).data.toList
      · have HX : Hid (∀ n, cpText n = s → ¬ s = ⟨#[]⟩ → ¬ n % 1000 = 0) := rx_miss0 hf
        go_wp2_with fail
        refine (cutsuf_any s wNo _ hs).mono ?_
        rw [hf]
        rintro e w1 ⟨rfl, rfl⟩
        go_wp2_with fail
        go_roundw
        case rel => exact ⟨1, Or.inr (Or.inl rfl), by go_num, (fun _ => HX.out), (fun h => by omega), HM.out.below ((Below.refl _ _).alloc (Nat.le_refl _) _)⟩
        case measure => simp [intOf]
      · have HF : Hid (Lib.hasSuffix s.data.toList (wNo).data.toList = true) := hf
        go_wp2_with fail
        refine (cutsuf_any s wNo _ hs).mono ?_
        rw [hf]
        rintro e w1 ⟨rfl, rfl⟩
        go_wp2_with fail
        refine (ipnum_any _ 1000 _ (trim_size (by omega)) (by decide) (by decide)).mono ?_
        rintro e w1 ⟨c, b, rfl, hp, hb1⟩
        obtain ⟨hk1, hk2, hk3⟩ := slotN hb1
        clear hb1
        have hM1 := HM.out.below hk2
        have HM1 : Hid (MRd #[.int .i64 0, .int .i64 1000000, .string wNo, .int .i64 1000, .string wM, .int .i64 1] w w1) := hM1
        have he1 : w1.cell? ⟨wr.heap.size, 1, none⟩ = some (.int .i64 1000) := cell_of hk1 1
        have hc0 := hp.1
        have hc1 := hp.2.1
        cases b
        · have HX : Hid (∀ n, cpText n = s → ¬ s = ⟨#[]⟩ → ¬ n % 1000 = 0) := rx_no0 (by decide) (by decide) hp (fun h => by cases h.1)
          clear hp hk1
          go_wp2_with fail
          go_roundw
          case rel => exact ⟨1, Or.inr (Or.inl rfl), by go_num, (fun _ => HX.out), (fun h => by omega), HM1.out⟩
          case measure => simp [intOf]
        · have g0 : w1.cell? ⟨w.heap.size, 0, none⟩ = some (.int .i64 0) := cell_of hM1.hm 0
          have g1 : w1.cell? ⟨w.heap.size, 1, none⟩ = some (.int .i64 1000000) := cell_of hM1.hm 1
          have g2 : w1.cell? ⟨w.heap.size, 2, none⟩ = some (.string wNo) := cell_of hM1.hm 2
          have g3 : w1.cell? ⟨w.heap.size, 3, none⟩ = some (.int .i64 1000) := cell_of hM1.hm 3
          have g4 : w1.cell? ⟨w.heap.size, 4, none⟩ = some (.string wM) := cell_of hM1.hm 4
          have g5 : w1.cell? ⟨w.heap.size, 5, none⟩ = some (.int .i64 1) := cell_of hM1.hm 5
          have HK : Hid (w1.heap[wr.heap.size]? = some (.cells #[.string wNo, .int .i64 1000] 46 (0, 0))) := hk1
          clear hM1 hk1
          go_wp2_with fail
          refine (icputext_any _ _ (HT.out.below HM1.out.hb)).mono ?_
          rintro e w2 ⟨rfl, hb2⟩
          have hM2 := HM1.out.below hb2
          have HM2 : Hid (MRd #[.int .i64 0, .int .i64 1000000, .string wNo, .int .i64 1000, .string wM, .int .i64 1] w w2) := hM2
          have he2 : w2.cell? ⟨wr.heap.size, 1, none⟩ = some (.int .i64 1000) := by
            rw [hb2.cell (p := ⟨wr.heap.size, 1, none⟩) (by exact hk3)]
            exact cell_of HK.out 1
          have r0 : w2.cell? ⟨w.heap.size + 1, 0, none⟩ = some (.int .i64 0) := cell_of hM2.hr 0
          have r1 : w2.cell? ⟨w.heap.size + 1, 1, none⟩ = some (.int .i64 0) := cell_of hM2.hr 1
          have r2 : w2.cell? ⟨w.heap.size + 1, 2, none⟩ = some (.int .i64 0) := cell_of hM2.hr 2
          have q0 : w2.frozen? ⟨w.heap.size + 1, 0, none⟩ = false := frozen_of hM2.hr 0
          have q1 : w2.frozen? ⟨w.heap.size + 1, 1, none⟩ = false := frozen_of hM2.hr 1
          have q2 : w2.frozen? ⟨w.heap.size + 1, 2, none⟩ = false := frozen_of hM2.hr 2
          clear hM2 hb2
          by_cases hq : cpText (c * 1000) = s
          · have HP : Hid (RdIs cpText s (c * 1000) 0) := rd_yes (by omega) (cp_ne (by omega) (by omega) hq) hq
            have hq1 : ((mtext 0 1000000 1000 wNo wM (c * 1000)).toList == s.toList) = true := beq_yes hq
            clear hq hp
            go_wp2_with fail
            exact bodyPost_ret (v := .agg #[.int .i64 (c * 1000), .int .i64 0, .int .i64 0]) (by simp [results, Tryd.results27, go_sem, *]) rfl ⟨_, _, rfl, HP.out, ((HM2.out.hb.setCell (Nat.le_succ _) _).setCell (Nat.le_succ _) _).setCell (Nat.le_succ _) _⟩
          · have HX : Hid (∀ n, cpText n = s → ¬ s = ⟨#[]⟩ → ¬ n % 1000 = 0) := rx_no0 (by decide) (by decide) hp (fun h => hq h.2)
            have hq1 : ((mtext 0 1000000 1000 wNo wM (c * 1000)).toList == s.toList) = false := beq_no hq
            clear hq hp
            go_wp2_with fail
            go_roundw
            case rel => exact ⟨1, Or.inr (Or.inl rfl), by go_num, (fun _ => HX.out), (fun h => by omega), HM2.out⟩
            case measure => simp [intOf]
    · have HX0 : Hid (∀ n, cpText n = s → ¬ s = ⟨#[]⟩ → ¬ n % 1000 = 0) := hx0 (Nat.le_refl _)
      clear hx0 hx1
      have hm1 : ∀ o, (wr.alloc o).cell? ⟨w.heap.size, 1, none⟩ = some (.int .i64 1000000) := fun o => (((Below.refl wr.heap.size wr).alloc (Nat.le_refl _) o).cell (by show w.heap.size < wr.heap.size; omega)).trans (cell_of hM.hm 1)
      clear hM
      cases hf : Lib.hasSuffix s.data.toList (wM).data.toList
      · have HX : Hid (∀ n, cpText n = s → s = ⟨#[]⟩) := rx_miss1 hf HX0.out
        go_wp2_with fail
        refine (cutsuf_any s wM _ hs).mono ?_
        rw [hf]
        rintro e w1 ⟨rfl, rfl⟩
        go_wp2_with fail
        go_roundw
        case rel => exact ⟨2, Or.inr (Or.inr rfl), by go_num, (fun _ => HX0.out), (fun _ => HX.out), HM.out.below ((Below.refl _ _).alloc (Nat.le_refl _) _)⟩
        case measure => simp [intOf]
      · have HF : Hid (Lib.hasSuffix s.data.toList (wM).data.toList = true) := hf
        go_wp2_with fail
        refine (cutsuf_any s wM _ hs).mono ?_
        rw [hf]
        rintro e w1 ⟨rfl, rfl⟩
        go_wp2_with fail
        refine (ipnum_any _ 1000000 _ (trim_size (by omega)) (by decide) (by decide)).mono ?_
        rintro e w1 ⟨c, b, rfl, hp, hb1⟩
        obtain ⟨hk1, hk2, hk3⟩ := slotN hb1
        clear hb1
        have hM1 := HM.out.below hk2
        have HM1 : Hid (MRd #[.int .i64 0, .int .i64 1000000, .string wNo, .int .i64 1000, .string wM, .int .i64 1] w w1) := hM1
        have he1 : w1.cell? ⟨wr.heap.size, 1, none⟩ = some (.int .i64 1) := cell_of hk1 1
        have hc0 := hp.1
        have hc1 := hp.2.1
        cases b
        · have HX : Hid (∀ n, cpText n = s → s = ⟨#[]⟩) := rx_no1 (by decide) hp (fun h => by cases h.1) HX0.out
          clear hp hk1
          go_wp2_with fail
          go_roundw
          case rel => exact ⟨2, Or.inr (Or.inr rfl), by go_num, (fun _ => HX0.out), (fun _ => HX.out), HM1.out⟩
          case measure => simp [intOf]
        · have g0 : w1.cell? ⟨w.heap.size, 0, none⟩ = some (.int .i64 0) := cell_of hM1.hm 0
          have g1 : w1.cell? ⟨w.heap.size, 1, none⟩ = some (.int .i64 1000000) := cell_of hM1.hm 1
          have g2 : w1.cell? ⟨w.heap.size, 2, none⟩ = some (.string wNo) := cell_of hM1.hm 2
          have g3 : w1.cell? ⟨w.heap.size, 3, none⟩ = some (.int .i64 1000) := cell_of hM1.hm 3
          have g4 : w1.cell? ⟨w.heap.size, 4, none⟩ = some (.string wM) := cell_of hM1.hm 4
          have g5 : w1.cell? ⟨w.heap.size, 5, none⟩ = some (.int .i64 1) := cell_of hM1.hm 5
          have HK : Hid (w1.heap[wr.heap.size]? = some (.cells #[.string wM, .int .i64 1] 46 (0, 0))) := hk1
          clear hM1 hk1
          go_wp2_with fail
          refine (icputext_any _ _ (HT.out.below HM1.out.hb)).mono ?_
          rintro e w2 ⟨rfl, hb2⟩
          have hM2 := HM1.out.below hb2
          have HM2 : Hid (MRd #[.int .i64 0, .int .i64 1000000, .string wNo, .int .i64 1000, .string wM, .int .i64 1] w w2) := hM2
          have he2 : w2.cell? ⟨wr.heap.size, 1, none⟩ = some (.int .i64 1) := by
            rw [hb2.cell (p := ⟨wr.heap.size, 1, none⟩) (by exact hk3)]
            exact cell_of HK.out 1
          have r0 : w2.cell? ⟨w.heap.size + 1, 0, none⟩ = some (.int .i64 0) := cell_of hM2.hr 0
          have r1 : w2.cell? ⟨w.heap.size + 1, 1, none⟩ = some (.int .i64 0) := cell_of hM2.hr 1
          have r2 : w2.cell? ⟨w.heap.size + 1, 2, none⟩ = some (.int .i64 0) := cell_of hM2.hr 2
          have q0 : w2.frozen? ⟨w.heap.size + 1, 0, none⟩ = false := frozen_of hM2.hr 0
          have q1 : w2.frozen? ⟨w.heap.size + 1, 1, none⟩ = false := frozen_of hM2.hr 1
          have q2 : w2.frozen? ⟨w.heap.size + 1, 2, none⟩ = false := frozen_of hM2.hr 2
          clear hM2 hb2
          by_cases hq : cpText (c) = s
          · have HP : Hid (RdIs cpText s (c) 0) := rd_yes (by omega) (suf_ne HF.out (by decide)) hq
            have hq1 : ((mtext 0 1000000 1000 wNo wM (c)).toList == s.toList) = true := beq_yes hq
            clear hq hp
            go_wp2_with fail
            exact bodyPost_ret (v := .agg #[.int .i64 (c), .int .i64 0, .int .i64 0]) (by simp [results, Tryd.results27, go_sem, *]) rfl ⟨_, _, rfl, HP.out, ((HM2.out.hb.setCell (Nat.le_succ _) _).setCell (Nat.le_succ _) _).setCell (Nat.le_succ _) _⟩
          · have HX : Hid (∀ n, cpText n = s → s = ⟨#[]⟩) := rx_no1 (by decide) hp (fun h => hq h.2) HX0.out
            have hq1 : ((mtext 0 1000000 1000 wNo wM (c)).toList == s.toList) = false := beq_no hq
            clear hq hp
            go_wp2_with fail
            go_roundw
            case rel => exact ⟨2, Or.inr (Or.inr rfl), by go_num, (fun _ => HX0.out), (fun _ => HX.out), HM2.out⟩
            case measure => simp [intOf]
    · have HP : Hid (RdIs cpText s 0 3) := Or.inr (Or.inr ⟨by omega, hx1 (Nat.le_refl _), rfl, rfl⟩)
      clear hx0 hx1
      have r0 : wr.cell? ⟨w.heap.size + 1, 0, none⟩ = some (.int .i64 0) := cell_of hM.hr 0
      have r1 : wr.cell? ⟨w.heap.size + 1, 1, none⟩ = some (.int .i64 0) := cell_of hM.hr 1
      have r2 : wr.cell? ⟨w.heap.size + 1, 2, none⟩ = some (.int .i64 0) := cell_of hM.hr 2
      have q0 : wr.frozen? ⟨w.heap.size + 1, 0, none⟩ = false := frozen_of hM.hr 0
      have q1 : wr.frozen? ⟨w.heap.size + 1, 1, none⟩ = false := frozen_of hM.hr 1
      have q2 : wr.frozen? ⟨w.heap.size + 1, 2, none⟩ = false := frozen_of hM.hr 2
      clear hM
      go_wp2_with fail
      exact bodyPost_ret (v := .agg #[.int .i64 0, .int .i64 0, .int .i64 3]) (by simp [results, Tryd.results27, go_sem, *]) rfl ⟨_, _, rfl, HP.out, ((HM.out.hb.setCell (Nat.le_succ _) _).setCell (Nat.le_succ _) _).setCell (Nat.le_succ _) _⟩

end Go.Proofs.YtbpnmhebhmakdaaDoor

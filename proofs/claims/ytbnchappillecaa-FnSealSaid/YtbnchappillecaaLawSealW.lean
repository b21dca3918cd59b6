/-
  The law FnSeal, walked: whatever bytes are drawn from, it returns true.
-/
import Derived.Test.YtbnchappillecaaLawSealP
namespace Go.Proofs.Ytbnchappillecaa
open Go.RowKit

/-- What the law's call ends in. -/
def LawOk (w : World) (e : Ending) (w' : World) : Prop := e = .returned (.bool true) ∧ Below w.heap.size w w'

theorem sealed_long {t : ByteArray} (h : 7996 < t.size) : sealed t = ⟨#[]⟩ := by unfold sealed; exact if_pos h
theorem crc_law (t u : ByteArray) (h : t.size + u.size ≤ 8000) : crcMore (crcMore 0 t) u = crcMore 0 (t ++ u) := by
  have e1 : crcMore 0 t = crcOf 0 t.data.toList := by unfold crcMore; rw [if_neg (by omega)]
  have bd := crcOf_bd 0 t.data.toList
  have e2 : (t ++ u).size = t.size + u.size := by simp
  rw [e1]
  unfold crcMore
  rw [if_neg (by omega), if_neg (by omega), crcOf_on]
  simp

theorem calls_forget {P : Program} {f : Nat} {args : Array Value} {Q : Ending → World → Prop} {w : World} (F : World → Prop) (hF : F w) (h : ∀ w2, F w2 → Calls P f args w2 Q) : Calls P f args w Q := h w hF
/-- A block of bytes that the call has made. -/
def BB (w : World) (g : Nat) (L : List UInt8) (w2 : World) : Prop := Below w.heap.size w w2 ∧ w.heap.size ≤ g ∧ g < w2.heap.size ∧ (∀ j (hj : j < L.length), w2.cell? ⟨g, j, none⟩ = some (.int .u8 (L[j].toNat : Int))) ∧ ∀ j, j < L.length → w2.frozen? ⟨g, j, none⟩ = false
theorem BB.conv {w w3 : World} {s : ByteArray} (hb : Below w.heap.size w w3) (cp : Nat) : BB w w3.heap.size s.data.toList (w3.alloc (.cells (bytesRow s cp) 5 ((bytesRow s cp).size, (bytesRow s cp).size + 1))).drew := by
  have hsz : s.data.size ≤ (bytesRow s cp).size := by unfold bytesRow; simp
  refine ⟨(hb.alloc hb.size _).drew, hb.size, by show _ < (w3.heap.push _).size; simp, fun j hj => ?_, fun j hj => ?_⟩
  · show (w3.alloc _).cell? _ = _
    rw [World.cell?_alloc_mark, bytesRow_at s cp j (by simpa using hj)]
    simp
  · show (w3.alloc _).frozen? _ = _
    rw [World.frozen?_alloc_mark]
    have : j < s.data.size := by simpa using hj
    simp; omega
theorem BB.below {w w2 w3 : World} {g : Nat} {L : List UInt8} (h : BB w g L w2) (hb : Below w2.heap.size w2 w3) : BB w g L w3 := by
  obtain ⟨h1, h2, h3, h4, h5⟩ := h
  exact ⟨h1.trans (hb.mono h1.size), h2, Nat.lt_of_lt_of_le h3 hb.size, fun j hj => (hb.cell (p := ⟨g, j, none⟩) h3).trans (h4 j hj), fun j hj => (hb.frozen (p := ⟨g, j, none⟩) h3).trans (h5 j hj)⟩
theorem BB.set {w w2 : World} {g : Nat} {L : List UInt8} (h : BB w g L w2) (k : Nat) (hk : k < L.length) (y : UInt8) : BB w g (L.set k y) (w2.setCell ⟨g, k, none⟩ (.int .u8 (y.toNat : Int))).drew := by
  obtain ⟨h1, h2, h3, h4, h5⟩ := h
  refine ⟨(h1.setCell h2 _).drew, h2, by show _ < (w2.setCell _ _).heap.size; simpa [World.setCell] using h3, fun j hj => ?_, fun j hj => ?_⟩
  · show (w2.setCell _ _).cell? _ = _
    by_cases e : j = k
    · subst e
      rw [World.cell?_setCell_same _ _ _ (h4 j hk)]
      simp
    · have hne : (⟨g, k, none⟩ : Addr) ≠ ⟨g, j, none⟩ := fun e2 => e (congrArg Addr.off e2).symm
      rw [World.cell?_setCell_other (h := hne), h4 j (by simpa using hj)]
      rw [List.getElem_set_ne (by omega)]
  · show (w2.setCell _ _).frozen? _ = _
    rw [World.frozen?_setCell]
    exact h5 j (by simpa using hj)
theorem BB.text {w w2 : World} {g : Nat} {L : List UInt8} (h : BB w g L w2) (n cp : Nat) (hn : L.length = n) :
    (convert 22 9 (.slice (some ⟨g, 0, none⟩) n cp)).run Try.prog w2 = .ok (.string ⟨L.toArray⟩) w2 := by
  subst hn
  exact run_convert_bytes_back (P := Try.prog) w2 22 9 5 ⟨g, 0, none⟩ cp L Try.underlying22 Try.underlying5 Try.underlying9 (fun j hj => by
    rw [Addr.add_lit, Nat.zero_add]
    exact h.2.2.2.1 j hj)
theorem uns_of_good {s t : ByteArray} (h8 : ¬ 8000 < s.size) (h4 : ¬ s.size < 4) (hg : goodSeal s = true) (hi : inner s = t) : unsAns s = .agg #[.string t, .int .i64 0, .int .i64 0] := by
  unfold unsAns; rw [(uns_good h8 h4 hg).1, (uns_good h8 h4 hg).2, hi]
theorem uns_of_bad {s : ByteArray} (h8 : ¬ 8000 < s.size) (h4 : ¬ s.size < 4) (hg : goodSeal s = false) : unsAns s = .agg #[.string ⟨#[]⟩, .int .i64 0, .int .i64 5] := by
  unfold unsAns; rw [(uns_bad h8 h4 hg).1, (uns_bad h8 h4 hg).2]
theorem xor8 (a d : Nat) (ha : a < 256) (hd : d < 256) : bits .xor .u8 (a : Int) (d : Int) = ((a ^^^ d : Nat) : Int) := by
  have ha' : a % 2 ^ 8 = a := Nat.mod_eq_of_lt ha
  have hd' : d % 2 ^ 8 = d := Nat.mod_eq_of_lt hd
  have hx : a ^^^ d < 2 ^ 8 := Nat.xor_lt_two_pow (n := 8) ha hd
  have hk : IntKind.u8.bits = 8 := rfl
  simp only [bits, hk, BitVec.ofInt_natCast, BitVec.toNat_xor, BitVec.toNat_ofNat, ha', hd']
  rw [IntKind.wrap_u8]
  omega
theorem turn_byte (x : UInt8) (r : Nat) (hr : r ≤ 254) : ∃ y : UInt8, bits .xor .u8 (x.toNat : Int) (1 + (r : Int)) = (y.toNat : Int) ∧ x ≠ y := by
  have hx := x.toNat_lt
  have hlt : x.toNat ^^^ (1 + r) < 2 ^ 8 := Nat.xor_lt_two_pow (n := 8) hx (by omega)
  refine ⟨UInt8.ofNat (x.toNat ^^^ (1 + r)), ?_, ?_⟩
  · have e : (1 + (r : Int)) = ((1 + r : Nat) : Int) := by omega
    rw [e, xor8 _ _ hx (by omega), UInt8.toNat_ofNat', Nat.mod_eq_of_lt hlt]
  · intro e
    have h2 := congrArg UInt8.toNat e
    rw [UInt8.toNat_ofNat', Nat.mod_eq_of_lt hlt] at h2
    have h3 : (1 + r) ^^^ x.toNat = 0 ^^^ x.toNat := by rw [Nat.xor_comm, ← h2, Nat.zero_xor]
    have := xor_cancel _ _ _ h3
    omega
theorem inner_sealed (t : ByteArray) (ht : t.size ≤ 7996) : inner (sealed t) = t := by
  have h := inner_list (sealed t) t.size (sealed_size t ht)
  rw [sealed_list t ht, List.take_append_of_le_length (by rw [← Lib.size_eq]; omega), List.take_of_length_le (by rw [← Lib.size_eq]; omega)] at h
  apply ByteArray.ext
  exact Array.toList_inj.1 h

set_option maxHeartbeats 3200000 in
theorem fnSeal_go (v0 v1 : Value) (len0 len1 : Nat) (w : World) (h0 : RowIn w.heap.size w v0 len0) (h1 : RowIn w.heap.size w v1 len1) (hl0 : len0 ≤ 1048576) (hl1 : len1 ≤ 1048576) :
    Calls Try.prog 3 #[v0, v1] w (LawOk w) := by
  have HD : Hid (Calls Try.prog 4 #[v0] w (DrewT w 20000)) := drawSeal_any v0 len0 w h0
  have H1 : Hid (RowIn w.heap.size w v1 len1) := h1
  obtain ⟨_, a0, cap0, rfl, -⟩ := h0
  obtain ⟨_, a1, cap1, rfl, -⟩ := h1
  go_enter Try.func3, Try.ntmps3
  go_wp2_with fail
  refine HD.out.mono ?_
  rintro e w1 ⟨t, rfl, ht, hb1⟩
  have HB1 : Hid (Below w.heap.size w w1) := hb1
  clear hb1 HD
  by_cases hlong : 7996 < t.size
  · have HI := fun w => iseal_any t w
    have HS := fun w => sseal_any t w
    rw [sealed_long hlong] at HI HS
    go_wp2_with fail
    refine (HI _).mono ?_
    rintro e w2 ⟨rfl, hb2⟩
    have HB2 : Hid (Below w.heap.size w w2) := HB1.out.trans (hb2.mono HB1.out.size)
    clear hb2 HI
    go_wp2_with fail
    refine (HS _).mono ?_
    rintro e w3 ⟨rfl, hb3⟩
    have HB3 : Hid (Below w.heap.size w w3) := HB2.out.trans (hb3.mono HB2.out.size)
    clear hb3 HS HB1 HB2
    go_wp2_with fail
    refine (drawCrcMore_any _ len1 _ (H1.out.go HB3.out)).mono ?_
    rintro e w4 ⟨c, u, rfl, c0, c1, hu, hb4⟩
    have HB4 : Hid (Below w.heap.size w w4) := HB3.out.trans (hb4.mono HB3.out.size)
    clear hb4 HB3
    by_cases htu : 8000 < t.size + u.size
    · have htu' : 8000 < (t.size : Int) + (u.size : Int) := by omega
      go_wp2
      go_ret
      exact ⟨rfl, HB4.out⟩
    · have htu' : ¬ 8000 < (t.size : Int) + (u.size : Int) := by omega
      have HL : Hid (crcMore (crcMore 0 t) u = crcMore 0 (t ++ u)) := crc_law t u (by omega)
      go_wp2_with fail
      refine (imore_any c u _).mono ?_
      rintro e w5 ⟨rfl, rfl⟩
      go_wp2_with fail
      refine (smore_any c u _).mono ?_
      rintro e w5 ⟨rfl, rfl⟩
      go_wp2_with fail
      refine (icrc_any t _).mono ?_
      rintro e w5 ⟨rfl, rfl⟩
      go_wp2_with fail
      refine (imore_any (crcMore 0 t) u _).mono ?_
      rintro e w5 ⟨rfl, rfl⟩
      rw [HL.out]
      go_wp2_with fail
      refine (icrc_any (t ++ u) _).mono ?_
      rintro e w5 ⟨rfl, rfl⟩
      go_wp2
      go_ret
      exact ⟨rfl, HB4.out⟩
  · have hts : t.size ≤ 7996 := by omega
    have hS := sealed_size t hts
    have HI := fun w => iseal_any t w
    have HS := fun w => sseal_any t w
    have HTB : Hid (∀ (b : ByteArray) (i : Nat) (y : UInt8), b.data.toList = (sealed t).data.toList.set i y → ∀ hi : i < (sealed t).data.toList.length, (sealed t).data.toList[i] ≠ y → goodSeal b = false) := fun b i y hb hi hy => turned_bad t b hts i y hb hi hy
    have HGS : Hid (goodSeal (sealed t) = true) := good_sealed t hts
    have HIN : Hid (inner (sealed t) = t) := inner_sealed t hts
    generalize sealed t = s at *
    have hne : (s.toList == []) = false := by
      rw [ByteArray.toList_eq]
      cases hc : s.data.toList with
      | nil => have h2 := congrArg List.length hc; rw [← Lib.size_eq, hS] at h2; simp at h2
      | cons x l => rfl
    have hne2 : s.toList.isEmpty = false := by
      rw [ByteArray.toList_eq]
      cases hc : s.data.toList with
      | nil => have h2 := congrArg List.length hc; rw [← Lib.size_eq, hS] at h2; simp at h2
      | cons x l => rfl
    go_wp2_with fail
    refine (HI _).mono ?_
    rintro e w2 ⟨rfl, hb2⟩
    have HB2 : Hid (Below w.heap.size w w2) := HB1.out.trans (hb2.mono HB1.out.size)
    clear hb2 HI
    go_wp2_with fail
    refine (HS _).mono ?_
    rintro e w3 ⟨rfl, hb3⟩
    have HB3 : Hid (Below w.heap.size w w3) := HB2.out.trans (hb3.mono HB2.out.size)
    clear hb3 HS HB1 HB2
    have hcv := run_bytes_of_string (P := Try.prog) w3 9 22 5 s Try.underlying9 Try.underlying22 Try.underlying5
    go_wp2_with fail
    generalize grownCap w3 (t.size + 4) 0 5 = cp at *
    refine calls_forget (BB w w3.heap.size s.data.toList) (BB.conv HB3.out cp) ?_
    clear hcv
    rintro w4 hBB
    have HBB : Hid (BB w w3.heap.size s.data.toList w4) := hBB
    have hR4 := H1.out.below hBB.1
    refine (lwAt_any w.heap.size _ len1 0 ((t.size : Int) + 4) _ hR4 (by decide) (by decide) (by omega)).mono ?_
    rintro e w5 ⟨k, rfl, hk, rfl⟩
    have hk2 : k < t.size + 4 := by omega
    have hkL : k < s.data.toList.length := by rw [← Lib.size_eq]; omega
    have hck := hBB.2.2.2.1 k hkL
    have hfk := hBB.2.2.2.2 k hkL
    have hki : (k : Int) < (t.size : Int) + 4 := by omega
    obtain ⟨x, hx⟩ : ∃ x, x = s.data.toList[k] := ⟨_, rfl⟩
    rw [← hx] at hck
    have HX : Hid (x = s.data.toList[k]) := hx
    have HLW : Hid (Calls Try.prog 7 #[.slice a1 len1 cap1, .int .i64 1, .int .i64 255] w4.drew (LwAns 255 w4.drew)) := lwAt_any w.heap.size _ len1 1 255 _ (H1.out.below hBB.1.drew) (by decide) (by decide) (by decide)
    clear hBB hR4 hk hx
    go_wp2
    go_region_with (go_at_call 7; refine HLW.out.mono ?_; rintro e w6 ⟨r2, rfl, hr2, rfl⟩; have hr3 : r2 ≤ 254 := (by omega); have hw1 : IntKind.i64.wrap (1 + (r2 : Int)) = 1 + (r2 : Int) := (by rw [IntKind.wrap_i64]; omega); have hw2 : IntKind.u8.wrap (1 + (r2 : Int)) = 1 + (r2 : Int) := (by rw [IntKind.wrap_u8]; omega))
    all_goals
      obtain ⟨y, hy, hxy⟩ := turn_byte x r2 hr3
      have HBS : Hid (BB w w3.heap.size (s.data.toList.set k y) (w4.setCell ⟨w3.heap.size, k, none⟩ (.int .u8 (bits .xor .u8 (x.toNat : Int) (1 + (r2 : Int))))).drew) := by
        show BB _ _ _ _
        rw [hy]
        exact HBB.out.set k hkL y
      have hLs : (s.data.toList.set k y).length = t.size + 4 := by rw [List.length_set, ← Lib.size_eq, hS]
      have HUB : Hid (∀ w, Calls Try.prog 8 #[.string ⟨(s.data.toList.set k y).toArray⟩] w fun e w' => e = .returned (.agg #[.string ⟨#[]⟩, .int .i64 0, .int .i64 5]) ∧ Below w.heap.size w w') := fun w => by
        have hsz : (ByteArray.mk (s.data.toList.set k y).toArray).size = t.size + 4 := by show (s.data.toList.set k y).toArray.size = _; simpa using hLs
        have hbad := HTB.out ⟨(s.data.toList.set k y).toArray⟩ k y rfl hkL (by rw [← HX.out]; exact hxy)
        have := iunseal_any ⟨(s.data.toList.set k y).toArray⟩ w
        rw [uns_of_bad (by omega) (by omega) hbad] at this
        exact this
      have HUG : Hid (∀ w, Calls Try.prog 8 #[.string s] w fun e w' => e = .returned (.agg #[.string t, .int .i64 0, .int .i64 0]) ∧ Below w.heap.size w w') := fun w => by
        have := iunseal_any s w
        rw [uns_of_good (by omega) (by omega) HGS.out HIN.out] at this
        exact this
      have HLs : Hid ((s.data.toList.set k y).length = t.size + 4) := hLs
      clear hLs hy hxy hck hfk hw1 hw2 HBB HLW HX
      generalize s.data.toList.set k y = L at *
      go_wp2_with fail
      refine calls_forget (BB w w3.heap.size L) HBS.out ?_
      clear HBS
      rintro w7 hB7
      have HB7 : Hid (BB w w3.heap.size L w7) := hB7
      clear hB7
      refine (HUG.out _).mono ?_
      rintro e w8 ⟨rfl, hb8⟩
      have HB8 : Hid (BB w w3.heap.size L w8) := HB7.out.below hb8
      have hcv := HB8.out.text (t.size + 4) cp HLs.out
      clear HB7 hb8
      go_wp2_with fail
      refine (HUB.out _).mono ?_
      rintro e w9 ⟨rfl, hb9⟩
      have HB9 : Hid (Below w.heap.size w w9) := HB8.out.1.trans (hb9.mono HB8.out.1.size)
      clear hb9 HB8 hcv HUB HUG
      have hfld : ∀ w, (Instr.field 27 (.agg #[.string ⟨#[]⟩, .int .i64 0, .int .i64 5]) 2).run Try.prog w = .ok (.int .i64 5) w := fun _ => by kernel_rfl
      go_wp2_with fail
      refine (drawCrcMore_any _ len1 _ (H1.out.go HB9.out)).mono ?_
      rintro e w4 ⟨c, u, rfl, c0, c1, hu, hb4⟩
      have HB4 : Hid (Below w.heap.size w w4) := HB9.out.trans (hb4.mono HB9.out.size)
      clear hb4 HB9
      by_cases htu : 8000 < t.size + u.size
      · have htu' : 8000 < (t.size : Int) + (u.size : Int) := by omega
        go_wp2
        go_ret
        exact ⟨rfl, HB4.out⟩
      · have htu' : ¬ 8000 < (t.size : Int) + (u.size : Int) := by omega
        have HL : Hid (crcMore (crcMore 0 t) u = crcMore 0 (t ++ u)) := crc_law t u (by omega)
        go_wp2_with fail
        refine (imore_any c u _).mono ?_
        rintro e w5 ⟨rfl, rfl⟩
        go_wp2_with fail
        refine (smore_any c u _).mono ?_
        rintro e w5 ⟨rfl, rfl⟩
        go_wp2_with fail
        refine (icrc_any t _).mono ?_
        rintro e w5 ⟨rfl, rfl⟩
        go_wp2_with fail
        refine (imore_any (crcMore 0 t) u _).mono ?_
        rintro e w5 ⟨rfl, rfl⟩
        rw [HL.out]
        go_wp2_with fail
        refine (icrc_any (t ++ u) _).mono ?_
        rintro e w5 ⟨rfl, rfl⟩
        go_wp2
        go_ret
        exact ⟨rfl, HB4.out⟩

end Go.Proofs.Ytbnchappillecaa

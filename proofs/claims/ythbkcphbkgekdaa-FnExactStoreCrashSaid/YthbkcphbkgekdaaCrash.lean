/-
  A store after a crash: StoreCrash of the program and of the specification.
-/
import Derived.Test.YthbkcphbkgekdaaCut
import Derived.Test.YthbkcphbkgekdaaKLaw
import Derived.Shelf.Strconv.Clone
namespace Go.Proofs.Ythbkcphbkgekdaa
open Go.RowKit

def laysClone_ren : Go.Shelf.Ren := ⟨fun | 316 => 17 | n => n, fun | 9 => 9 | 3 => 3 | 4 => 4 | 37 => 37 | 0 => 0 | 127 => 38 | 5 => 5 | n => n, fun | n => n⟩

theorem laysClone : Go.Proofs.LaysM.n316 Try.prog laysClone_ren := {
  mixed := by kernel_rfl
  f316 := Try.func17.trans (congrArg some (by kernel_rfl))
  t0 := Try.underlying0
  a0 := Try.isAgg0
  z0 := Try.sizeOf0
  v0 := Try.zeroValue0
  t3 := Try.underlying3
  a3 := Try.isAgg3
  z3 := Try.sizeOf3
  v3 := Try.zeroValue3
  t4 := Try.underlying4
  a4 := Try.isAgg4
  z4 := Try.sizeOf4
  v4 := Try.zeroValue4
  t9 := Try.underlying9
  a9 := Try.isAgg9
  z9 := Try.sizeOf9
  v9 := Try.zeroValue9
  t37 := Try.underlying37
  a37 := Try.isAgg37
  z37 := Try.sizeOf37
  v37 := Try.zeroValue37
  t127 := Try.underlying38
  a127 := Try.isAgg38
  z127 := Try.sizeOf38
  v127 := Try.zeroValue38
  t5 := Try.underlying5
  a5 := Try.isAgg5
  z5 := Try.sizeOf5
  v5 := Try.zeroValue5
  i0 := by kernel_rfl
  i3 := by kernel_rfl
  i4 := by kernel_rfl
  i5 := by kernel_rfl
  i9 := by kernel_rfl
  i37 := by kernel_rfl
  i127 := by kernel_rfl }

set_option maxHeartbeats 400000 in
theorem cloneL_any (s : ByteArray) (w : World) (hs : s.size ≤ 1073741824) :
    Calls Try.prog 15 #[.string s] w fun e w' => e = .returned (.string s) ∧ Below w.heap.size w w' := by
  have HC : Hid (Calls Try.prog 17 #[.string s] w fun e w' => e = .returned (.string s) ∧ Below w.heap.size w w') := Any.stringslite_Clone laysClone s w (by omega)
  clear hs
  go_enter Try.func15, Try.ntmps15
  go_wp2_with fail
  refine HC.out.mono ?_
  rintro e w1 ⟨rfl, hb⟩
  go_wp2_with fail
  go_ret
  exact ⟨rfl, hb⟩

/-- What is within: both sides ask it alike. -/
theorem inB (n lo hi : Int) (p : Prop) [Decidable p] (h : p ↔ (lo ≤ n ∧ n ≤ hi)) : decide p = (decide (lo ≤ n) && decide (n ≤ hi)) := by
  rw [Bool.eq_iff_iff]; simp [h]

set_option maxHeartbeats 400000 in
theorem winY_any (n lo hi : Int) (h : lo ≤ n ∧ n ≤ hi) (w : World) :
    Calls Try.prog 14 #[.int .i64 n, .int .i64 lo, .int .i64 hi] w fun e w' => e = .returned (.bool true) ∧ w = w' := by
  obtain ⟨h1, h2⟩ := h
  go_enter Try.func14, Try.ntmps14
  go_wp2
  all_goals (go_ret; simp_all)

set_option maxHeartbeats 400000 in
theorem winN_any (n lo hi : Int) (h : ¬ (lo ≤ n ∧ n ≤ hi)) (w : World) :
    Calls Try.prog 14 #[.int .i64 n, .int .i64 lo, .int .i64 hi] w fun e w' => e = .returned (.bool false) ∧ w = w' := by
  have h' : Hid (n < lo ∨ hi < n) := show _ ∨ _ by omega
  clear h
  go_enter Try.func14, Try.ntmps14
  go_wp2
  all_goals (go_ret; have h2 := h'.out; first | (simp; omega) | simp | (exfalso; omega))

set_option maxHeartbeats 400000 in
theorem isY_any (n lo hi : Int) (h : lo ≤ n ∧ n ≤ hi) (w : World) :
    Calls Try.prog 9 #[.int .i64 n, .int .i64 lo, .int .i64 hi] w fun e w' => e = .returned (.bool true) ∧ w = w' := by
  obtain ⟨h1, h2⟩ := h
  go_enter Try.func9, Try.ntmps9
  go_wp2
  all_goals (go_ret; simp_all)

set_option maxHeartbeats 400000 in
theorem isN_any (n lo hi : Int) (h : ¬ (lo ≤ n ∧ n ≤ hi)) (w : World) :
    Calls Try.prog 9 #[.int .i64 n, .int .i64 lo, .int .i64 hi] w fun e w' => e = .returned (.bool false) ∧ w = w' := by
  have h' : Hid (n < lo ∨ hi < n) := show _ ∨ _ by omega
  clear h
  go_enter Try.func9, Try.ntmps9
  go_wp2
  all_goals (go_ret; have h2 := h'.out; first | (simp; omega) | simp | (exfalso; omega))

set_option maxHeartbeats 400000 in
theorem l01MinB_any (a b m : Int) (hm : m = min a b) (w : World) :
    Calls Try.prog 10 #[.int .i64 a, .int .i64 b] w fun e w' => e = .returned (.int .i64 m) ∧ w = w' := by
  have HM := hidK hm
  clear hm
  go_enter Try.func10, Try.ntmps10
  go_wp2
  all_goals (go_ret; have h2 := HM.out; refine ⟨?_, rfl⟩; first | (rw [show m = a by omega]; rfl) | (rw [show m = b by omega]; rfl))

set_option maxHeartbeats 400000 in
theorem syncedY_any (t : ByteArray) (y : Int) (h : 0 ≤ y ∧ y ≤ t.size) (w : World) :
    Calls Try.prog 11 #[.agg #[.string t, .int .i64 y]] w fun e w' => e = .returned (.bool true) ∧ Below w.heap.size w w' := by
  have HH := hidK h
  clear h
  go_enter Try.func11, Try.ntmps11
  go_wp2_with fail
  refine (winY_any _ _ _ HH.out _).mono ?_
  rintro e w1 ⟨rfl, rfl⟩
  go_wp2
  go_ret
  exact ⟨rfl, (Below.refl _ _).alloc (Nat.le_refl _) _⟩

set_option maxHeartbeats 400000 in
theorem syncedN_any (t : ByteArray) (y : Int) (h : ¬ (0 ≤ y ∧ y ≤ t.size)) (w : World) :
    Calls Try.prog 11 #[.agg #[.string t, .int .i64 y]] w fun e w' => e = .returned (.bool false) ∧ Below w.heap.size w w' := by
  have HH := hidK h
  clear h
  go_enter Try.func11, Try.ntmps11
  go_wp2_with fail
  refine (winN_any _ _ _ HH.out _).mono ?_
  rintro e w1 ⟨rfl, rfl⟩
  go_wp2
  go_ret
  exact ⟨rfl, (Below.refl _ _).alloc (Nat.le_refl _) _⟩

/-- How much of a log of l bytes is left, y synced, k more kept. -/
def crK (l : Nat) (y k : Int) : Nat := (y + min (max k 0) (l - y)).toNat
theorem crK_eq {l : Nat} {y k : Int} (h : 0 ≤ y ∧ y ≤ l) : ((crK l y k : Nat) : Int) = y + min (max k 0) (l - y) := by
  unfold crK; omega
theorem crK_le {l : Nat} {y k : Int} (h : 0 ≤ y ∧ y ≤ l) : crK l y k ≤ l := by
  have := crK_eq (k := k) h; omega

/-- Two blocks that were laid last, behind what a callee left: as they were. -/
theorem slotT {w w1 : World} {vs us : Array Value} {T U : TypeId} (hb : Below ((w.alloc (.cells vs T)).alloc (.cells us U)).heap.size ((w.alloc (.cells vs T)).alloc (.cells us U)) w1) :
    w1.heap[w.heap.size]? = some (.cells vs T (0, 0)) ∧ w1.heap[w.heap.size + 1]? = some (.cells us U (0, 0)) ∧ Below w.heap.size w w1 ∧ w.heap.size + 1 < w1.heap.size := by
  have hs : ((w.alloc (.cells vs T)).alloc (.cells us U)).heap.size = w.heap.size + 2 := by simp
  have h1 := hb.size
  refine ⟨(hb.block _ (by omega)).trans (heap2_0 w _ _), (hb.block _ (by omega)).trans (heap2_1 w _ _), (below2 w _ _).trans (hb.mono (by omega)), by omega⟩

set_option maxHeartbeats 400000 in
theorem scrashN_any (t : ByteArray) (y k : Int) (w : World) (h : ¬ (0 ≤ y ∧ y ≤ t.size)) :
    Calls Try.prog 5 #[.agg #[.string t, .int .i64 y], .int .i64 k] w fun e w' => e = .returned (.agg #[.string t, .int .i64 y]) ∧ Below w.heap.size w w' := by
  have HH := hidK h
  clear h
  go_enter Try.func5, Try.ntmps5
  go_wp2_with fail
  refine (isN_any _ _ _ HH.out _).mono ?_
  rintro e w1 ⟨rfl, rfl⟩
  go_wp2
  exact bodyPost_ret (v := .agg #[.string t, .int .i64 y]) (by simp [results, Try.results5, go_sem]) rfl ⟨rfl, below2 _ _ _⟩

set_option maxHeartbeats 400000 in
theorem scrashY_any (t : ByteArray) (y k : Int) (w : World) (hs : t.size ≤ 1048576) (h : 0 ≤ y ∧ y ≤ t.size) :
    Calls Try.prog 5 #[.agg #[.string t, .int .i64 y], .int .i64 k] w fun e w' => e = .returned (.agg #[.string (t.extract 0 (crK t.size y k)), .int .i64 (crK t.size y k)]) ∧ Below w.heap.size w w' := by
  have HH := hidK h
  have HE := hidK (crK_eq (k := k) h)
  have HL := hidK (crK_le (k := k) h)
  generalize crK t.size y k = n at *
  obtain ⟨h1, h2⟩ := h
  by_cases hk : 0 < k
  · obtain ⟨m, hm⟩ : ∃ m, m = min k ((t.size : Int) - y) := ⟨_, rfl⟩
    have e1 : IntKind.i64.wrap ((t.size : Int) - y) = (t.size : Int) - y := by rw [IntKind.wrap_i64]; omega
    have e2 : IntKind.i64.wrap (y + m) = (n : Int) := by rw [IntKind.wrap_i64]; have := HE.out; omega
    have HM := hidK hm
    clear hm
    go_enter Try.func5, Try.ntmps5
    go_wp2_with fail
    refine (isY_any _ _ _ HH.out _).mono ?_
    rintro e w1 ⟨rfl, rfl⟩
    go_wp2_with fail
    refine (l01MinB_any _ _ m HM.out _).mono ?_
    rintro e w1 ⟨rfl, rfl⟩
    have hl := HL.out
    go_wp2
    exact bodyPost_ret (v := .agg #[.string (t.extract 0 n), .int .i64 n]) (by simp [results, Try.results5, go_sem]) rfl ⟨rfl, below2 _ _ _⟩
  · obtain rfl : y = (n : Int) := by have := HE.out; omega
    clear HE
    go_enter Try.func5, Try.ntmps5
    go_wp2_with fail
    refine (isY_any _ _ _ HH.out _).mono ?_
    rintro e w1 ⟨rfl, rfl⟩
    have hl := HL.out
    go_wp2
    exact bodyPost_ret (v := .agg #[.string (t.extract 0 n), .int .i64 n]) (by simp [results, Try.results5, go_sem]) rfl ⟨rfl, below2 _ _ _⟩

set_option maxHeartbeats 400000 in
theorem ownStore_any (t : ByteArray) (y : Int) (w : World) (hs : t.size ≤ 1048576) :
    Calls Try.prog 12 #[.agg #[.string t, .int .i64 y]] w fun e w' => e = .returned (.agg #[.string t, .int .i64 y]) ∧ Below w.heap.size w w' := by
  go_enter Try.func12, Try.ntmps12
  go_wp2_with fail
  refine (cloneL_any t _ (by omega)).mono ?_
  rintro e w1 ⟨rfl, hb⟩
  obtain ⟨g0, g1, hb1, hz⟩ := slotT hb
  have c0 : w1.cell? ⟨w.heap.size, 0, none⟩ = some (.string t) := cellK g0 0
  have c1 : w1.cell? ⟨w.heap.size, 1, none⟩ = some (.int .i64 y) := cellK g0 1
  have f0 := froK g0 0
  have d0 : w1.cell? ⟨w.heap.size + 1, 0, none⟩ = some (.string ⟨#[]⟩) := cellK g1 0
  have d1 : w1.cell? ⟨w.heap.size + 1, 1, none⟩ = some (.int .i64 0) := cellK g1 1
  have k0 := froK g1 0
  have k1 := froK g1 1
  have HB := hidK hb1
  have HG := hidK g0
  have HG1 := hidK g1
  clear g0 g1 hb hb1
  go_wp2
  exact bodyPost_ret (v := .agg #[.string t, .int .i64 y]) (by simp [results, Try.results12, go_sem, d0, d1]) rfl ⟨rfl, set_below (by omega) (set_below (by omega) (set_below (by omega) HB.out))⟩

set_option maxHeartbeats 400000 in
theorem syncedTo_any (t : ByteArray) (n : Nat) (w : World) (hs : t.size ≤ 1048576) (hn : n ≤ t.size) :
    Calls Try.prog 13 #[.string t, .int .i64 n] w fun e w' => e = .returned (.agg #[.string (t.extract 0 n), .int .i64 n]) ∧ Below w.heap.size w w' := by
  go_enter Try.func13, Try.ntmps13
  go_wp2_with fail
  refine (cut_int t 0 n 0 n _ rfl rfl (by omega) hn (by omega)).mono ?_
  rintro e w1 ⟨rfl, hb⟩
  obtain ⟨g1, hb1, hz⟩ := slotK hb
  have d0 : w1.cell? ⟨w.heap.size, 0, none⟩ = some (.string ⟨#[]⟩) := cellK g1 0
  have d1 : w1.cell? ⟨w.heap.size, 1, none⟩ = some (.int .i64 0) := cellK g1 1
  have k0 := froK g1 0
  have k1 := froK g1 1
  have HB := hidK hb1
  have HG1 := hidK g1
  clear g1 hb hb1
  go_wp2
  exact bodyPost_ret (v := .agg #[.string (t.extract 0 n), .int .i64 n]) (by simp [results, Try.results13, go_sem, d0, d1]) rfl ⟨rfl, set_below (by omega) (set_below (by omega) HB.out)⟩

theorem syncedTo_int (t : ByteArray) (N : Int) (n : Nat) (w : World) (hN : (n : Int) = N) (hs : t.size ≤ 1048576) (hn : n ≤ t.size) :
    Calls Try.prog 13 #[.string t, .int .i64 N] w fun e w' => e = .returned (.agg #[.string (t.extract 0 n), .int .i64 n]) ∧ Below w.heap.size w w' := by
  subst hN
  exact syncedTo_any t n w hs hn

set_option maxHeartbeats 400000 in
theorem icrashY_any (t : ByteArray) (y k : Int) (w : World) (hs : t.size ≤ 1048576) (h : 0 ≤ y ∧ y ≤ t.size) :
    Calls Try.prog 7 #[.agg #[.string t, .int .i64 y], .int .i64 k] w fun e w' => e = .returned (.agg #[.string (t.extract 0 (crK t.size y k)), .int .i64 (crK t.size y k)]) ∧ Below w.heap.size w w' := by
  have HH := hidK h
  have HE := hidK (crK_eq (k := k) h)
  have HL := hidK (crK_le (k := k) h)
  generalize crK t.size y k = n at *
  obtain ⟨h1, h2⟩ := h
  have e1 : IntKind.i64.wrap ((t.size : Int) - y) = (t.size : Int) - y := by rw [IntKind.wrap_i64]; omega
  go_enter Try.func7, Try.ntmps7
  go_wp2_with fail
  refine (syncedY_any _ _ HH.out _).mono ?_
  rintro e w1 ⟨rfl, hb⟩
  obtain ⟨g0, g1, hb1, hz⟩ := slotT hb
  have c0 : w1.cell? ⟨w.heap.size, 0, none⟩ = some (.string t) := cellK g0 0
  have c1 : w1.cell? ⟨w.heap.size, 1, none⟩ = some (.int .i64 y) := cellK g0 1
  have HB := hidK hb1
  have HG1 := hidK g1
  clear g0 g1 hb hb1
  go_wp2_with fail
  refine (syncedTo_int t _ n _ HE.out (by omega) HL.out).mono ?_
  rintro e w2 ⟨rfl, hb2⟩
  have g1 := (hb2.block _ (lt_of_some HG1.out)).trans HG1.out
  have hz2 := hb2.size
  have d0 : w2.cell? ⟨w.heap.size + 1, 0, none⟩ = some (.string ⟨#[]⟩) := cellK g1 0
  have d1 : w2.cell? ⟨w.heap.size + 1, 1, none⟩ = some (.int .i64 0) := cellK g1 1
  have k0 := froK g1 0
  have k1 := froK g1 1
  have HB2 := hidK (HB.out.trans (hb2.mono (by omega)))
  clear g1 hb2 c0 c1 HB HG1
  go_wp2
  exact bodyPost_ret (v := .agg #[.string (t.extract 0 n), .int .i64 n]) (by simp [results, Try.results7, go_sem, d0, d1]) rfl ⟨rfl, set_below (by omega) (set_below (by omega) HB2.out)⟩

set_option maxHeartbeats 400000 in
theorem icrashN_any (t : ByteArray) (y k : Int) (w : World) (hs : t.size ≤ 1048576) (h : ¬ (0 ≤ y ∧ y ≤ t.size)) :
    Calls Try.prog 7 #[.agg #[.string t, .int .i64 y], .int .i64 k] w fun e w' => e = .returned (.agg #[.string t, .int .i64 y]) ∧ Below w.heap.size w w' := by
  have HH := hidK h
  clear h
  go_enter Try.func7, Try.ntmps7
  go_wp2_with fail
  refine (syncedN_any _ _ HH.out _).mono ?_
  rintro e w1 ⟨rfl, hb⟩
  obtain ⟨g0, g1, hb1, hz⟩ := slotT hb
  have c0 : w1.cell? ⟨w.heap.size, 0, none⟩ = some (.string t) := cellK g0 0
  have c1 : w1.cell? ⟨w.heap.size, 1, none⟩ = some (.int .i64 y) := cellK g0 1
  have HB := hidK hb1
  have HG1 := hidK g1
  clear g0 g1 hb hb1
  go_wp2_with fail
  refine (ownStore_any t y _ (by omega)).mono ?_
  rintro e w2 ⟨rfl, hb2⟩
  have g1 := (hb2.block _ (lt_of_some HG1.out)).trans HG1.out
  have hz2 := hb2.size
  have d0 : w2.cell? ⟨w.heap.size + 1, 0, none⟩ = some (.string ⟨#[]⟩) := cellK g1 0
  have d1 : w2.cell? ⟨w.heap.size + 1, 1, none⟩ = some (.int .i64 0) := cellK g1 1
  have k0 := froK g1 0
  have k1 := froK g1 1
  have HB2 := hidK (HB.out.trans (hb2.mono (by omega)))
  clear g1 hb2 c0 c1 HB HG1
  go_wp2
  exact bodyPost_ret (v := .agg #[.string t, .int .i64 y]) (by simp [results, Try.results7, go_sem, d0, d1]) rfl ⟨rfl, set_below (by omega) (set_below (by omega) HB2.out)⟩

set_option maxHeartbeats 400000 in
theorem szStore_any (t : ByteArray) (y left : Int) (w : World) (ht : t.size ≤ 9223372036854775807) (h0 : 0 ≤ left) (h1 : left ≤ 1048576) :
    Calls Try.prog 4 #[.agg #[.string t, .int .i64 y], .int .i64 left] w (SzB left ((t.size : Int) ≤ left) w) := by
  by_cases hl : left < (t.size : Int)
  · go_enter Try.func4, Try.ntmps4
    go_wp2
    go_ret
    exact ⟨-1, rfl, .inl rfl, below1 _ _⟩
  · go_enter Try.func4, Try.ntmps4
    go_wp2
    go_ret
    exact ⟨left - (t.size : Int), rfl, .inr ⟨by omega, by omega, trivial⟩, below1 _ _⟩

set_option maxHeartbeats 400000 in
theorem toStore_any (t : ByteArray) (y : Int) (w : World) :
    Calls Try.prog 6 #[.agg #[.string t, .int .i64 y]] w fun e w' => e = .returned (.agg #[.string t, .int .i64 y]) ∧ Below w.heap.size w w' := by
  go_enter Try.func6, Try.ntmps6
  go_wp2
  exact bodyPost_ret (v := .agg #[.string t, .int .i64 y]) (by simp [results, Try.results6, go_sem]) rfl ⟨rfl, below3 _ _ _ _⟩

set_option maxHeartbeats 400000 in
theorem eqStore_any (t : ByteArray) (y : Int) (w : World) :
    Calls Try.prog 8 #[.agg #[.string t, .int .i64 y], .agg #[.string t, .int .i64 y]] w fun e w' => e = .returned (.bool true) ∧ Below w.heap.size w w' := by
  go_enter Try.func8, Try.ntmps8
  go_wp2
  go_ret
  exact ⟨rfl, below2 _ _ _⟩

/-- What is left of a store behind a crash. -/
def crS (t : ByteArray) (y k : Int) (u : ByteArray) (z : Int) : Prop :=
  (¬ (0 ≤ y ∧ y ≤ t.size) ∧ u = t ∧ z = y) ∨ ((0 ≤ y ∧ y ≤ t.size) ∧ u = t.extract 0 (crK t.size y k) ∧ z = (crK t.size y k : Nat))
theorem crS_ex (t : ByteArray) (y k : Int) : ∃ u z, crS t y k u z := by
  by_cases h : 0 ≤ y ∧ y ≤ t.size
  · exact ⟨_, _, .inr ⟨h, rfl, rfl⟩⟩
  · exact ⟨_, _, .inl ⟨h, rfl, rfl⟩⟩
theorem scrash_any (t : ByteArray) (y k : Int) (u : ByteArray) (z : Int) (w : World) (hs : t.size ≤ 1048576) (h : crS t y k u z) :
    Calls Try.prog 5 #[.agg #[.string t, .int .i64 y], .int .i64 k] w fun e w' => e = .returned (.agg #[.string u, .int .i64 z]) ∧ Below w.heap.size w w' := by
  rcases h with ⟨h, rfl, rfl⟩ | ⟨h, rfl, rfl⟩
  · exact scrashN_any _ _ _ w h
  · exact scrashY_any _ _ _ w hs h
theorem icrash_any (t : ByteArray) (y k : Int) (u : ByteArray) (z : Int) (w : World) (hs : t.size ≤ 1048576) (h : crS t y k u z) :
    Calls Try.prog 7 #[.agg #[.string t, .int .i64 y], .int .i64 k] w fun e w' => e = .returned (.agg #[.string u, .int .i64 z]) ∧ Below w.heap.size w w' := by
  rcases h with ⟨h, rfl, rfl⟩ | ⟨h, rfl, rfl⟩
  · exact icrashN_any _ _ _ w hs h
  · exact icrashY_any _ _ _ w hs h

end Go.Proofs.Ythbkcphbkgekdaa

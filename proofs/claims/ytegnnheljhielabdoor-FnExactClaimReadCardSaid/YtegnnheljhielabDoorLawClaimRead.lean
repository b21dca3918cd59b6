/-
  The law FnExactClaimRead, walked: it returns true at every text.
-/
import Derived.Test.YtegnnheljhielabDoorKRead
namespace Go.Proofs.YtegnnheljhielabDoor
open Go.RowKit

theorem heap2r_0 (w : World) (o p : Obj) : ((w.alloc o).alloc p).heap[w.heap.size]? = some o := by
  rw [Below.heap_alloc _ _ _ (by simp)]
  exact Array.getElem?_push_size
theorem heap2r_1 (w : World) (o p : Obj) : ((w.alloc o).alloc p).heap[w.heap.size + 1]? = some p := by
  have h : w.heap.size + 1 = (w.alloc o).heap.size := by simp
  rw [h]
  exact Array.getElem?_push_size

set_option maxHeartbeats 1600000 in
theorem eqClaim_any (n : ByteArray) (z : Int) (k : ByteArray) (x : Bool) (v : ByteArray) (w : World) :
    Calls Tryd.prog 36 #[.agg #[.string n, .int .i64 z, .string k, .bool x, .string v], .agg #[.string n, .int .i64 z, .string k, .bool x, .string v]] w fun e w' => e = .returned (.bool true) ∧ Below w.heap.size w w' := by
  go_enter Tryd.func36, Tryd.ntmps36
  go_wp2
  go_ret
  exact ⟨rfl, (below1 _ _).alloc (by simp) _⟩

set_option maxHeartbeats 1600000 in
theorem eqClaimOut_any (n : ByteArray) (z : Int) (k : ByteArray) (x : Bool) (v : ByteArray) (c : Int) (w : World) :
    Calls Tryd.prog 13 #[claimOutV n z k x v c, claimOutV n z k x v c] w fun e w' => e = .returned (.bool true) ∧ Below w.heap.size w w' := by
  unfold claimOutV
  go_enter Tryd.func13, Tryd.ntmps13
  go_wp2_with fail
  refine (eqClaim_any n z k x v _).mono ?_
  rintro e w1 ⟨rfl, hb⟩
  have g1 := (hb.block (w.heap.size + 1) (by simp)).trans (heap2r_1 _ _ _)
  have g0 := (hb.block w.heap.size (by simp; omega)).trans (heap2r_0 _ _ _)
  have c0 : w1.cell? ⟨w.heap.size, 5, none⟩ = some (.int .i64 c) := cellK g0 5
  have c1 : w1.cell? ⟨w.heap.size + 1, 5, none⟩ = some (.int .i64 c) := cellK g1 5
  have HB : Hid (Below w.heap.size w w1) := ((below1 _ _).alloc (by simp) _).trans (hb.mono (by simp; omega))
  clear g0 g1 hb
  go_wp2
  go_ret
  exact ⟨rfl, HB.out⟩

theorem claimR_form (s : ByteArray) : ∃ n z k x v c, claimR s = claimOutV n z k x v c := by
  unfold claimR
  split
  · exact ⟨_, _, _, _, _, _, rfl⟩
  · split
    · unfold claimFive
      split
      · exact ⟨_, _, _, _, _, _, rfl⟩
      · exact ⟨_, _, _, _, _, _, rfl⟩
    · exact ⟨_, _, _, _, _, _, rfl⟩

set_option maxHeartbeats 1600000 in
theorem fnExactClaimRead_walk (s : ByteArray) (w : World) (hs : s.size ≤ maxLen) (ht : ptab w) (hmx : mxl w) :
    Calls Tryd.prog 4 #[.string s] w fun e w' => e = .returned (.bool true) ∧ Below w.heap.size w w' := by
  unfold maxLen at hs
  have HT := hidK ht
  have HM := hidK hmx
  clear ht hmx
  by_cases hl : 1048576 < s.size
  · go_enter Tryd.func4, Tryd.ntmps4
    go_wp2
    go_ret
    exact ⟨rfl, Below.refl _ _⟩
  obtain ⟨n, z, k, x, v, c, hR⟩ := claimR_form s
  have HS := hidK (fun w => sclaimRead_any s w (by omega))
  have HI := hidK (fun w (h : ptab w) (h2 : mxl w) => iclaimRead_any s w (by omega) h h2)
  rw [hR] at HS HI
  unfold claimOutV at HS HI
  go_enter Tryd.func4, Tryd.ntmps4
  go_wp2_with fail
  refine (HS.out _).mono ?_
  rintro e w1 ⟨rfl, hb1⟩
  have HB1 := hidK hb1
  clear hb1
  go_wp2_with fail
  have HBa := hidK (HB1.out.trans ((below1 w1 (.cells #[.string n, .int .i64 z, .string k, .bool x, .string v, .int .i64 c] 30)).mono HB1.out.size))
  refine (HI.out _ (HT.out.below HBa.out) (HM.out.below HBa.out)).mono ?_
  rintro e w2 ⟨rfl, hb2⟩
  obtain ⟨g2, hb21, -⟩ := slotK hb2
  have c0 : ∀ o, (w2.alloc o).cell? ⟨w1.heap.size, 0, none⟩ = some (.string n) := fun o => (cell_below (below1 w2 o) (ltK g2)).trans (cellK g2 0)
  have c1 : ∀ o, (w2.alloc o).cell? ⟨w1.heap.size, 1, none⟩ = some (.int .i64 z) := fun o => (cell_below (below1 w2 o) (ltK g2)).trans (cellK g2 1)
  have c2 : ∀ o, (w2.alloc o).cell? ⟨w1.heap.size, 2, none⟩ = some (.string k) := fun o => (cell_below (below1 w2 o) (ltK g2)).trans (cellK g2 2)
  have c3 : ∀ o, (w2.alloc o).cell? ⟨w1.heap.size, 3, none⟩ = some (.bool x) := fun o => (cell_below (below1 w2 o) (ltK g2)).trans (cellK g2 3)
  have c4 : ∀ o, (w2.alloc o).cell? ⟨w1.heap.size, 4, none⟩ = some (.string v) := fun o => (cell_below (below1 w2 o) (ltK g2)).trans (cellK g2 4)
  have c5 : ∀ o, (w2.alloc o).cell? ⟨w1.heap.size, 5, none⟩ = some (.int .i64 c) := fun o => (cell_below (below1 w2 o) (ltK g2)).trans (cellK g2 5)
  have HB2 := hidK (HB1.out.trans (hb21.mono HB1.out.size))
  clear g2 hb2 hb21
  have HE := hidK (eqClaimOut_any n z k x v c)
  unfold claimOutV at HE
  go_wp2_with fail
  refine (HE.out _).mono ?_
  rintro e w3 ⟨rfl, hb3⟩
  go_wp2_with fail
  go_ret
  exact ⟨rfl, HB2.out.trans ((below1 _ _).mono HB2.out.size |>.trans (hb3.mono (Nat.le_trans HB2.out.size (by simp))))⟩

end Go.Proofs.YtegnnheljhielabDoor

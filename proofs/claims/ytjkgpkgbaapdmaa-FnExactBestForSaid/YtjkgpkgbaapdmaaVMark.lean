/-
  The marks written into a volume's list, and whether they are held; two answers compared.
-/
import Derived.Test.YtjkgpkgbaapdmaaMark
namespace Go.Proofs.Ytjkgpkgbaapdmaa
open Go.RowKit
namespace Mk

set_option maxHeartbeats 1600000 in
theorem markVolume_own (n : ByteArray) (c : Int) (z k : ByteArray) (x : Bool) (m : ByteArray) (y : Bool) (g len cap : Nat) (cur : Array Value) (w : World) (hg : w.heap[g]? = some (.cells cur 9 (0, 0))) (hl : len ≤ cur.size) (hk2 : 1 + len ≤ 4398046511104) :
    Calls Try.prog 72 #[.agg #[.string n, .int .i64 c, .string z, .string k, .bool x, .string m, .bool y, .slice (some ⟨g, 0, none⟩) len cap], .int .i64 1] w (MarkAns g 1 len cur.size w) := by
  have hlt := lt_of_some hg
  have HG := hidK hg
  have HL := hidK hlt
  clear hg hlt
  go_enter Try.func72, Try.ntmps72
  go_wp2_with fail
  refine (markS_any g len cap 1 cur _ ((Below.heap_alloc _ _ _ HL.out).trans HG.out) hl (by decide) hk2).mono ?_
  rintro e w1 ⟨rfl, hk, cu, hg1, hm1, hs1⟩
  have HA := hidK (show MarkAns g 1 len cur.size w (.returned (.int .i64 ((1 + len : Nat) : Int))) w1 from ⟨rfl, (Kept.of_below (below1 _ _)).trans hk, cu, hg1, hm1, hs1⟩)
  clear hk hg1 hm1 hs1
  go_wp2_with fail
  go_ret
  exact HA.out

set_option maxHeartbeats 1600000 in
theorem markVolumeOut_own (n : ByteArray) (c : Int) (z k : ByteArray) (x : Bool) (m : ByteArray) (y : Bool) (g len cap : Nat) (p : Int) (cur : Array Value) (w : World) (hg : w.heap[g]? = some (.cells cur 9 (0, 0))) (hl : len ≤ cur.size) (hk2 : 1 + len ≤ 4398046511104) :
    Calls Try.prog 32 #[.agg #[.string n, .int .i64 c, .string z, .string k, .bool x, .string m, .bool y, .slice (some ⟨g, 0, none⟩) len cap, .int .i64 p], .int .i64 1] w (MarkAns g 1 len cur.size w) := by
  have hlt := lt_of_some hg
  have HG := hidK hg
  have HL := hidK hlt
  clear hg hlt
  go_enter Try.func32, Try.ntmps32
  go_wp2_with fail
  refine (markVolume_own n c z k x m y g len cap cur _ ((Below.heap_alloc _ _ _ HL.out).trans HG.out) hl hk2).mono ?_
  rintro e w1 ⟨rfl, hk, cu, hg1, hm1, hs1⟩
  have HA := hidK (show MarkAns g 1 len cur.size w (.returned (.int .i64 ((1 + len : Nat) : Int))) w1 from ⟨rfl, (Kept.of_below (below1 _ _)).trans hk, cu, hg1, hm1, hs1⟩)
  clear hk hg1 hm1 hs1
  go_wp2_with fail
  go_ret
  exact HA.out

set_option maxHeartbeats 1600000 in
theorem markVolume_nil (n : ByteArray) (c : Int) (z k : ByteArray) (x : Bool) (m : ByteArray) (y : Bool) (a : Option Addr) (cap : Nat) (w : World) :
    Calls Try.prog 72 #[.agg #[.string n, .int .i64 c, .string z, .string k, .bool x, .string m, .bool y, .slice a 0 cap], .int .i64 1] w fun e w' => e = .returned (.int .i64 1) ∧ Below w.heap.size w w' := by
  go_enter Try.func72, Try.ntmps72
  go_wp2_with fail
  refine (markZ_any a cap _).mono ?_
  rintro e w1 ⟨rfl, hb⟩
  have HB := hidK (slotK hb).2.1
  clear hb
  go_wp2_with fail
  go_ret
  exact ⟨rfl, HB.out⟩

set_option maxHeartbeats 1600000 in
theorem markVolumeOut_nil (n : ByteArray) (c : Int) (z k : ByteArray) (x : Bool) (m : ByteArray) (y : Bool) (a : Option Addr) (cap : Nat) (p : Int) (w : World) :
    Calls Try.prog 32 #[.agg #[.string n, .int .i64 c, .string z, .string k, .bool x, .string m, .bool y, .slice a 0 cap, .int .i64 p], .int .i64 1] w fun e w' => e = .returned (.int .i64 1) ∧ Below w.heap.size w w' := by
  go_enter Try.func32, Try.ntmps32
  go_wp2_with fail
  refine (markVolume_nil n c z k x m y a cap _).mono ?_
  rintro e w1 ⟨rfl, hb⟩
  have HB := hidK (slotK hb).2.1
  clear hb
  go_wp2_with fail
  go_ret
  exact ⟨rfl, HB.out⟩

set_option maxHeartbeats 1600000 in
theorem heldVolume_any (n : ByteArray) (c : Int) (z k : ByteArray) (x : Bool) (m : ByteArray) (y : Bool) (a : Option Addr) (len cap : Nat) (zs : List ByteArray) (w : World) (hr : TxRow w a len cap zs) (hk2 : 1 + len ≤ 4398046511104) (hz : ∀ (j : Nat) y, zs[j]? = some y → y = markT (1 + j)) :
    Calls Try.prog 73 #[.agg #[.string n, .int .i64 c, .string z, .string k, .bool x, .string m, .bool y, .slice a len cap], .int .i64 1] w fun e w' => e = .returned (.int .i64 ((1 + len : Nat) : Int)) ∧ Below w.heap.size w w' := by
  have HR := hidK (hr.below (below1 w (.cells #[.string n, .int .i64 c, .string z, .string k, .bool x, .string m, .bool y, .slice a len cap] 30)))
  have HZ := hidK hz
  clear hr hz
  go_enter Try.func73, Try.ntmps73
  go_wp2_with fail
  refine (heldS_any a len cap 1 zs _ HR.out (by decide) hk2 HZ.out).mono ?_
  rintro e w1 ⟨rfl, hb⟩
  have HB := hidK (slotK hb).2.1
  clear hb
  go_wp2_with fail
  go_ret
  exact ⟨rfl, HB.out⟩

set_option maxHeartbeats 1600000 in
theorem heldVolumeOut_any (n : ByteArray) (c : Int) (z k : ByteArray) (x : Bool) (m : ByteArray) (y : Bool) (a : Option Addr) (len cap : Nat) (p : Int) (zs : List ByteArray) (w : World) (hr : TxRow w a len cap zs) (hk2 : 1 + len ≤ 4398046511104) (hz : ∀ (j : Nat) y, zs[j]? = some y → y = markT (1 + j)) :
    Calls Try.prog 33 #[.agg #[.string n, .int .i64 c, .string z, .string k, .bool x, .string m, .bool y, .slice a len cap, .int .i64 p], .int .i64 1] w fun e w' => e = .returned (.int .i64 ((1 + len : Nat) : Int)) ∧ Below w.heap.size w w' := by
  have HR := hidK (hr.below (below1 w (.cells #[.string n, .int .i64 c, .string z, .string k, .bool x, .string m, .bool y, .slice a len cap, .int .i64 p] 32)))
  have HZ := hidK hz
  clear hr hz
  go_enter Try.func33, Try.ntmps33
  go_wp2_with fail
  refine (heldVolume_any n c z k x m y a len cap zs _ HR.out hk2 HZ.out).mono ?_
  rintro e w1 ⟨rfl, hb⟩
  have HB := hidK (slotK hb).2.1
  clear hb
  go_wp2_with fail
  go_ret
  exact ⟨rfl, HB.out⟩

set_option maxHeartbeats 1600000 in
theorem eqVolumeOut_any (n : ByteArray) (c : Int) (z k : ByteArray) (x : Bool) (m : ByteArray) (y : Bool) (a : Option Addr) (len cap : Nat) (zs : List ByteArray) (p : Int) (a' : Option Addr) (len' cap' : Nat) (w : World) (hr : TxRow w a len cap zs) (hr' : TxRow w a' len' cap' zs) :
    Calls Try.prog 29 #[.agg #[.string n, .int .i64 c, .string z, .string k, .bool x, .string m, .bool y, .slice a len cap, .int .i64 p], .agg #[.string n, .int .i64 c, .string z, .string k, .bool x, .string m, .bool y, .slice a' len' cap', .int .i64 p]] w fun e w' => e = .returned (.bool true) ∧ Below w.heap.size w w' := by
  have HR := hidK (hr.below (below2 w (.cells #[.string n, .int .i64 c, .string z, .string k, .bool x, .string m, .bool y, .slice a len cap, .int .i64 p] 32) (.cells #[.string n, .int .i64 c, .string z, .string k, .bool x, .string m, .bool y, .slice a' len' cap', .int .i64 p] 32)))
  have HR' := hidK (hr'.below (below2 w (.cells #[.string n, .int .i64 c, .string z, .string k, .bool x, .string m, .bool y, .slice a len cap, .int .i64 p] 32) (.cells #[.string n, .int .i64 c, .string z, .string k, .bool x, .string m, .bool y, .slice a' len' cap', .int .i64 p] 32)))
  clear hr hr'
  go_enter Try.func29, Try.ntmps29
  go_wp2_with fail
  refine (eqVolume_any n c z k x m y a len cap zs a' len' cap' _ HR.out HR'.out).mono ?_
  rintro e w1 ⟨rfl, hb⟩
  have g0 := (hb.block w.heap.size (by simp; omega)).trans (heap2_0 _ _ _)
  have g1 := (hb.block (w.heap.size + 1) (by simp)).trans (heap2_1 _ _ _)
  have c0 : w1.cell? ⟨w.heap.size, 8, none⟩ = some (.int .i64 p) := cellK g0 8
  have c1 : w1.cell? ⟨w.heap.size + 1, 8, none⟩ = some (.int .i64 p) := cellK g1 8
  have HB : Hid (Below w.heap.size w w1) := (below2 _ _ _).trans (hb.mono (by simp; omega))
  clear g0 g1 hb
  go_wp2
  go_ret
  exact ⟨rfl, HB.out⟩

theorem markVolumeOut_all (n : ByteArray) (c : Int) (z k : ByteArray) (x : Bool) (m : ByteArray) (y : Bool) (a : Option Addr) (len cap : Nat) (p : Int) (zs : List ByteArray) (X q : Nat) (w : World) (hr : TxRow w a len cap zs) (hl : len ≤ 6)
    (ho : zs = [] ∨ ∃ g cur, a = some ⟨g, 0, none⟩ ∧ X ≤ g ∧ w.heap[g]? = some (.cells cur 9 (0, 0)) ∧ ¬ q = g) (hX : X ≤ w.heap.size) (hq : q < w.heap.size) :
    Calls Try.prog 32 #[.agg #[.string n, .int .i64 c, .string z, .string k, .bool x, .string m, .bool y, .slice a len cap, .int .i64 p], .int .i64 1] w (MarkedAns a len cap X q w) := by
  rcases ho with hz | ⟨g, cur, rfl, hg, hh, hne⟩
  · subst hz
    obtain rfl : len = 0 := by have := hr.1; simpa using this.symm
    refine (markVolumeOut_nil n c z k x m y a cap p w).mono ?_
    rintro e w' ⟨rfl, hb⟩
    exact ⟨rfl, ⟨rfl, hr.2.1, hr.2.2.1, fun j y hy => by simp [marksL] at hy, .inl rfl⟩, hb.mono hX, hb.block q hq⟩
  · refine (markVolumeOut_own n c z k x m y g len cap p cur w hh (row_fits hr hh) (by omega)).mono ?_
    rintro e w' ⟨rfl, hk, cu, hcu, hm, -⟩
    exact ⟨rfl, row_marked hcu hm (by omega) hr.2.1 hr.2.2.1, hk.below (Below.refl X w) hX hg, hk.block q hq hne⟩

end Mk
end Go.Proofs.Ytjkgpkgbaapdmaa

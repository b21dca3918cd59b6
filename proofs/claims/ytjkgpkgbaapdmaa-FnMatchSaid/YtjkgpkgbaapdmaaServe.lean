/-
  Serves of the specification and of the program: yes just of a right volume and claim, and a zone that is a name or empty, where the volume serves the claim there.
-/
import Derived.Test.YtjkgpkgbaapdmaaKLaw
import Derived.Test.YtjkgpkgbaapdmaaKVol
import Derived.Test.YtjkgpkgbaapdmaaGrow
namespace Go.Proofs.Ytjkgpkgbaapdmaa
open Go.RowKit

/-- A right volume (size, zone, class, single, claim, spent) serves a right claim (size, class, single) in that zone. -/
def svB (c : Int) (z k : ByteArray) (x : Bool) (m : ByteArray) (y : Bool) (c' : Int) (k' : ByteArray) (x' : Bool) (t : ByteArray) : Bool :=
  (k.toList == k'.toList) && (x == x') && !y && m.toList.isEmpty && decide (c' ≤ c) && (t.toList.isEmpty || (z.toList == t.toList))

theorem ret_sv {a b : Bool} (h : a = b) : Ending.returned (.bool a) = .returned (.bool b) := by rw [h]

set_option maxHeartbeats 1600000 in
theorem ssv_any (n : ByteArray) (c : Int) (z : ByteArray) (k : ByteArray) (x : Bool) (m : ByteArray) (y : Bool) (a : Option Addr) (len cap : Nat) (n' : ByteArray) (c' : Int) (k' : ByteArray) (x' : Bool) (v' : ByteArray) (t : ByteArray) (w : World) :
    Calls Try.prog 61 #[.agg #[.string n, .int .i64 c, .string z, .string k, .bool x, .string m, .bool y, .slice a len cap], .agg #[.string n', .int .i64 c', .string k', .bool x', .string v'], .string t] w fun e w' => e = .returned (.bool (svB c z k x m y c' k' x' t)) ∧ Below w.heap.size w w' := by
  have HB := hidK (below2 w (.cells #[.string n, .int .i64 c, .string z, .string k, .bool x, .string m, .bool y, .slice a len cap] 30) (.cells #[.string n', .int .i64 c', .string k', .bool x', .string v'] 25))
  unfold svB
  cases h0 : (k.toList == k'.toList)
  · go_enter Try.func61, Try.ntmps61
    go_wp2_with fail
    go_ret
    exact ⟨rfl, HB.out⟩
  cases h1 : (x == x')
  · go_enter Try.func61, Try.ntmps61
    go_wp2_with fail
    go_ret
    exact ⟨rfl, HB.out⟩
  cases y
  case true =>
    go_enter Try.func61, Try.ntmps61
    go_wp2_with fail
    go_ret
    exact ⟨rfl, HB.out⟩
  cases h2 : m.toList.isEmpty
  · go_enter Try.func61, Try.ntmps61
    go_wp2_with fail
    go_ret
    exact ⟨rfl, HB.out⟩
  by_cases h3 : c' ≤ c
  case neg =>
    have h3' : decide (c' ≤ c) = false := by simpa using h3
    rw [h3']
    go_enter Try.func61, Try.ntmps61
    go_wp2_with fail
    go_ret
    exact ⟨rfl, HB.out⟩
  have h3' : decide (c' ≤ c) = true := by simpa using h3
  rw [h3']
  cases h4 : t.toList.isEmpty
  · cases h5 : (z.toList == t.toList)
    all_goals (
      go_enter Try.func61, Try.ntmps61
      go_wp2_with fail
      go_ret
      exact ⟨rfl, HB.out⟩)
  · go_enter Try.func61, Try.ntmps61
    go_wp2_with fail
    go_ret
    exact ⟨rfl, HB.out⟩

end Go.Proofs.Ytjkgpkgbaapdmaa

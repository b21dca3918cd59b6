/-
  The closure that tells whether a volume serves a claim.
-/
import Derived.Test.YtjkgpkgbaapdmaaServe
namespace Go.Proofs.Ytjkgpkgbaapdmaa
open Go.RowKit

/-- The closure: what it holds of the claim and of the zone lies in two blocks. -/
def SvHeld (w : World) (cb zb : Nat) (n' : ByteArray) (c' : Int) (k' : ByteArray) (x' : Bool) (v' : ByteArray) (t : ByteArray) : Prop :=
  w.heap[cb]? = some (.cells #[.string n', .int .i64 c', .string k', .bool x', .string v'] 25 (0, 0)) ∧ w.heap[zb]? = some (.cells #[.string t] 9 (0, 0))
theorem SvHeld.below {w w1 : World} {cb zb : Nat} {n' : ByteArray} {c' : Int} {k' : ByteArray} {x' : Bool} {v' t : ByteArray} (h : SvHeld w cb zb n' c' k' x' v' t) (hb : Below w.heap.size w w1) : SvHeld w1 cb zb n' c' k' x' v' t :=
  ⟨(hb.block _ (lt_of_some h.1)).trans h.1, (hb.block _ (lt_of_some h.2)).trans h.2⟩

set_option maxHeartbeats 3200000 in
theorem clo_any (n : ByteArray) (c : Int) (z : ByteArray) (k : ByteArray) (x : Bool) (m : ByteArray) (y : Bool) (a : Option Addr) (len cap : Nat) (cb zb : Nat) (n' : ByteArray) (c' : Int) (k' : ByteArray) (x' : Bool) (v' : ByteArray) (t : ByteArray) (w : World) (hh : SvHeld w cb zb n' c' k' x' v' t) :
    Calls Try.prog 79 #[.agg #[.string n, .int .i64 c, .string z, .string k, .bool x, .string m, .bool y, .slice a len cap], .pointer (some ⟨cb, 0, none⟩), .pointer (some ⟨zb, 0, none⟩)] w fun e w' => e = .returned (.bool (svB c z k x m y c' k' x' t)) ∧ Below w.heap.size w w' := by
  have hh1 := hh.below (below1 w (.cells #[.string n, .int .i64 c, .string z, .string k, .bool x, .string m, .bool y, .slice a len cap] 30))
  have HB := hidK (below1 w (.cells #[.string n, .int .i64 c, .string z, .string k, .bool x, .string m, .bool y, .slice a len cap] 30))
  have c1 := cellK hh1.1 1
  have c2 := cellK hh1.1 2
  have c3 := cellK hh1.1 3
  have c4 := cellK hh1.2 0
  simp only [List.getElem?_toArray, List.getElem?_cons_succ, List.getElem?_cons_zero] at c1 c2 c3 c4
  clear hh hh1
  unfold svB
  cases y
  case true =>
    cases h0 : (k.toList == k'.toList)
    · skip
      cases h4 : t.toList.isEmpty
      · cases h5 : (z.toList == t.toList)
        · skip
          go_enter Try.func79, Try.ntmps79
          go_wp2_with fail
          go_ret
          exact ⟨ret_sv (by simp), HB.out⟩
        · skip
          go_enter Try.func79, Try.ntmps79
          go_wp2_with fail
          go_ret
          exact ⟨ret_sv (by simp), HB.out⟩
      · skip
        go_enter Try.func79, Try.ntmps79
        go_wp2_with fail
        go_ret
        exact ⟨ret_sv (by simp), HB.out⟩
    · cases h1 : (x == x')
      · skip
        cases h4 : t.toList.isEmpty
        · cases h5 : (z.toList == t.toList)
          · skip
            go_enter Try.func79, Try.ntmps79
            go_wp2_with fail
            go_ret
            exact ⟨ret_sv (by simp), HB.out⟩
          · skip
            go_enter Try.func79, Try.ntmps79
            go_wp2_with fail
            go_ret
            exact ⟨ret_sv (by simp), HB.out⟩
        · skip
          go_enter Try.func79, Try.ntmps79
          go_wp2_with fail
          go_ret
          exact ⟨ret_sv (by simp), HB.out⟩
      · skip
        cases h4 : t.toList.isEmpty
        · cases h5 : (z.toList == t.toList)
          · skip
            go_enter Try.func79, Try.ntmps79
            go_wp2_with fail
            go_ret
            exact ⟨ret_sv (by simp), HB.out⟩
          · skip
            go_enter Try.func79, Try.ntmps79
            go_wp2_with fail
            go_ret
            exact ⟨ret_sv (by simp), HB.out⟩
        · skip
          go_enter Try.func79, Try.ntmps79
          go_wp2_with fail
          go_ret
          exact ⟨ret_sv (by simp), HB.out⟩
  case false =>
    cases h2 : m.toList.isEmpty
    · skip
      cases h0 : (k.toList == k'.toList)
      · skip
        cases h4 : t.toList.isEmpty
        · cases h5 : (z.toList == t.toList)
          · skip
            go_enter Try.func79, Try.ntmps79
            go_wp2_with fail
            go_ret
            exact ⟨ret_sv (by simp), HB.out⟩
          · skip
            go_enter Try.func79, Try.ntmps79
            go_wp2_with fail
            go_ret
            exact ⟨ret_sv (by simp), HB.out⟩
        · skip
          go_enter Try.func79, Try.ntmps79
          go_wp2_with fail
          go_ret
          exact ⟨ret_sv (by simp), HB.out⟩
      · cases h1 : (x == x')
        · skip
          cases h4 : t.toList.isEmpty
          · cases h5 : (z.toList == t.toList)
            · skip
              go_enter Try.func79, Try.ntmps79
              go_wp2_with fail
              go_ret
              exact ⟨ret_sv (by simp), HB.out⟩
            · skip
              go_enter Try.func79, Try.ntmps79
              go_wp2_with fail
              go_ret
              exact ⟨ret_sv (by simp), HB.out⟩
          · skip
            go_enter Try.func79, Try.ntmps79
            go_wp2_with fail
            go_ret
            exact ⟨ret_sv (by simp), HB.out⟩
        · skip
          cases h4 : t.toList.isEmpty
          · cases h5 : (z.toList == t.toList)
            · skip
              go_enter Try.func79, Try.ntmps79
              go_wp2_with fail
              go_ret
              exact ⟨ret_sv (by simp), HB.out⟩
            · skip
              go_enter Try.func79, Try.ntmps79
              go_wp2_with fail
              go_ret
              exact ⟨ret_sv (by simp), HB.out⟩
          · skip
            go_enter Try.func79, Try.ntmps79
            go_wp2_with fail
            go_ret
            exact ⟨ret_sv (by simp), HB.out⟩
    · skip
      cases h0 : (k.toList == k'.toList)
      · skip
        cases h4 : t.toList.isEmpty
        · cases h5 : (z.toList == t.toList)
          · skip
            go_enter Try.func79, Try.ntmps79
            go_wp2_with fail
            go_ret
            exact ⟨ret_sv (by simp), HB.out⟩
          · skip
            go_enter Try.func79, Try.ntmps79
            go_wp2_with fail
            go_ret
            exact ⟨ret_sv (by simp), HB.out⟩
        · skip
          go_enter Try.func79, Try.ntmps79
          go_wp2_with fail
          go_ret
          exact ⟨ret_sv (by simp), HB.out⟩
      · cases h1 : (x == x')
        · skip
          cases h4 : t.toList.isEmpty
          · cases h5 : (z.toList == t.toList)
            · skip
              go_enter Try.func79, Try.ntmps79
              go_wp2_with fail
              go_ret
              exact ⟨ret_sv (by simp), HB.out⟩
            · skip
              go_enter Try.func79, Try.ntmps79
              go_wp2_with fail
              go_ret
              exact ⟨ret_sv (by simp), HB.out⟩
          · skip
            go_enter Try.func79, Try.ntmps79
            go_wp2_with fail
            go_ret
            exact ⟨ret_sv (by simp), HB.out⟩
        · skip
          cases h4 : t.toList.isEmpty
          · cases h5 : (z.toList == t.toList)
            · skip
              go_enter Try.func79, Try.ntmps79
              go_wp2_with fail
              go_ret
              exact ⟨ret_sv (by simp), HB.out⟩
            · skip
              by_cases h3 : c' ≤ c
              · rw [decide_eq_true h3]
                go_enter Try.func79, Try.ntmps79
                go_wp2_with fail
                go_ret
                exact ⟨ret_sv (by simp), HB.out⟩
              · rw [decide_eq_false h3]
                go_enter Try.func79, Try.ntmps79
                go_wp2_with fail
                go_ret
                exact ⟨ret_sv (by simp), HB.out⟩
          · skip
            by_cases h3 : c' ≤ c
            · rw [decide_eq_true h3]
              go_enter Try.func79, Try.ntmps79
              go_wp2_with fail
              go_ret
              exact ⟨ret_sv (by simp), HB.out⟩
            · rw [decide_eq_false h3]
              go_enter Try.func79, Try.ntmps79
              go_wp2_with fail
              go_ret
              exact ⟨ret_sv (by simp), HB.out⟩

end Go.Proofs.Ytjkgpkgbaapdmaa

/-
  MayMake of the specification and of the program: yes just of a right class and a zone that is a name, where the class has no zone or that one.
-/
import Derived.Test.YtjkgpkgbaapdmaaKLaw
namespace Go.Proofs.Ytjkgpkgbaapdmaa
open Go.RowKit

/-- A class (name, zone) may make in that zone. -/
def MayOk (n z t : ByteArray) : Prop := ClassOk n z ∧ NameOk t ∧ (z = ⟨#[]⟩ ∨ z = t)

set_option maxHeartbeats 1600000 in
theorem smay_any (n : ByteArray) (x y : Bool) (z t : ByteArray) (w : World) (hn : n.size ≤ 9223372036854775807) (hz : z.size ≤ 9223372036854775807) (ht : t.size ≤ 9223372036854775807) :
    Calls Try.prog 20 #[.agg #[.string n, .bool x, .bool y, .string z], .string t] w (BoolB (MayOk n z t) w) := by
  by_cases hl : 8000 < t.size
  · have HN : ¬ MayOk n z t := fun h => by have := h.2.1.2.1; omega
    have HN' := hidK HN
    clear HN
    go_enter Try.func20, Try.ntmps20
    go_wp2_with fail
    go_ret
    exact ⟨false, rfl, ⟨fun h => (by cases h), fun h => (HN'.out h).elim⟩, below1 _ _⟩
  go_enter Try.func20, Try.ntmps20
  go_wp2_with fail
  refine (sclass_any n z x y _ hn hz).mono ?_
  rintro e w1 ⟨r, rfl, hr, hb⟩
  obtain ⟨g, hb1, -⟩ := slotK hb
  have HB := hidK hb1
  have c3 : w1.cell? ⟨w.heap.size, 3, none⟩ = some (.string z) := cellK g 3
  clear g hb hb1
  by_cases hq : r = true
  case neg =>
    have HN := hidK (fun h => hq (hr.2 h))
    have hrf : r = false := by simpa using hq
    clear hr
    go_wp2_with fail
    go_ret
    exact ⟨false, rfl, ⟨fun h => (by cases h), fun h => (HN.out h.1).elim⟩, HB.out⟩
  have h0 := hidK (hr.1 hq)
  subst hq
  clear hr
  go_wp2_with fail
  refine (sname_any t _ ht).mono ?_
  rintro e w2 ⟨r, rfl, hr, rfl⟩
  by_cases hq : r = true
  case neg =>
    have HN := hidK (fun h => hq (hr.2 h))
    have hrf : r = false := by simpa using hq
    clear hr
    go_wp2_with fail
    go_ret
    exact ⟨false, rfl, ⟨fun h => (by cases h), fun h => (HN.out h.2.1).elim⟩, HB.out⟩
  have h1 := hidK (hr.1 hq)
  subst hq
  clear hr
  by_cases hz0 : z = ⟨#[]⟩
  · subst hz0
    go_wp2_with fail
    go_ret
    exact ⟨true, rfl, ⟨fun _ => ⟨h0.out, h1.out, .inl rfl⟩, fun _ => rfl⟩, HB.out⟩
  have HZ := hidK hz0
  have hq9 : z.toList.isEmpty = false := isE_no hz0
  by_cases hzt : z = t
  · have hq8 := tl_yes hzt
    have HT := hidK hzt
    clear hzt hz0
    go_wp2_with fail
    go_ret
    exact ⟨true, rfl, ⟨fun _ => ⟨h0.out, h1.out, .inr HT.out⟩, fun _ => rfl⟩, HB.out⟩
  · have hq8 := tl_no hzt
    have HT := hidK hzt
    clear hzt hz0
    go_wp2_with fail
    go_ret
    exact ⟨false, rfl, ⟨fun h => (by cases h), fun h => (h.2.2.elim HZ.out HT.out).elim⟩, HB.out⟩

set_option maxHeartbeats 1600000 in
theorem imay_any (n : ByteArray) (x y : Bool) (z t : ByteArray) (w : World) (hn : n.size ≤ 9223372036854775807) (hz : z.size ≤ 9223372036854775807) (ht : t.size ≤ 9223372036854775807) :
    Calls Try.prog 19 #[.agg #[.string n, .bool x, .bool y, .string z], .string t] w (BoolB (MayOk n z t) w) := by
  go_enter Try.func19, Try.ntmps19
  go_wp2_with fail
  refine (iclass_any n z x y _ hn hz).mono ?_
  rintro e w1 ⟨r, rfl, hr, hb⟩
  obtain ⟨g, hb1, -⟩ := slotK hb
  have HB := hidK hb1
  have c3 : w1.cell? ⟨w.heap.size, 3, none⟩ = some (.string z) := cellK g 3
  clear g hb hb1
  by_cases hq : r = true
  case neg =>
    have HN := hidK (fun h => hq (hr.2 h))
    have hrf : r = false := by simpa using hq
    clear hr
    go_wp2_with fail
    go_ret
    exact ⟨false, rfl, ⟨fun h => (by cases h), fun h => (HN.out h.1).elim⟩, HB.out⟩
  have h0 := hidK (hr.1 hq)
  subst hq
  clear hr
  go_wp2_with fail
  refine (iname_any t _ ht).mono ?_
  rintro e w2 ⟨r, rfl, hr, rfl⟩
  by_cases hq : r = true
  case neg =>
    have HN := hidK (fun h => hq (hr.2 h))
    have hrf : r = false := by simpa using hq
    clear hr
    go_wp2_with fail
    go_ret
    exact ⟨false, rfl, ⟨fun h => (by cases h), fun h => (HN.out h.2.1).elim⟩, HB.out⟩
  have h1 := hidK (hr.1 hq)
  subst hq
  clear hr
  by_cases hz0 : z = ⟨#[]⟩
  · subst hz0
    go_wp2_with fail
    go_ret
    exact ⟨true, rfl, ⟨fun _ => ⟨h0.out, h1.out, .inl rfl⟩, fun _ => rfl⟩, HB.out⟩
  have HZ := hidK hz0
  have hq9 : z.toList.isEmpty = false := isE_no hz0
  by_cases hzt : z = t
  · have hq8 := tl_yes hzt
    have HT := hidK hzt
    clear hzt hz0
    go_wp2_with fail
    go_ret
    exact ⟨true, rfl, ⟨fun _ => ⟨h0.out, h1.out, .inr HT.out⟩, fun _ => rfl⟩, HB.out⟩
  · have hq8 := tl_no hzt
    have HT := hidK hzt
    clear hzt hz0
    go_wp2_with fail
    go_ret
    exact ⟨false, rfl, ⟨fun h => (by cases h), fun h => (h.2.2.elim HZ.out HT.out).elim⟩, HB.out⟩

end Go.Proofs.Ytjkgpkgbaapdmaa

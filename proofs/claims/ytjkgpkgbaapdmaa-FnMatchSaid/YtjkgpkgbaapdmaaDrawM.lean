/-
  The draws of stage 4: out of some bytes.
-/
import Derived.Test.YtjkgpkgbaapdmaaDrawV
import Derived.Deep.RegionWith
namespace Go.Proofs.Ytjkgpkgbaapdmaa
open Go.RowKit
namespace Dk

theorem Src.drew {B : Nat} {w0 : World} {p : Nat} {v : Value} {len : Nat} {w : World} (h : Src B w0 p v len w) : Src B w0 p v len w.drew := h.keep (row := none) ⟨rfl, rfl, rfl, Nat.le_refl _, fun _ _ _ => rfl⟩ (by simp) (fun k hk => by cases hk)
theorem RowIn.up {B B' : Nat} {w : World} {v : Value} {len : Nat} (h : RowIn B w v len) (hB : B ≤ B') : RowIn B' w v len := by
  obtain ⟨h1, a0, cap, h2, h3⟩ := h
  exact ⟨h1, a0, cap, h2, fun j hj => by obtain ⟨b, off, z, h4, h5, h6⟩ := h3 j hj; exact ⟨b, off, z, h4, by omega, h6⟩⟩
def DrewKZ (w : World) (e : Ending) (w' : World) : Prop := ∃ n x y z t, e = .returned (.tuple #[.agg #[.string n, .bool x, .bool y, .string z], .string t]) ∧ n.size ≤ 100 ∧ z.size ≤ 100 ∧ t.size ≤ 100 ∧ Below w.heap.size w w'

set_option maxHeartbeats 3200000 in
theorem drawMay_any (v : Value) (len : Nat) (w : World) (hR : RowIn w.heap.size w v len) : Calls Try.prog 13 #[v] w (DrewKZ w) := by
  have hb0 := below1 w (.cells #[.string ⟨#[]⟩, .bool false, .bool false, .string ⟨#[]⟩] 37)
  have HR := hidK (RowIn.up (hR.below hb0) hb0.size)
  have HG : Hid ((w.alloc (.cells #[.string ⟨#[]⟩, .bool false, .bool false, .string ⟨#[]⟩] 37)).heap[w.heap.size]? = some (.cells #[.string ⟨#[]⟩, .bool false, .bool false, .string ⟨#[]⟩] 37 (0, 0))) := Array.getElem?_push_size
  have HB0 := hidK hb0
  clear hR hb0
  go_enter Try.func13, Try.ntmps13
  go_wp2_with fail
  refine (source_any v len _ HR.out).mono ?_
  rintro e w1 ⟨p, rfl, hs1⟩
  have HS1 := hidK hs1
  clear hs1
  go_wp2_with fail
  refine (class_any HS1.out).mono ?_
  rintro e w2 ⟨n, x, y, z, rfl, hn, hz, hd⟩
  have HD := hidK hd
  have hp1 := HS1.out.plt
  have hp0 := HS1.out.1
  have h12 := hd.gr.size
  have HG2 := hidK ((hd.src.2.2.1.block _ (lt_of_some HG.out)).trans HG.out)
  clear hd
  have HS3 := hidK (HD.out.alloc (.cells #[.string n, .bool x, .bool y, .string z] 37)).src
  have H5 : Hid ((w2.alloc (.cells #[.string n, .bool x, .bool y, .string z] 37)).heap[w2.heap.size]? = some (.cells #[.string n, .bool x, .bool y, .string z] 37 (0, 0))) := Array.getElem?_push_size
  have H2 := hidK ((Below.heap_alloc w2 (.cells #[.string n, .bool x, .bool y, .string z] 37) _ (lt_of_some HG2.out)).trans HG2.out)
  have hw0 : w.heap.size < p := by have := HB0.out.size; simp at hp0; omega
  go_wp2_with fail
  generalize (w2.alloc (.cells #[.string n, .bool x, .bool y, .string z] 37)) = W3 at HS3 H5 H2 ⊢
  have q5 := H5.out
  have q2 := H2.out
  have a0 : W3.cell? ⟨w2.heap.size, 0, none⟩ = some (.string n) := cellK q5 0
  have a1 : W3.cell? ⟨w2.heap.size, 1, none⟩ = some (.bool x) := cellK q5 1
  have a2 : W3.cell? ⟨w2.heap.size, 2, none⟩ = some (.bool y) := cellK q5 2
  have a3 : W3.cell? ⟨w2.heap.size, 3, none⟩ = some (.string z) := cellK q5 3
  clear q5 q2
  go_region_with (first | (go_at_call 41; refine (zone4_any (Src.drew HS3.out)).mono ?_; rintro e wz ⟨tz, rfl, htz, hsz, hgz⟩; have g5 := gk hgz (by omega) (show W3.drew.heap[w2.heap.size]? = _ from H5.out); have g2 := gk hgz (by omega) (show W3.drew.heap[w.heap.size]? = _ from H2.out); have y0 : wz.cell? ⟨w2.heap.size, 0, none⟩ = some (.string n) := cellK g5 0; have y1 : wz.cell? ⟨w2.heap.size, 1, none⟩ = some (.bool x) := cellK g5 1; have y2 : wz.cell? ⟨w2.heap.size, 2, none⟩ = some (.bool y) := cellK g5 2; have y3 : wz.cell? ⟨w2.heap.size, 3, none⟩ = some (.string z) := cellK g5 3; have z0 : wz.cell? ⟨w.heap.size, 0, none⟩ = some (.string ⟨#[]⟩) := cellK g2 0; have zf0 : wz.frozen? ⟨w.heap.size, 0, none⟩ = false := froK g2 0; have z1 : wz.cell? ⟨w.heap.size, 1, none⟩ = some (.bool false) := cellK g2 1; have zf1 : wz.frozen? ⟨w.heap.size, 1, none⟩ = false := froK g2 1; have z2 : wz.cell? ⟨w.heap.size, 2, none⟩ = some (.bool false) := cellK g2 2; have zf2 : wz.frozen? ⟨w.heap.size, 2, none⟩ = false := froK g2 2; have z3 : wz.cell? ⟨w.heap.size, 3, none⟩ = some (.string ⟨#[]⟩) := cellK g2 3; have zf3 : wz.frozen? ⟨w.heap.size, 3, none⟩ = false := froK g2 3; have HBZ := hidK (HB0.out.trans (hsz.2.2.1.mono HB0.out.size)); clear g5 g2 hsz hgz))
  all_goals (
    go_wp2_with fail
    exact bodyPost_ret (v := .tuple #[.agg #[.string n, .bool x, .bool y, .string z], .string tz]) (by simp [results, Try.results13, go_sem, *]) rfl ⟨n, x, y, z, tz, rfl, hn, hz, htz, set_below (Nat.le_refl _) (set_below (Nat.le_refl _) (set_below (Nat.le_refl _) (set_below (Nat.le_refl _) HBZ.out)))⟩)

end Dk
end Go.Proofs.Ytjkgpkgbaapdmaa

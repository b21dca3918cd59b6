/-
  The draw for MakeFor.
-/
import Derived.Test.YtjkgpkgbaapdmaaDrawM
namespace Go.Proofs.Ytjkgpkgbaapdmaa
open Go.RowKit
namespace Dk

def DrewCKZ (w : World) (e : Ending) (w' : World) : Prop :=
  ∃ n' c' k' x' u' n x y z t, e = .returned (.tuple #[.agg #[.string n', .int .i64 c', .string k', .bool x', .string u'], .agg #[.string n, .bool x, .bool y, .string z], .string t]) ∧ (n'.size ≤ 100 ∧ k'.size ≤ 100 ∧ u'.size ≤ 100 ∧ t.size ≤ 100) ∧ (n.size ≤ 100 ∧ z.size ≤ 100) ∧ Below w.heap.size w w'
/-- The state behind the draws: the claim at b6, the class at b7, the answer's two places as they were laid. -/
structure MkS (w W : World) (v : Value) (len p b6 b7 : Nat) (n' : ByteArray) (c' : Int) (k' : ByteArray) (x' : Bool) (u' n : ByteArray) (x y : Bool) (z : ByteArray) (X : World) : Prop where
  src : Src W.heap.size W p v len X
  c6 : X.heap[b6]? = some (.cells #[.string n', .int .i64 c', .string k', .bool x', .string u'] 25 (0, 0))
  c7 : X.heap[b7]? = some (.cells #[.string n, .bool x, .bool y, .string z] 37 (0, 0))
  s : n'.size ≤ 100 ∧ k'.size ≤ 100 ∧ u'.size ≤ 100
theorem MkS.next {w W : World} {v : Value} {len p b6 b7 : Nat} {n' : ByteArray} {c' : Int} {k' : ByteArray} {x' : Bool} {u' n : ByteArray} {x y : Bool} {z : ByteArray} {X X' : World} (h : MkS w W v len p b6 b7 n' c' k' x' u' n x y z X) (h6 : ¬ b6 = p) (h7 : ¬ b7 = p) (hs : Src W.heap.size W p v len X') (hg : X.grownBy X' (some p)) : MkS w W v len p b6 b7 n' c' k' x' u' n x y z X' :=
  ⟨hs, gk hg h6 h.c6, gk hg h7 h.c7, h.s⟩
theorem MkS.set {w W : World} {v : Value} {len p b6 b7 : Nat} {n' : ByteArray} {c' : Int} {k' : ByteArray} {x' : Bool} {u' n : ByteArray} {x y : Bool} {z : ByteArray} {X : World} (h : MkS w W v len p b6 b7 n' c' k' x' u' n x y z X) (h6 : ¬ b6 = p) (h67 : ¬ b7 = b6) (hB : W.heap.size ≤ b6) :
    (∀ s : ByteArray, s.size ≤ 100 → MkS w W v len p b6 b7 n' c' s x' u' n x y z (X.setCell ⟨b6, 2, none⟩ (.string s))) ∧ (∀ s : ByteArray, s.size ≤ 100 → MkS w W v len p b6 b7 s c' k' x' u' n x y z (X.setCell ⟨b6, 0, none⟩ (.string s))) := by
  have hk : ∀ i x, Src W.heap.size W p v len (X.setCell ⟨b6, i, none⟩ x) := fun i x => h.src.keep (grown_set X b6 i x) (fun e => by simp at e; omega) (fun k hk => by simp at hk; omega)
  exact ⟨fun s hs => ⟨hk _ _, block_set h.c6 _, (Below.heap_setCell _ _ _ _ h67).trans h.c7, h.s.1, hs, h.s.2.2⟩, fun s hs => ⟨hk _ _, block_set h.c6 _, (Below.heap_setCell _ _ _ _ h67).trans h.c7, hs, h.s.2.1, h.s.2.2⟩⟩

set_option maxHeartbeats 12800000 in
theorem drawMake_any (v : Value) (len : Nat) (w : World) (hR : RowIn w.heap.size w v len) : Calls Try.prog 11 #[v] w (DrewCKZ w) := by
  have hb0 := below2 w (.cells #[.string ⟨#[]⟩, .int .i64 0, .string ⟨#[]⟩, .bool false, .string ⟨#[]⟩] 25) (.cells #[.string ⟨#[]⟩, .bool false, .bool false, .string ⟨#[]⟩] 37)
  have HR := hidK (RowIn.up (hR.below hb0) hb0.size)
  have HGV := hidK (heap2_0 w (.cells #[.string ⟨#[]⟩, .int .i64 0, .string ⟨#[]⟩, .bool false, .string ⟨#[]⟩] 25) (.cells #[.string ⟨#[]⟩, .bool false, .bool false, .string ⟨#[]⟩] 37))
  have HGC := hidK (heap2_1 w (.cells #[.string ⟨#[]⟩, .int .i64 0, .string ⟨#[]⟩, .bool false, .string ⟨#[]⟩] 25) (.cells #[.string ⟨#[]⟩, .bool false, .bool false, .string ⟨#[]⟩] 37))
  have HB0 := hidK hb0
  clear hR hb0
  go_enter Try.func11, Try.ntmps11
  go_wp2_with fail
  refine (source_any v len _ HR.out).mono ?_
  rintro e w1 ⟨p, rfl, hs1⟩
  have HS1 := hidK hs1
  have hp1 := hs1.plt
  have hp0 : w.heap.size + 1 < p := by have := hs1.1; simp at this; omega
  have hW0 : ((w.alloc (.cells #[.string ⟨#[]⟩, .int .i64 0, .string ⟨#[]⟩, .bool false, .string ⟨#[]⟩] 25)).alloc (.cells #[.string ⟨#[]⟩, .bool false, .bool false, .string ⟨#[]⟩] 37)).heap.size = w.heap.size + 1 + 1 := by simp
  clear hs1
  go_wp2_with fail
  refine (claim_any HS1.out).mono ?_
  rintro e w2 ⟨n', c', k', x', u', rfl, hn', hk', hu', hd⟩
  have h12 := hd.gr.size
  have HDA := hidK (hd.alloc (.cells #[.string n', .int .i64 c', .string k', .bool x', .string u'] 25))
  have G6 : Hid ((w2.alloc (.cells #[.string n', .int .i64 c', .string k', .bool x', .string u'] 25)).heap[w2.heap.size]? = some (.cells #[.string n', .int .i64 c', .string k', .bool x', .string u'] 25 (0, 0))) := Array.getElem?_push_size
  clear hd
  go_wp2_with fail
  refine (class_any HDA.out.src).mono ?_
  rintro e w3 ⟨n, x, y, z, rfl, hn, hz, hd3⟩
  have h23 : w2.heap.size < w3.heap.size := by have := hd3.gr.size; simp at this; omega
  have HD3 := hidK (HDA.out.next hd3.src hd3.gr)
  have G63 := hidK (gk hd3.gr (by omega) G6.out)
  clear hd3 G6 HDA
  have HM : Hid (MkS w ((w.alloc (.cells #[.string ⟨#[]⟩, .int .i64 0, .string ⟨#[]⟩, .bool false, .string ⟨#[]⟩] 25)).alloc (.cells #[.string ⟨#[]⟩, .bool false, .bool false, .string ⟨#[]⟩] 37)) v len p w2.heap.size w3.heap.size n' c' k' x' u' n x y z (w3.alloc (.cells #[.string n, .bool x, .bool y, .string z] 37))) := ⟨(HD3.out.alloc (.cells #[.string n, .bool x, .bool y, .string z] 37)).src, (Below.heap_alloc w3 (.cells #[.string n, .bool x, .bool y, .string z] 37) _ h23).trans G63.out, Array.getElem?_push_size, hn', hk', hu'⟩
  clear G63 HD3
  go_wp2_with fail
  refine (one_any HM.out.src 4 (by decide)).mono ?_
  rintro e w4 ⟨he, hs, hg⟩
  have HM4 := hidK (HM.out.next (by omega) (by omega) hs hg)
  clear hs hg HM
  have q6 := HM4.out.c6
  have q7 := HM4.out.c7
  have a0 : w4.cell? ⟨w2.heap.size, 0, none⟩ = some (.string n') := cellK q6 0
  have af0 : w4.frozen? ⟨w2.heap.size, 0, none⟩ = false := froK q6 0
  have a1 : w4.cell? ⟨w2.heap.size, 1, none⟩ = some (.int .i64 c') := cellK q6 1
  have af1 : w4.frozen? ⟨w2.heap.size, 1, none⟩ = false := froK q6 1
  have a2 : w4.cell? ⟨w2.heap.size, 2, none⟩ = some (.string k') := cellK q6 2
  have af2 : w4.frozen? ⟨w2.heap.size, 2, none⟩ = false := froK q6 2
  have a3 : w4.cell? ⟨w2.heap.size, 3, none⟩ = some (.bool x') := cellK q6 3
  have af3 : w4.frozen? ⟨w2.heap.size, 3, none⟩ = false := froK q6 3
  have a4 : w4.cell? ⟨w2.heap.size, 4, none⟩ = some (.string u') := cellK q6 4
  have af4 : w4.frozen? ⟨w2.heap.size, 4, none⟩ = false := froK q6 4
  have b0 : w4.cell? ⟨w3.heap.size, 0, none⟩ = some (.string n) := cellK q7 0
  have b1 : w4.cell? ⟨w3.heap.size, 1, none⟩ = some (.bool x) := cellK q7 1
  have b2 : w4.cell? ⟨w3.heap.size, 2, none⟩ = some (.bool y) := cellK q7 2
  have b3 : w4.cell? ⟨w3.heap.size, 3, none⟩ = some (.string z) := cellK q7 3
  clear q6 q7
  rcases he with rfl | rfl
  · skip
    go_wp2_with fail
    refine (one_any HM4.out.src 12 (by decide)).mono ?_
    rintro e w5 ⟨he, hs, hg⟩
    have HM5 := hidK (HM4.out.next (by omega) (by omega) hs hg)
    clear hs hg
    have q6 := HM5.out.c6
    have q7 := HM5.out.c7
    clear a0 af0 a1 af1 a2 af2 a3 af3 a4 af4 b0 b1 b2 b3
    have a0 : w5.cell? ⟨w2.heap.size, 0, none⟩ = some (.string n') := cellK q6 0
    have af0 : w5.frozen? ⟨w2.heap.size, 0, none⟩ = false := froK q6 0
    have a1 : w5.cell? ⟨w2.heap.size, 1, none⟩ = some (.int .i64 c') := cellK q6 1
    have af1 : w5.frozen? ⟨w2.heap.size, 1, none⟩ = false := froK q6 1
    have a2 : w5.cell? ⟨w2.heap.size, 2, none⟩ = some (.string k') := cellK q6 2
    have af2 : w5.frozen? ⟨w2.heap.size, 2, none⟩ = false := froK q6 2
    have a3 : w5.cell? ⟨w2.heap.size, 3, none⟩ = some (.bool x') := cellK q6 3
    have af3 : w5.frozen? ⟨w2.heap.size, 3, none⟩ = false := froK q6 3
    have a4 : w5.cell? ⟨w2.heap.size, 4, none⟩ = some (.string u') := cellK q6 4
    have af4 : w5.frozen? ⟨w2.heap.size, 4, none⟩ = false := froK q6 4
    have b0 : w5.cell? ⟨w3.heap.size, 0, none⟩ = some (.string n) := cellK q7 0
    have b1 : w5.cell? ⟨w3.heap.size, 1, none⟩ = some (.bool x) := cellK q7 1
    have b2 : w5.cell? ⟨w3.heap.size, 2, none⟩ = some (.bool y) := cellK q7 2
    have b3 : w5.cell? ⟨w3.heap.size, 3, none⟩ = some (.string z) := cellK q7 3
    clear q6 q7
    rcases he with rfl | rfl
    · go_wp2_with fail
      refine (pick_new HM5.out.src [⟨#[97, 50, 51, 52, 53, 54, 55, 56, 57, 48, 49, 50, 51, 52, 53, 54, 55, 56]⟩, ⟨#[97, 50, 51, 52, 53, 54, 55, 56, 57, 48, 49, 50, 51, 52, 53, 54, 55, 56, 57]⟩] 2 _ _ (by simp) rfl (by decide) (by decide) (by decide)).mono ?_
      rintro e w6 ⟨t6, rfl, ht6, hs, hg⟩
      have HM6 := hidK (((HM5.out.next (by omega) (by omega) hs hg).set (by omega) (by omega) (by omega)).2 t6 ht6)
      have q6 := gk hg (by omega) HM5.out.c6
      have q7 := gk hg (by omega) HM5.out.c7
      clear hs hg a0 af0 a1 af1 a2 af2 a3 af3 a4 af4 b0 b1 b2 b3
      have a0 : w6.cell? ⟨w2.heap.size, 0, none⟩ = some (.string n') := cellK q6 0
      have af0 : w6.frozen? ⟨w2.heap.size, 0, none⟩ = false := froK q6 0
      have a1 : w6.cell? ⟨w2.heap.size, 1, none⟩ = some (.int .i64 c') := cellK q6 1
      have af1 : w6.frozen? ⟨w2.heap.size, 1, none⟩ = false := froK q6 1
      have a2 : w6.cell? ⟨w2.heap.size, 2, none⟩ = some (.string k') := cellK q6 2
      have af2 : w6.frozen? ⟨w2.heap.size, 2, none⟩ = false := froK q6 2
      have a3 : w6.cell? ⟨w2.heap.size, 3, none⟩ = some (.bool x') := cellK q6 3
      have af3 : w6.frozen? ⟨w2.heap.size, 3, none⟩ = false := froK q6 3
      have a4 : w6.cell? ⟨w2.heap.size, 4, none⟩ = some (.string u') := cellK q6 4
      have af4 : w6.frozen? ⟨w2.heap.size, 4, none⟩ = false := froK q6 4
      clear q6 q7
      go_wp2_with fail
      have HM := HM6
      clear HM6
      clear a0 af0 a1 af1 a2 af2 a3 af3 a4 af4
      generalize (w6.setCell ⟨w2.heap.size, 0, none⟩ (.string t6)) = WR at HM ⊢
      have HSR := hidK HM.out.src
      have q6 := HM.out.c6
      have q7 := HM.out.c7
      have a0 : WR.cell? ⟨w2.heap.size, 0, none⟩ = some (.string t6) := cellK q6 0
      have a1 : WR.cell? ⟨w2.heap.size, 1, none⟩ = some (.int .i64 c') := cellK q6 1
      have a2 : WR.cell? ⟨w2.heap.size, 2, none⟩ = some (.string k') := cellK q6 2
      have a3 : WR.cell? ⟨w2.heap.size, 3, none⟩ = some (.bool x') := cellK q6 3
      have a4 : WR.cell? ⟨w2.heap.size, 4, none⟩ = some (.string u') := cellK q6 4
      have b0 : WR.cell? ⟨w3.heap.size, 0, none⟩ = some (.string n) := cellK q7 0
      have b1 : WR.cell? ⟨w3.heap.size, 1, none⟩ = some (.bool x) := cellK q7 1
      have b2 : WR.cell? ⟨w3.heap.size, 2, none⟩ = some (.bool y) := cellK q7 2
      have b3 : WR.cell? ⟨w3.heap.size, 3, none⟩ = some (.string z) := cellK q7 3
      clear q6 q7
      go_region_with (first | (go_at_call 41; refine (zone4_any (Src.drew HSR.out)).mono ?_; rintro e wz ⟨tz, rfl, htz, hsz, hgz⟩; have m2 := HM.out.next (by omega) (by omega) hsz (show WR.grownBy wz (some p) from ⟨hgz.os, hgz.tape, hgz.output, hgz.size, hgz.block⟩); have gv := (hsz.2.2.1.block _ (lt_of_some HGV.out)).trans HGV.out; have gc := (hsz.2.2.1.block _ (lt_of_some HGC.out)).trans HGC.out; have g6 := m2.c6; have g7 := m2.c7; have y0 : wz.cell? ⟨w2.heap.size, 0, none⟩ = some (.string t6) := cellK g6 0; have y1 : wz.cell? ⟨w2.heap.size, 1, none⟩ = some (.int .i64 c') := cellK g6 1; have y2 : wz.cell? ⟨w2.heap.size, 2, none⟩ = some (.string k') := cellK g6 2; have y3 : wz.cell? ⟨w2.heap.size, 3, none⟩ = some (.bool x') := cellK g6 3; have y4 : wz.cell? ⟨w2.heap.size, 4, none⟩ = some (.string u') := cellK g6 4; have s0 : wz.cell? ⟨w3.heap.size, 0, none⟩ = some (.string n) := cellK g7 0; have s1 : wz.cell? ⟨w3.heap.size, 1, none⟩ = some (.bool x) := cellK g7 1; have s2 : wz.cell? ⟨w3.heap.size, 2, none⟩ = some (.bool y) := cellK g7 2; have s3 : wz.cell? ⟨w3.heap.size, 3, none⟩ = some (.string z) := cellK g7 3; have z0 : wz.cell? ⟨w.heap.size, 0, none⟩ = some (.string ⟨#[]⟩) := cellK gv 0; have zf0 : wz.frozen? ⟨w.heap.size, 0, none⟩ = false := froK gv 0; have z1 : wz.cell? ⟨w.heap.size, 1, none⟩ = some (.int .i64 0) := cellK gv 1; have zf1 : wz.frozen? ⟨w.heap.size, 1, none⟩ = false := froK gv 1; have z2 : wz.cell? ⟨w.heap.size, 2, none⟩ = some (.string ⟨#[]⟩) := cellK gv 2; have zf2 : wz.frozen? ⟨w.heap.size, 2, none⟩ = false := froK gv 2; have z3 : wz.cell? ⟨w.heap.size, 3, none⟩ = some (.bool false) := cellK gv 3; have zf3 : wz.frozen? ⟨w.heap.size, 3, none⟩ = false := froK gv 3; have z4 : wz.cell? ⟨w.heap.size, 4, none⟩ = some (.string ⟨#[]⟩) := cellK gv 4; have zf4 : wz.frozen? ⟨w.heap.size, 4, none⟩ = false := froK gv 4; have o0 : wz.cell? ⟨w.heap.size + 1, 0, none⟩ = some (.string ⟨#[]⟩) := cellK gc 0; have of0 : wz.frozen? ⟨w.heap.size + 1, 0, none⟩ = false := froK gc 0; have o1 : wz.cell? ⟨w.heap.size + 1, 1, none⟩ = some (.bool false) := cellK gc 1; have of1 : wz.frozen? ⟨w.heap.size + 1, 1, none⟩ = false := froK gc 1; have o2 : wz.cell? ⟨w.heap.size + 1, 2, none⟩ = some (.bool false) := cellK gc 2; have of2 : wz.frozen? ⟨w.heap.size + 1, 2, none⟩ = false := froK gc 2; have o3 : wz.cell? ⟨w.heap.size + 1, 3, none⟩ = some (.string ⟨#[]⟩) := cellK gc 3; have of3 : wz.frozen? ⟨w.heap.size + 1, 3, none⟩ = false := froK gc 3; have HBZ := hidK (HB0.out.trans (hsz.2.2.1.mono HB0.out.size)); clear m2 g6 g7 gv gc hsz hgz))
      all_goals (
        go_wp2_with fail
        exact bodyPost_ret (v := .tuple #[.agg #[.string t6, .int .i64 c', .string k', .bool x', .string u'], .agg #[.string n, .bool x, .bool y, .string z], .string tz]) (by simp [results, Try.results11, go_sem, *]) rfl ⟨_, _, _, _, _, n, x, y, z, tz, rfl, ⟨HM.out.s.1, HM.out.s.2.1, HM.out.s.2.2, htz⟩, ⟨hn, hz⟩, set_below (by omega) (set_below (by omega) (set_below (by omega) (set_below (by omega) (set_below (Nat.le_refl _) (set_below (Nat.le_refl _) (set_below (Nat.le_refl _) (set_below (Nat.le_refl _) (set_below (Nat.le_refl _) (HBZ.out)))))))))⟩)
    · go_wp2_with fail
      have HM := HM5
      clear HM5
      clear a0 af0 a1 af1 a2 af2 a3 af3 a4 af4 b0 b1 b2 b3
      generalize w5 = WR at HM ⊢
      have HSR := hidK HM.out.src
      have q6 := HM.out.c6
      have q7 := HM.out.c7
      have a0 : WR.cell? ⟨w2.heap.size, 0, none⟩ = some (.string n') := cellK q6 0
      have a1 : WR.cell? ⟨w2.heap.size, 1, none⟩ = some (.int .i64 c') := cellK q6 1
      have a2 : WR.cell? ⟨w2.heap.size, 2, none⟩ = some (.string k') := cellK q6 2
      have a3 : WR.cell? ⟨w2.heap.size, 3, none⟩ = some (.bool x') := cellK q6 3
      have a4 : WR.cell? ⟨w2.heap.size, 4, none⟩ = some (.string u') := cellK q6 4
      have b0 : WR.cell? ⟨w3.heap.size, 0, none⟩ = some (.string n) := cellK q7 0
      have b1 : WR.cell? ⟨w3.heap.size, 1, none⟩ = some (.bool x) := cellK q7 1
      have b2 : WR.cell? ⟨w3.heap.size, 2, none⟩ = some (.bool y) := cellK q7 2
      have b3 : WR.cell? ⟨w3.heap.size, 3, none⟩ = some (.string z) := cellK q7 3
      clear q6 q7
      go_region_with (first | (go_at_call 41; refine (zone4_any (Src.drew HSR.out)).mono ?_; rintro e wz ⟨tz, rfl, htz, hsz, hgz⟩; have m2 := HM.out.next (by omega) (by omega) hsz (show WR.grownBy wz (some p) from ⟨hgz.os, hgz.tape, hgz.output, hgz.size, hgz.block⟩); have gv := (hsz.2.2.1.block _ (lt_of_some HGV.out)).trans HGV.out; have gc := (hsz.2.2.1.block _ (lt_of_some HGC.out)).trans HGC.out; have g6 := m2.c6; have g7 := m2.c7; have y0 : wz.cell? ⟨w2.heap.size, 0, none⟩ = some (.string n') := cellK g6 0; have y1 : wz.cell? ⟨w2.heap.size, 1, none⟩ = some (.int .i64 c') := cellK g6 1; have y2 : wz.cell? ⟨w2.heap.size, 2, none⟩ = some (.string k') := cellK g6 2; have y3 : wz.cell? ⟨w2.heap.size, 3, none⟩ = some (.bool x') := cellK g6 3; have y4 : wz.cell? ⟨w2.heap.size, 4, none⟩ = some (.string u') := cellK g6 4; have s0 : wz.cell? ⟨w3.heap.size, 0, none⟩ = some (.string n) := cellK g7 0; have s1 : wz.cell? ⟨w3.heap.size, 1, none⟩ = some (.bool x) := cellK g7 1; have s2 : wz.cell? ⟨w3.heap.size, 2, none⟩ = some (.bool y) := cellK g7 2; have s3 : wz.cell? ⟨w3.heap.size, 3, none⟩ = some (.string z) := cellK g7 3; have z0 : wz.cell? ⟨w.heap.size, 0, none⟩ = some (.string ⟨#[]⟩) := cellK gv 0; have zf0 : wz.frozen? ⟨w.heap.size, 0, none⟩ = false := froK gv 0; have z1 : wz.cell? ⟨w.heap.size, 1, none⟩ = some (.int .i64 0) := cellK gv 1; have zf1 : wz.frozen? ⟨w.heap.size, 1, none⟩ = false := froK gv 1; have z2 : wz.cell? ⟨w.heap.size, 2, none⟩ = some (.string ⟨#[]⟩) := cellK gv 2; have zf2 : wz.frozen? ⟨w.heap.size, 2, none⟩ = false := froK gv 2; have z3 : wz.cell? ⟨w.heap.size, 3, none⟩ = some (.bool false) := cellK gv 3; have zf3 : wz.frozen? ⟨w.heap.size, 3, none⟩ = false := froK gv 3; have z4 : wz.cell? ⟨w.heap.size, 4, none⟩ = some (.string ⟨#[]⟩) := cellK gv 4; have zf4 : wz.frozen? ⟨w.heap.size, 4, none⟩ = false := froK gv 4; have o0 : wz.cell? ⟨w.heap.size + 1, 0, none⟩ = some (.string ⟨#[]⟩) := cellK gc 0; have of0 : wz.frozen? ⟨w.heap.size + 1, 0, none⟩ = false := froK gc 0; have o1 : wz.cell? ⟨w.heap.size + 1, 1, none⟩ = some (.bool false) := cellK gc 1; have of1 : wz.frozen? ⟨w.heap.size + 1, 1, none⟩ = false := froK gc 1; have o2 : wz.cell? ⟨w.heap.size + 1, 2, none⟩ = some (.bool false) := cellK gc 2; have of2 : wz.frozen? ⟨w.heap.size + 1, 2, none⟩ = false := froK gc 2; have o3 : wz.cell? ⟨w.heap.size + 1, 3, none⟩ = some (.string ⟨#[]⟩) := cellK gc 3; have of3 : wz.frozen? ⟨w.heap.size + 1, 3, none⟩ = false := froK gc 3; have HBZ := hidK (HB0.out.trans (hsz.2.2.1.mono HB0.out.size)); clear m2 g6 g7 gv gc hsz hgz))
      all_goals (
        go_wp2_with fail
        exact bodyPost_ret (v := .tuple #[.agg #[.string n', .int .i64 c', .string k', .bool x', .string u'], .agg #[.string n, .bool x, .bool y, .string z], .string tz]) (by simp [results, Try.results11, go_sem, *]) rfl ⟨_, _, _, _, _, n, x, y, z, tz, rfl, ⟨HM.out.s.1, HM.out.s.2.1, HM.out.s.2.2, htz⟩, ⟨hn, hz⟩, set_below (by omega) (set_below (by omega) (set_below (by omega) (set_below (by omega) (set_below (Nat.le_refl _) (set_below (Nat.le_refl _) (set_below (Nat.le_refl _) (set_below (Nat.le_refl _) (set_below (Nat.le_refl _) (HBZ.out)))))))))⟩)
  · have HM4s := hidK ((HM4.out.set (by omega) (by omega) (by omega)).1 n hn)
    go_wp2_with fail
    generalize (w4.setCell ⟨w2.heap.size, 2, none⟩ (.string n)) = W4 at HM4s ⊢
    go_wp2_with fail
    refine (one_any HM4s.out.src 12 (by decide)).mono ?_
    rintro e w5 ⟨he, hs, hg⟩
    have HM5 := hidK (HM4s.out.next (by omega) (by omega) hs hg)
    clear hs hg
    have q6 := HM5.out.c6
    have q7 := HM5.out.c7
    clear a0 af0 a1 af1 a2 af2 a3 af3 a4 af4 b0 b1 b2 b3
    have a0 : w5.cell? ⟨w2.heap.size, 0, none⟩ = some (.string n') := cellK q6 0
    have af0 : w5.frozen? ⟨w2.heap.size, 0, none⟩ = false := froK q6 0
    have a1 : w5.cell? ⟨w2.heap.size, 1, none⟩ = some (.int .i64 c') := cellK q6 1
    have af1 : w5.frozen? ⟨w2.heap.size, 1, none⟩ = false := froK q6 1
    have a2 : w5.cell? ⟨w2.heap.size, 2, none⟩ = some (.string n) := cellK q6 2
    have af2 : w5.frozen? ⟨w2.heap.size, 2, none⟩ = false := froK q6 2
    have a3 : w5.cell? ⟨w2.heap.size, 3, none⟩ = some (.bool x') := cellK q6 3
    have af3 : w5.frozen? ⟨w2.heap.size, 3, none⟩ = false := froK q6 3
    have a4 : w5.cell? ⟨w2.heap.size, 4, none⟩ = some (.string u') := cellK q6 4
    have af4 : w5.frozen? ⟨w2.heap.size, 4, none⟩ = false := froK q6 4
    have b0 : w5.cell? ⟨w3.heap.size, 0, none⟩ = some (.string n) := cellK q7 0
    have b1 : w5.cell? ⟨w3.heap.size, 1, none⟩ = some (.bool x) := cellK q7 1
    have b2 : w5.cell? ⟨w3.heap.size, 2, none⟩ = some (.bool y) := cellK q7 2
    have b3 : w5.cell? ⟨w3.heap.size, 3, none⟩ = some (.string z) := cellK q7 3
    clear q6 q7
    rcases he with rfl | rfl
    · go_wp2_with fail
      refine (pick_new HM5.out.src [⟨#[97, 50, 51, 52, 53, 54, 55, 56, 57, 48, 49, 50, 51, 52, 53, 54, 55, 56]⟩, ⟨#[97, 50, 51, 52, 53, 54, 55, 56, 57, 48, 49, 50, 51, 52, 53, 54, 55, 56, 57]⟩] 2 _ _ (by simp) rfl (by decide) (by decide) (by decide)).mono ?_
      rintro e w6 ⟨t6, rfl, ht6, hs, hg⟩
      have HM6 := hidK (((HM5.out.next (by omega) (by omega) hs hg).set (by omega) (by omega) (by omega)).2 t6 ht6)
      have q6 := gk hg (by omega) HM5.out.c6
      have q7 := gk hg (by omega) HM5.out.c7
      clear hs hg a0 af0 a1 af1 a2 af2 a3 af3 a4 af4 b0 b1 b2 b3
      have a0 : w6.cell? ⟨w2.heap.size, 0, none⟩ = some (.string n') := cellK q6 0
      have af0 : w6.frozen? ⟨w2.heap.size, 0, none⟩ = false := froK q6 0
      have a1 : w6.cell? ⟨w2.heap.size, 1, none⟩ = some (.int .i64 c') := cellK q6 1
      have af1 : w6.frozen? ⟨w2.heap.size, 1, none⟩ = false := froK q6 1
      have a2 : w6.cell? ⟨w2.heap.size, 2, none⟩ = some (.string n) := cellK q6 2
      have af2 : w6.frozen? ⟨w2.heap.size, 2, none⟩ = false := froK q6 2
      have a3 : w6.cell? ⟨w2.heap.size, 3, none⟩ = some (.bool x') := cellK q6 3
      have af3 : w6.frozen? ⟨w2.heap.size, 3, none⟩ = false := froK q6 3
      have a4 : w6.cell? ⟨w2.heap.size, 4, none⟩ = some (.string u') := cellK q6 4
      have af4 : w6.frozen? ⟨w2.heap.size, 4, none⟩ = false := froK q6 4
      clear q6 q7
      go_wp2_with fail
      have HM := HM6
      clear HM6
      clear a0 af0 a1 af1 a2 af2 a3 af3 a4 af4
      generalize (w6.setCell ⟨w2.heap.size, 0, none⟩ (.string t6)) = WR at HM ⊢
      have HSR := hidK HM.out.src
      have q6 := HM.out.c6
      have q7 := HM.out.c7
      have a0 : WR.cell? ⟨w2.heap.size, 0, none⟩ = some (.string t6) := cellK q6 0
      have a1 : WR.cell? ⟨w2.heap.size, 1, none⟩ = some (.int .i64 c') := cellK q6 1
      have a2 : WR.cell? ⟨w2.heap.size, 2, none⟩ = some (.string n) := cellK q6 2
      have a3 : WR.cell? ⟨w2.heap.size, 3, none⟩ = some (.bool x') := cellK q6 3
      have a4 : WR.cell? ⟨w2.heap.size, 4, none⟩ = some (.string u') := cellK q6 4
      have b0 : WR.cell? ⟨w3.heap.size, 0, none⟩ = some (.string n) := cellK q7 0
      have b1 : WR.cell? ⟨w3.heap.size, 1, none⟩ = some (.bool x) := cellK q7 1
      have b2 : WR.cell? ⟨w3.heap.size, 2, none⟩ = some (.bool y) := cellK q7 2
      have b3 : WR.cell? ⟨w3.heap.size, 3, none⟩ = some (.string z) := cellK q7 3
      clear q6 q7
      go_region_with (first | (go_at_call 41; refine (zone4_any (Src.drew HSR.out)).mono ?_; rintro e wz ⟨tz, rfl, htz, hsz, hgz⟩; have m2 := HM.out.next (by omega) (by omega) hsz (show WR.grownBy wz (some p) from ⟨hgz.os, hgz.tape, hgz.output, hgz.size, hgz.block⟩); have gv := (hsz.2.2.1.block _ (lt_of_some HGV.out)).trans HGV.out; have gc := (hsz.2.2.1.block _ (lt_of_some HGC.out)).trans HGC.out; have g6 := m2.c6; have g7 := m2.c7; have y0 : wz.cell? ⟨w2.heap.size, 0, none⟩ = some (.string t6) := cellK g6 0; have y1 : wz.cell? ⟨w2.heap.size, 1, none⟩ = some (.int .i64 c') := cellK g6 1; have y2 : wz.cell? ⟨w2.heap.size, 2, none⟩ = some (.string n) := cellK g6 2; have y3 : wz.cell? ⟨w2.heap.size, 3, none⟩ = some (.bool x') := cellK g6 3; have y4 : wz.cell? ⟨w2.heap.size, 4, none⟩ = some (.string u') := cellK g6 4; have s0 : wz.cell? ⟨w3.heap.size, 0, none⟩ = some (.string n) := cellK g7 0; have s1 : wz.cell? ⟨w3.heap.size, 1, none⟩ = some (.bool x) := cellK g7 1; have s2 : wz.cell? ⟨w3.heap.size, 2, none⟩ = some (.bool y) := cellK g7 2; have s3 : wz.cell? ⟨w3.heap.size, 3, none⟩ = some (.string z) := cellK g7 3; have z0 : wz.cell? ⟨w.heap.size, 0, none⟩ = some (.string ⟨#[]⟩) := cellK gv 0; have zf0 : wz.frozen? ⟨w.heap.size, 0, none⟩ = false := froK gv 0; have z1 : wz.cell? ⟨w.heap.size, 1, none⟩ = some (.int .i64 0) := cellK gv 1; have zf1 : wz.frozen? ⟨w.heap.size, 1, none⟩ = false := froK gv 1; have z2 : wz.cell? ⟨w.heap.size, 2, none⟩ = some (.string ⟨#[]⟩) := cellK gv 2; have zf2 : wz.frozen? ⟨w.heap.size, 2, none⟩ = false := froK gv 2; have z3 : wz.cell? ⟨w.heap.size, 3, none⟩ = some (.bool false) := cellK gv 3; have zf3 : wz.frozen? ⟨w.heap.size, 3, none⟩ = false := froK gv 3; have z4 : wz.cell? ⟨w.heap.size, 4, none⟩ = some (.string ⟨#[]⟩) := cellK gv 4; have zf4 : wz.frozen? ⟨w.heap.size, 4, none⟩ = false := froK gv 4; have o0 : wz.cell? ⟨w.heap.size + 1, 0, none⟩ = some (.string ⟨#[]⟩) := cellK gc 0; have of0 : wz.frozen? ⟨w.heap.size + 1, 0, none⟩ = false := froK gc 0; have o1 : wz.cell? ⟨w.heap.size + 1, 1, none⟩ = some (.bool false) := cellK gc 1; have of1 : wz.frozen? ⟨w.heap.size + 1, 1, none⟩ = false := froK gc 1; have o2 : wz.cell? ⟨w.heap.size + 1, 2, none⟩ = some (.bool false) := cellK gc 2; have of2 : wz.frozen? ⟨w.heap.size + 1, 2, none⟩ = false := froK gc 2; have o3 : wz.cell? ⟨w.heap.size + 1, 3, none⟩ = some (.string ⟨#[]⟩) := cellK gc 3; have of3 : wz.frozen? ⟨w.heap.size + 1, 3, none⟩ = false := froK gc 3; have HBZ := hidK (HB0.out.trans (hsz.2.2.1.mono HB0.out.size)); clear m2 g6 g7 gv gc hsz hgz))
      all_goals (
        go_wp2_with fail
        exact bodyPost_ret (v := .tuple #[.agg #[.string t6, .int .i64 c', .string n, .bool x', .string u'], .agg #[.string n, .bool x, .bool y, .string z], .string tz]) (by simp [results, Try.results11, go_sem, *]) rfl ⟨_, _, _, _, _, n, x, y, z, tz, rfl, ⟨HM.out.s.1, HM.out.s.2.1, HM.out.s.2.2, htz⟩, ⟨hn, hz⟩, set_below (by omega) (set_below (by omega) (set_below (by omega) (set_below (by omega) (set_below (Nat.le_refl _) (set_below (Nat.le_refl _) (set_below (Nat.le_refl _) (set_below (Nat.le_refl _) (set_below (Nat.le_refl _) (HBZ.out)))))))))⟩)
    · go_wp2_with fail
      have HM := HM5
      clear HM5
      clear a0 af0 a1 af1 a2 af2 a3 af3 a4 af4 b0 b1 b2 b3
      generalize w5 = WR at HM ⊢
      have HSR := hidK HM.out.src
      have q6 := HM.out.c6
      have q7 := HM.out.c7
      have a0 : WR.cell? ⟨w2.heap.size, 0, none⟩ = some (.string n') := cellK q6 0
      have a1 : WR.cell? ⟨w2.heap.size, 1, none⟩ = some (.int .i64 c') := cellK q6 1
      have a2 : WR.cell? ⟨w2.heap.size, 2, none⟩ = some (.string n) := cellK q6 2
      have a3 : WR.cell? ⟨w2.heap.size, 3, none⟩ = some (.bool x') := cellK q6 3
      have a4 : WR.cell? ⟨w2.heap.size, 4, none⟩ = some (.string u') := cellK q6 4
      have b0 : WR.cell? ⟨w3.heap.size, 0, none⟩ = some (.string n) := cellK q7 0
      have b1 : WR.cell? ⟨w3.heap.size, 1, none⟩ = some (.bool x) := cellK q7 1
      have b2 : WR.cell? ⟨w3.heap.size, 2, none⟩ = some (.bool y) := cellK q7 2
      have b3 : WR.cell? ⟨w3.heap.size, 3, none⟩ = some (.string z) := cellK q7 3
      clear q6 q7
      go_region_with (first | (go_at_call 41; refine (zone4_any (Src.drew HSR.out)).mono ?_; rintro e wz ⟨tz, rfl, htz, hsz, hgz⟩; have m2 := HM.out.next (by omega) (by omega) hsz (show WR.grownBy wz (some p) from ⟨hgz.os, hgz.tape, hgz.output, hgz.size, hgz.block⟩); have gv := (hsz.2.2.1.block _ (lt_of_some HGV.out)).trans HGV.out; have gc := (hsz.2.2.1.block _ (lt_of_some HGC.out)).trans HGC.out; have g6 := m2.c6; have g7 := m2.c7; have y0 : wz.cell? ⟨w2.heap.size, 0, none⟩ = some (.string n') := cellK g6 0; have y1 : wz.cell? ⟨w2.heap.size, 1, none⟩ = some (.int .i64 c') := cellK g6 1; have y2 : wz.cell? ⟨w2.heap.size, 2, none⟩ = some (.string n) := cellK g6 2; have y3 : wz.cell? ⟨w2.heap.size, 3, none⟩ = some (.bool x') := cellK g6 3; have y4 : wz.cell? ⟨w2.heap.size, 4, none⟩ = some (.string u') := cellK g6 4; have s0 : wz.cell? ⟨w3.heap.size, 0, none⟩ = some (.string n) := cellK g7 0; have s1 : wz.cell? ⟨w3.heap.size, 1, none⟩ = some (.bool x) := cellK g7 1; have s2 : wz.cell? ⟨w3.heap.size, 2, none⟩ = some (.bool y) := cellK g7 2; have s3 : wz.cell? ⟨w3.heap.size, 3, none⟩ = some (.string z) := cellK g7 3; have z0 : wz.cell? ⟨w.heap.size, 0, none⟩ = some (.string ⟨#[]⟩) := cellK gv 0; have zf0 : wz.frozen? ⟨w.heap.size, 0, none⟩ = false := froK gv 0; have z1 : wz.cell? ⟨w.heap.size, 1, none⟩ = some (.int .i64 0) := cellK gv 1; have zf1 : wz.frozen? ⟨w.heap.size, 1, none⟩ = false := froK gv 1; have z2 : wz.cell? ⟨w.heap.size, 2, none⟩ = some (.string ⟨#[]⟩) := cellK gv 2; have zf2 : wz.frozen? ⟨w.heap.size, 2, none⟩ = false := froK gv 2; have z3 : wz.cell? ⟨w.heap.size, 3, none⟩ = some (.bool false) := cellK gv 3; have zf3 : wz.frozen? ⟨w.heap.size, 3, none⟩ = false := froK gv 3; have z4 : wz.cell? ⟨w.heap.size, 4, none⟩ = some (.string ⟨#[]⟩) := cellK gv 4; have zf4 : wz.frozen? ⟨w.heap.size, 4, none⟩ = false := froK gv 4; have o0 : wz.cell? ⟨w.heap.size + 1, 0, none⟩ = some (.string ⟨#[]⟩) := cellK gc 0; have of0 : wz.frozen? ⟨w.heap.size + 1, 0, none⟩ = false := froK gc 0; have o1 : wz.cell? ⟨w.heap.size + 1, 1, none⟩ = some (.bool false) := cellK gc 1; have of1 : wz.frozen? ⟨w.heap.size + 1, 1, none⟩ = false := froK gc 1; have o2 : wz.cell? ⟨w.heap.size + 1, 2, none⟩ = some (.bool false) := cellK gc 2; have of2 : wz.frozen? ⟨w.heap.size + 1, 2, none⟩ = false := froK gc 2; have o3 : wz.cell? ⟨w.heap.size + 1, 3, none⟩ = some (.string ⟨#[]⟩) := cellK gc 3; have of3 : wz.frozen? ⟨w.heap.size + 1, 3, none⟩ = false := froK gc 3; have HBZ := hidK (HB0.out.trans (hsz.2.2.1.mono HB0.out.size)); clear m2 g6 g7 gv gc hsz hgz))
      all_goals (
        go_wp2_with fail
        exact bodyPost_ret (v := .tuple #[.agg #[.string n', .int .i64 c', .string n, .bool x', .string u'], .agg #[.string n, .bool x, .bool y, .string z], .string tz]) (by simp [results, Try.results11, go_sem, *]) rfl ⟨_, _, _, _, _, n, x, y, z, tz, rfl, ⟨HM.out.s.1, HM.out.s.2.1, HM.out.s.2.2, htz⟩, ⟨hn, hz⟩, set_below (by omega) (set_below (by omega) (set_below (by omega) (set_below (by omega) (set_below (Nat.le_refl _) (set_below (Nat.le_refl _) (set_below (Nat.le_refl _) (set_below (Nat.le_refl _) (set_below (Nat.le_refl _) (HBZ.out)))))))))⟩)

end Dk
end Go.Proofs.Ytjkgpkgbaapdmaa

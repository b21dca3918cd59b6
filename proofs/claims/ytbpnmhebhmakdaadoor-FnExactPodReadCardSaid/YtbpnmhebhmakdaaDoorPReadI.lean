/-
  PodRead of the program.
-/
import Derived.Test.YtbpnmhebhmakdaaDoorPApp
import Derived.Test.YtbpnmhebhmakdaaDoorGrow
namespace Go.Proofs.YtbpnmhebhmakdaaDoor
open Go.RowKit

def NamesAt (zs : List ByteArray) (W : World) (v : Value) (w : World) : Prop := ∃ a l c, v = .slice a l c ∧ TxRow w a l c zs ∧ (a = none → c = 0) ∧ (zs = [] ∨ ∃ g cur, a = some ⟨g, 0, none⟩ ∧ W.heap.size ≤ g ∧ w.heap[g]? = some (.cells cur 9 (0, 0)))
theorem NamesAt.mono (zs : List ByteArray) (W : World) : Fact.Mono (NamesAt zs W) := fun _ _ _ h hb => by
  obtain ⟨a, l, c, h1, h2, hn, h3⟩ := h
  refine ⟨a, l, c, h1, h2.below hb, hn, ?_⟩
  rcases h3 with h3 | ⟨g, cur, q1, q2, q3⟩
  · exact .inl h3
  · exact .inr ⟨g, cur, q1, q2, (hb.block _ (lt_of_someP q3)).trans q3⟩
theorem own_le {w4 : World} {zs : List ByteArray} {a : Option Addr} {X Y : Nat} {T : TypeId} (h : X ≤ Y) (ho : zs = [] ∨ ∃ g cur, a = some ⟨g, 0, none⟩ ∧ Y ≤ g ∧ w4.heap[g]? = some (.cells cur T (0, 0))) : zs = [] ∨ ∃ g cur, a = some ⟨g, 0, none⟩ ∧ X ≤ g ∧ w4.heap[g]? = some (.cells cur T (0, 0)) := by
  rcases ho with ho | ⟨g, cur, h1, h2, h3⟩
  · exact .inl ho
  · exact .inr ⟨g, cur, h1, Nat.le_trans h h2, h3⟩

set_option maxRecDepth 100000 in
set_option maxHeartbeats 6400000 in
theorem ipodRead_any (s : ByteArray) (w : World) (hs : s.size ≤ 1048576) (ht : ptab w) (hmx : mxl w) :
    Calls Tryd.prog 5 #[.string s] w (PodAns s w) := by
  have HT := hidK ht
  have HM := hidK hmx
  clear ht hmx
  by_cases h8 : 8000 < s.size
  · go_enter Tryd.func5, Tryd.ntmps5
    go_wp2_with fail
    refine (tooLongP_any s _ (by omega)).mono ?_
    rintro e w1 ⟨r, rfl, hr, rfl⟩
    obtain rfl : r = true := hr.2 h8
    clear hr
    go_wp2_with fail
    exact bodyPost_ret (v := .agg #[.string ⟨#[]⟩, .int .i64 0, .string ⟨#[]⟩, .slice none 0 0, .string ⟨#[]⟩, .int .i64 0, .int .i64 2]) (by simp [results, Tryd.results5, go_sem]) rfl (PodAns.bad ⟨rfl, rfl, .inl ⟨h8, rfl, rfl, rfl, rfl, rfl⟩⟩ (below1 _ _))
  have hs8 : s.size ≤ 8000 := by omega
  go_enter Tryd.func5, Tryd.ntmps5
  go_wp2_with (go_at_call 12; refine (tooLongP_any s _ (by omega)).mono ?_; rintro e w1 ⟨r, rfl, hr, rfl⟩; obtain rfl : r = false := Bool.eq_false_iff.2 (fun h => h8 (hr.1 h)); clear hr)
  refine (unworded_any s _ hs8 (HM.out.below (below1 _ _))).mono ?_
  rintro e w1 ⟨g, m, cp, rfl, hrow, hg, hb⟩
  have hgw : w.heap.size < g := by simp at hg; omega
  obtain ⟨gr, hb1, -⟩ := slotK hb
  have HB := hidK hb1
  have HG := hidK gr
  clear hb hb1 hg
  by_cases hm : 4 ≤ m
  · clear gr
    obtain ⟨a0, a1, a2, a3, zs, hw⟩ := four_of (l := wordsB s) (by rw [hrow.1]; exact hm)
    have hm8 : m ≤ 8001 := by
      have := wordsB_count s
      have := hrow.1
      omega
    rw [hw] at hrow
    obtain ⟨hlw, hmc, hcx, hsz, hc⟩ := hrow
    rcases hc with h | ⟨b, o, e, hgl, hc⟩
    · cases h
    cases e
    have c1 : w1.cell? ⟨g, 1, none⟩ = some (.string a1) := by simpa using hc 1 a1 rfl
    have c2 : w1.cell? ⟨g, 2, none⟩ = some (.string a2) := by simpa using hc 2 a2 rfl
    have c3 : w1.cell? ⟨g, 3, none⟩ = some (.string a3) := by simpa using hc 3 a3 rfl
    have z2 := hsz 2 a2 rfl
    have HL := hidK hgl
    have HF := hidK hw
    have HZ := hidK hsz
    have hsz' := hsz
    have HC := hidK hc
    clear hc hw hsz hgl
    have HTL := hidK (show ∀ x, Below w1.heap.size w1 x → TxRow x (some ⟨g, 4, none⟩) (m - 4) (cp - 4) zs from fun x hx => by
      refine ⟨by simp at hlw; omega, by omega, by omega, fun j y hy => hsz' (j + 4) y hy, ?_⟩
      exact .inr ⟨g, 4, rfl, Nat.lt_of_lt_of_le HL.out hx.size, fun j y hy => by
        have e := HC.out (j + 4) y hy
        rw [cell_below hx HL.out]
        rw [show 0 + (j + 4) = 4 + j from by omega] at e
        exact e⟩)
    clear hsz'
    have hN := numNP
    have i1 : (1 : Int) < (m : Int) := by omega
    have i2 : (2 : Int) < (m : Int) := by omega
    have i3 : (3 : Int) < (m : Int) := by omega
    have i4 : (4 : Int) ≤ (m : Int) := by omega
    have i5 : (m : Int) ≤ (cp : Int) := by omega
    have hzl : zs.length = m - 4 := by simp at hlw; omega
    have hg1 : ¬ g = w1.heap.size := Nat.ne_of_lt HL.out
    have hg0 : ¬ w1.heap.size = g := fun h => hg1 h.symm
    have HPA := hidK (fun x (hx : Below w1.heap.size w1 x) => HT.out.below (HB.out.trans (hx.mono HB.out.size)))
    go_wp2_with fail
    go_cut [4] from 14 to 29 (fun v wx => PMid w a1 (cpN a2) (zoneR a3) zs v wx)
    case first =>
      have hw1 := lt_of_someP HG.out
      refine wp_region_grow_last (by kernel_rfl) rfl rfl (by kernel_rfl) ?_
      refine' Grow.stepC _ rfl ?_ ?_
      rotate_left 1
      · refine Obl.plain rfl ?_
        intro a wg K hsz hW hf hK; clear hsz
        have e3 := hf 3 (by decide)
        simp [slotFact, List.lookup] at e3
        clear hf
        go_simp
        refine hK _ _ (Below.refl _ _) ?_
        with_reducible rfl
      refine' Grow.stepC _ rfl ?_ ?_
      rotate_left 1
      · refine Obl.plain rfl ?_
        intro a wg K hsz hW hf hK; clear hsz
        have e14 := hf 14 (by decide)
        simp [slotFact, List.lookup] at e14
        clear hf
        go_simp
        refine hK _ _ (Below.refl _ _) ?_
        with_reducible rfl
      refine' Grow.stepC _ rfl ?_ ?_
      rotate_left 1
      · refine Obl.plain rfl ?_
        intro a wg K hsz hW hf hK; clear hsz
        have e15 := hf 15 (by decide)
        simp [slotFact, List.lookup] at e15
        have c1x := (cell_below hW HL.out).trans c1
        clear hf
        go_simp
        refine hK _ _ (Below.refl _ _) ?_
        with_reducible rfl
      refine' Grow.stepC _ rfl ?_ ?_
      rotate_left 1
      · refine Obl.plain rfl ?_
        intro a wg K hsz hW hf hK; clear hsz
        have e3 := hf 3 (by decide)
        simp [slotFact, List.lookup] at e3
        clear hf
        go_simp
        refine hK _ _ (Below.refl _ _) ?_
        with_reducible rfl
      refine' Grow.stepC _ rfl ?_ ?_
      rotate_left 1
      · refine Obl.plain rfl ?_
        intro a wg K hsz hW hf hK; clear hsz
        have e17 := hf 17 (by decide)
        simp [slotFact, List.lookup] at e17
        clear hf
        go_simp
        refine hK _ _ (Below.refl _ _) ?_
        with_reducible rfl
      refine' Grow.stepC _ rfl ?_ ?_
      rotate_left 1
      · refine Obl.plain rfl ?_
        intro a wg K hsz hW hf hK; clear hsz
        have e18 := hf 18 (by decide)
        simp [slotFact, List.lookup] at e18
        have c2x := (cell_below hW HL.out).trans c2
        clear hf
        go_simp
        refine hK _ _ (Below.refl _ _) ?_
        with_reducible rfl
      refine Grow.step (fun v _ => ∃ qc : Int, v = .agg #[.int .i64 (cpN a2), .int .i64 0, .int .i64 qc]) rfl (fun _ _ _ h _ => h) ?_ ?_
      · refine Obl.plain rfl ?_
        intro a wg K hsz hW hf hK; clear hsz
        have e19 := hf 19 (by decide)
        simp [slotFact, List.lookup] at e19
        clear hf
        go_simp
        refine (iCpuRead_any a2 _ z2 (HPA.out _ hW)).mono ?_
        rintro e w2 ⟨q, qc, rfl, hq, hb2⟩
        obtain rfl := cpN_is hq
        exact hK _ _ hb2 ⟨qc, rfl⟩
      refine' Grow.stepC _ rfl ?_ ?_
      rotate_left 1
      · refine Obl.plain rfl ?_
        intro a wg K hsz hW hf hK; clear hsz
        have e20 := hf 20 (by decide)
        simp [slotFact, List.lookup] at e20
        obtain ⟨qc, e20⟩ := e20
        clear hf
        go_simp
        refine hK _ _ (Below.refl _ _) ?_
        with_reducible rfl
      refine' Grow.stepC _ rfl ?_ ?_
      rotate_left 1
      · refine Obl.plain rfl ?_
        intro a wg K hsz hW hf hK; clear hsz
        have e3 := hf 3 (by decide)
        simp [slotFact, List.lookup] at e3
        clear hf
        go_simp
        refine hK _ _ (Below.refl _ _) ?_
        with_reducible rfl
      refine' Grow.stepC _ rfl ?_ ?_
      rotate_left 1
      · refine Obl.plain rfl ?_
        intro a wg K hsz hW hf hK; clear hsz
        have e22 := hf 22 (by decide)
        simp [slotFact, List.lookup] at e22
        clear hf
        go_simp
        refine hK _ _ (Below.refl _ _) ?_
        with_reducible rfl
      refine' Grow.stepC _ rfl ?_ ?_
      rotate_left 1
      · refine Obl.plain rfl ?_
        intro a wg K hsz hW hf hK; clear hsz
        have e23 := hf 23 (by decide)
        simp [slotFact, List.lookup] at e23
        have c3x := (cell_below hW HL.out).trans c3
        clear hf
        go_simp
        refine hK _ _ (Below.refl _ _) ?_
        with_reducible rfl
      refine Grow.step (fun v _ => v = .string (zoneR a3)) rfl (Fact.mono_eq _) ?_ ?_
      · refine Obl.plain rfl ?_
        intro a wg K hsz hW hf hK; clear hsz
        have e24 := hf 24 (by decide)
        simp [slotFact, List.lookup] at e24
        clear hf
        go_simp
        refine (zoneRead_any a3 _).mono ?_
        rintro e w3 ⟨rfl, rfl⟩
        exact hK _ _ (Below.refl _ _) rfl
      refine' Grow.stepC _ rfl ?_ ?_
      rotate_left 1
      · refine Obl.plain rfl ?_
        intro a wg K hsz hW hf hK; clear hsz
        have e3 := hf 3 (by decide)
        simp [slotFact, List.lookup] at e3
        clear hf
        go_simp
        refine hK _ _ (Below.refl _ _) ?_
        with_reducible rfl
      refine Grow.step (fun v _ => ∃ ad, v = .slice (some ad) (m - 4) (cp - 4) ∧ ∀ x, Below w1.heap.size w1 x → TxRow x (some ad) (m - 4) (cp - 4) zs) rfl (fun _ _ _ h _ => h) ?_ ?_
      · refine Obl.plain rfl ?_
        intro a wg K hsz hW hf hK; clear hsz
        have e26 := hf 26 (by decide)
        simp [slotFact, List.lookup] at e26
        clear hf
        by_cases hcp : cp = 4
        · obtain rfl : m = 4 := by omega
          have hz0 : zs = [] := List.eq_nil_of_length_eq_zero (by omega)
          subst hcp
          go_simp
          exact hK _ _ (Below.refl _ _) ⟨_, rfl, fun x _ => row_none hz0 rfl (by omega)⟩
        · have hcp' : ¬ 4 = cp := fun h => hcp h.symm
          go_simp
          exact hK _ _ (Below.refl _ _) ⟨_, rfl, HTL.out⟩
      refine Grow.step (NamesAt zs w1) rfl (NamesAt.mono zs w1) ?_ ?_
      · refine Obl.plain rfl ?_
        intro a wg K hsz hW hf hK; clear hsz
        have e27 := hf 27 (by decide)
        simp [slotFact, List.lookup] at e27
        clear hf
        obtain ⟨ad, e27, hrx⟩ := e27
        go_simp
        refine (ownNames_any _ _ _ zs _ (hrx _ hW) (by omega)).mono ?_
        rintro e w4 ⟨a', l', c', rfl, hrow4, hnil4, hown4, hb4⟩
        exact hK _ _ hb4 ⟨a', l', c', rfl, hrow4, hnil4, own_le hW.size hown4⟩
      refine Grow.step (fun v w' => ∃ a' l' c', v = .agg #[.string a1, .int .i64 (cpN a2), .string (zoneR a3), .slice a' l' c', .string ⟨#[]⟩, .int .i64 0] ∧ NamesAt zs w1 (.slice a' l' c') w') rfl (fun _ _ _ h hb => h.imp fun _ h => h.imp fun _ h => h.imp fun _ h => ⟨h.1, NamesAt.mono zs w1 _ _ _ h.2 hb⟩) ?_ ?_
      · refine Obl.plain rfl ?_
        intro a wg K hsz hW hf hK; clear hsz
        have e16 := hf 16 (by decide)
        simp [slotFact, List.lookup] at e16
        have e21 := hf 21 (by decide)
        simp [slotFact, List.lookup] at e21
        have e25 := hf 25 (by decide)
        simp [slotFact, List.lookup] at e25
        have e28 := hf 28 (by decide)
        simp [slotFact, List.lookup] at e28
        clear hf
        obtain ⟨a', l', c', e28, hrx, hnx, hox⟩ := e28
        go_simp
        exact hK _ _ (Below.refl _ _) ⟨a', l', c', rfl, a', l', c', rfl, hrx, hnx, hox⟩
      refine Grow.step (fun v w' => ∃ b, v = .pointer (some ⟨b, 0, none⟩) ∧ w1.heap.size ≤ b ∧ w'.heap[b]? = some (.cells #[.string ⟨#[]⟩, .int .i64 0, .string ⟨#[]⟩, .slice none 0 0, .string ⟨#[]⟩, .int .i64 0] 24 (0, 0))) rfl (fun _ _ _ h hb => h.imp fun _ h => ⟨h.1, h.2.1, (hb.block _ (lt_of_someP h.2.2)).trans h.2.2⟩) ?_ ?_
      · refine Obl.plain rfl ?_
        intro a wg K hsz hW hf hK; clear hsz
        clear hf
        go_simp
        exact hK _ _ (below1 _ _) ⟨_, rfl, hW.size, heap_alloc_new _ _⟩
      refine Grow.done ?_
      intro x wz hW hf
      simp only [List.forall_mem_cons] at hf
      obtain ⟨⟨b, h4, hbW, hgb⟩, ⟨a', l', c', h29, a'', l'', c'', e', hrx, hnx, hox⟩, -⟩ := hf
      cases e'
      obtain ⟨⟨m0, f0⟩, ⟨m1, f1⟩, ⟨m2, f2⟩, ⟨m3, f3⟩, ⟨m4, f4⟩, ⟨m5, f5⟩⟩ := podZ_cells hgb
      have HE := hidK (PMid.T (a1 := a1) (c := cpN a2) (z := zoneR a3) hgb (Nat.lt_of_lt_of_le hw1 hbW) (HB.out.trans (hW.mono HB.out.size)) ((hW.block _ hw1).trans HG.out) hrx hnx (own_up hw1 hox)).1
      intro K hK
      rw [if_pos (by rfl)]
      simp only [putsAll, List.foldr, Act.put, List.setIfInBounds_toArray, List.set_cons_zero, List.set_cons_succ, h4, h29]
      simp only [List.getLast]
      go_simp
      refine hK _ _ ?_
      try go_wp2_with fail
      go_meet
      exact HE.out
    case rest =>
      obtain ⟨bc, a', l', c', rfl, gc, gv, hrow', hnil', hown', hbx, hbne⟩ := hcut
      have e0 : wc.cell? ⟨bc, 0, none⟩ = some (.string a1) := cellK gc 0
      have e1 : wc.cell? ⟨bc, 1, none⟩ = some (.int .i64 (cpN a2)) := cellK gc 1
      have e2 : wc.cell? ⟨bc, 2, none⟩ = some (.string (zoneR a3)) := cellK gc 2
      have e3 : wc.cell? ⟨bc, 3, none⟩ = some (.slice a' l' c') := cellK gc 3
      have e4 : wc.cell? ⟨bc, 4, none⟩ = some (.string ⟨#[]⟩) := cellK gc 4
      have e5 : wc.cell? ⟨bc, 5, none⟩ = some (.int .i64 0) := cellK gc 5
      have hbne' : ¬ w.heap.size = bc := fun h => hbne h.symm
      have HPT := hidK (ipodText_any a1 (cpN a2) (zoneR a3) a' l' c' zs ⟨#[]⟩ 0 wc (HZ.out 1 a1 rfl) (zoneR_size (HZ.out 3 a3 rfl)) (by decide) hrow' hnil' (HT.out.below hbx))
      have HRW := hidK hrow'
      have HOW := hidK hown'
      have HBX := hidK hbx
      clear hrow' hnil' hown' hbx c1 c2 c3 hN hg0 hg1 i1 i2 i3 HTL HPA
      go_wp2_with fail
      refine HPT.out.mono ?_
      rintro e w5 ⟨rfl, hb5⟩
      have gc5 := (hb5.block bc (lt_of_someP gc)).trans gc
      have gr5 := (hb5.block w.heap.size (lt_of_someP gv)).trans gv
      have k0 : w5.cell? ⟨bc, 0, none⟩ = some (.string a1) := cellK gc5 0
      have k1 : w5.cell? ⟨bc, 1, none⟩ = some (.int .i64 (cpN a2)) := cellK gc5 1
      have k2 : w5.cell? ⟨bc, 2, none⟩ = some (.string (zoneR a3)) := cellK gc5 2
      have k3 : w5.cell? ⟨bc, 3, none⟩ = some (.slice a' l' c') := cellK gc5 3
      have k4 : w5.cell? ⟨bc, 4, none⟩ = some (.string ⟨#[]⟩) := cellK gc5 4
      have k5 : w5.cell? ⟨bc, 5, none⟩ = some (.int .i64 0) := cellK gc5 5
      have r0 : w5.cell? ⟨w.heap.size, 0, none⟩ = some (.string ⟨#[]⟩) := cellK gr5 0
      have q0 : w5.frozen? ⟨w.heap.size, 0, none⟩ = false := frzP gr5 0
      have r1 : w5.cell? ⟨w.heap.size, 1, none⟩ = some (.int .i64 0) := cellK gr5 1
      have q1 : w5.frozen? ⟨w.heap.size, 1, none⟩ = false := frzP gr5 1
      have r2 : w5.cell? ⟨w.heap.size, 2, none⟩ = some (.string ⟨#[]⟩) := cellK gr5 2
      have q2 : w5.frozen? ⟨w.heap.size, 2, none⟩ = false := frzP gr5 2
      have r3 : w5.cell? ⟨w.heap.size, 3, none⟩ = some (.slice none 0 0) := cellK gr5 3
      have q3 : w5.frozen? ⟨w.heap.size, 3, none⟩ = false := frzP gr5 3
      have r4 : w5.cell? ⟨w.heap.size, 4, none⟩ = some (.string ⟨#[]⟩) := cellK gr5 4
      have q4 : w5.frozen? ⟨w.heap.size, 4, none⟩ = false := frzP gr5 4
      have r5 : w5.cell? ⟨w.heap.size, 5, none⟩ = some (.int .i64 0) := cellK gr5 5
      have q5 : w5.frozen? ⟨w.heap.size, 5, none⟩ = false := frzP gr5 5
      have r6 : w5.cell? ⟨w.heap.size, 6, none⟩ = some (.int .i64 0) := cellK gr5 6
      have q6 : w5.frozen? ⟨w.heap.size, 6, none⟩ = false := frzP gr5 6
      have HB5 := hidK (HBX.out.trans (hb5.mono HBX.out.size))
      have HR5 := hidK (HRW.out.below hb5)
      have HO5 : Hid (zs = [] ∨ ∃ g cur, a' = some ⟨g, 0, none⟩ ∧ w.heap.size < g ∧ w5.heap[g]? = some (.cells cur 9 (0, 0))) := by
        rcases HOW.out with h | ⟨g', cur, h1, h2, h3⟩
        · exact .inl h
        · exact .inr ⟨g', cur, h1, h2, (hb5.block g' (lt_of_someP h3)).trans h3⟩
      clear hb5 gc gv gc5 gr5 e0 e1 e2 e3 e4 e5 HPT
      by_cases hT : podX a1 (cpN a2) (zoneR a3) zs ⟨#[]⟩ 0 = s
      · have hq : ((podX a1 (cpN a2) (zoneR a3) zs ⟨#[]⟩ 0).toList == s.toList) = true := by rw [hT]; simp
        go_wp2_with fail
        exact bodyPost_ret (v := .agg #[.string a1, .int .i64 (cpN a2), .string (zoneR a3), .slice a' l' c', .string ⟨#[]⟩, .int .i64 0, .int .i64 0]) (by simp [results, Tryd.results5, go_sem, *]) rfl
          (PodAns.good ⟨rfl, rfl, .inr (.inr ⟨hs8, rfl, podText_few hT (words_ne HF.out), a0, a1, a2, a3, HF.out, hT, rfl, rfl, rfl⟩)⟩ HR5.out HO5.out HB5.out)
      · have hq : ((podX a1 (cpN a2) (zoneR a3) zs ⟨#[]⟩ 0).toList == s.toList) = false := tl_no hT
        go_wp2_with fail
        refine bodyPost_ret (v := .agg #[.string ⟨#[]⟩, .int .i64 0, .string ⟨#[]⟩, .slice none 0 0, .string ⟨#[]⟩, .int .i64 0, .int .i64 3]) (by simp [results, Tryd.results5, go_sem, *]) rfl
          (PodAns.bad ⟨rfl, rfl, .inr (.inl ⟨hs8, ?_, rfl, rfl, rfl, rfl, rfl⟩)⟩ (set_below7 (Nat.le_refl _) HB5.out))
        rintro ⟨b0, b1, b2, b3, bl, hw2, hx2⟩
        rw [HF.out] at hw2
        simp only [List.cons.injEq] at hw2
        obtain ⟨rfl, rfl, rfl, rfl, rfl⟩ := hw2
        exact hT hx2
  · have hmb : ((m : Int) < 4) := by omega
    have hn4 : ¬ ∃ a0 a1 a2 a3 l, wordsB s = a0 :: a1 :: a2 :: a3 :: l ∧ podX a1 (cpN a2) (zoneR a3) l ⟨#[]⟩ 0 = s := by
      rintro ⟨a0, a1, a2, a3, l, e, -⟩
      have := hrow.1
      rw [e] at this
      simp at this
      omega
    have HN := hidK hn4
    have r0 : w1.cell? ⟨w.heap.size, 0, none⟩ = some (.string ⟨#[]⟩) := cellK gr 0
    have q0 : w1.frozen? ⟨w.heap.size, 0, none⟩ = false := frzP gr 0
    have r1 : w1.cell? ⟨w.heap.size, 1, none⟩ = some (.int .i64 0) := cellK gr 1
    have q1 : w1.frozen? ⟨w.heap.size, 1, none⟩ = false := frzP gr 1
    have r2 : w1.cell? ⟨w.heap.size, 2, none⟩ = some (.string ⟨#[]⟩) := cellK gr 2
    have q2 : w1.frozen? ⟨w.heap.size, 2, none⟩ = false := frzP gr 2
    have r3 : w1.cell? ⟨w.heap.size, 3, none⟩ = some (.slice none 0 0) := cellK gr 3
    have q3 : w1.frozen? ⟨w.heap.size, 3, none⟩ = false := frzP gr 3
    have r4 : w1.cell? ⟨w.heap.size, 4, none⟩ = some (.string ⟨#[]⟩) := cellK gr 4
    have q4 : w1.frozen? ⟨w.heap.size, 4, none⟩ = false := frzP gr 4
    have r5 : w1.cell? ⟨w.heap.size, 5, none⟩ = some (.int .i64 0) := cellK gr 5
    have q5 : w1.frozen? ⟨w.heap.size, 5, none⟩ = false := frzP gr 5
    have r6 : w1.cell? ⟨w.heap.size, 6, none⟩ = some (.int .i64 0) := cellK gr 6
    have q6 : w1.frozen? ⟨w.heap.size, 6, none⟩ = false := frzP gr 6
    clear hrow hn4 gr
    go_wp2_with fail
    exact bodyPost_ret (v := .agg #[.string ⟨#[]⟩, .int .i64 0, .string ⟨#[]⟩, .slice none 0 0, .string ⟨#[]⟩, .int .i64 0, .int .i64 3]) (by simp [results, Tryd.results5, go_sem, *]) rfl
      (PodAns.bad ⟨rfl, rfl, .inr (.inl ⟨hs8, HN.out, rfl, rfl, rfl, rfl, rfl⟩)⟩ (set_below7 (Nat.le_refl _) HB.out))

end Go.Proofs.YtbpnmhebhmakdaaDoor

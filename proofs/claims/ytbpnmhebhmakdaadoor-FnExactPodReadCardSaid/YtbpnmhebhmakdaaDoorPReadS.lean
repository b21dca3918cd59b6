/-
  PodRead of the specification.
-/
import Derived.Test.YtbpnmhebhmakdaaDoorPApp
import Derived.Test.YtbpnmhebhmakdaaDoorGrow
import Derived.Test.YtbpnmhebhmakdaaDoorKLaw
namespace Go.Proofs.YtbpnmhebhmakdaaDoor
open Go.RowKit

def EmptyAt (v : Value) (w : World) : Prop := ∃ g0, v = .slice (some ⟨g0, 0, none⟩) 0 0 ∧ w.heap[g0]? = some (.cells #[] 9 (0, 0))
theorem EmptyAt.mono : Fact.Mono EmptyAt := fun _ _ _ h hb => h.imp fun _ h => ⟨h.1, (hb.block _ (lt_of_someP h.2)).trans h.2⟩
def ListAt (zs : List ByteArray) (W : World) (v : Value) (w : World) : Prop := ∃ a l c, v = .slice (some a) l c ∧ TxRow w (some a) l c zs ∧ (zs = [] ∨ ∃ g cur, some a = some (⟨g, 0, none⟩ : Addr) ∧ W.heap.size ≤ g ∧ w.heap[g]? = some (.cells cur 9 (0, 0)))
theorem ListAt.mono (zs : List ByteArray) (W : World) : Fact.Mono (ListAt zs W) := fun _ _ _ h hb => by
  obtain ⟨a, l, c, h1, h2, h3⟩ := h
  refine ⟨a, l, c, h1, h2.below hb, ?_⟩
  rcases h3 with h3 | ⟨g, cur, q1, q2, q3⟩
  · exact .inl h3
  · exact .inr ⟨g, cur, q1, q2, (hb.block _ (lt_of_someP q3)).trans q3⟩
theorem AppAns.own {zs : List ByteArray} {w : World} {a : Addr} {l c B : Nat} {w' : World} (h : AppAns zs w a l c w') (hB : B ≤ w.heap.size) : zs = [] ∨ ∃ g cur, some a = some (⟨g, 0, none⟩ : Addr) ∧ B ≤ g ∧ w'.heap[g]? = some (.cells cur 9 (0, 0)) := by
  rcases h.2.1 with h3 | ⟨g, cur, q1, q2, q3⟩
  · exact .inl h3
  · exact .inr ⟨g, cur, q1, Nat.le_trans hB q2, q3⟩
theorem zone_set {w wx : World} {a1 z z' : ByteArray} {c : Int} {zs : List ByteArray} {bc : Nat} {a : Option Addr} {l cp : Nat} (gc : wx.heap[bc]? = some (.cells #[.string a1, .int .i64 c, .string z, .slice a l cp, .string ⟨#[]⟩, .int .i64 0] 24 (0, 0)))
    (gv : wx.heap[w.heap.size]? = some (.cells #[.string ⟨#[]⟩, .int .i64 0, .string ⟨#[]⟩, .slice none 0 0, .string ⟨#[]⟩, .int .i64 0, .int .i64 0] 26 (0, 0))) (hr : TxRow wx a l cp zs) (ho : zs = [] ∨ ∃ g cur, a = some ⟨g, 0, none⟩ ∧ w.heap.size < g ∧ wx.heap[g]? = some (.cells cur 9 (0, 0))) (hb : Below w.heap.size w wx) (hbd : w.heap.size < bc) :
    (wx.setCell ⟨bc, 2, none⟩ (.string z')).heap[bc]? = some (.cells #[.string a1, .int .i64 c, .string z', .slice a l cp, .string ⟨#[]⟩, .int .i64 0] 24 (0, 0)) ∧
    (wx.setCell ⟨bc, 2, none⟩ (.string z')).heap[w.heap.size]? = some (.cells #[.string ⟨#[]⟩, .int .i64 0, .string ⟨#[]⟩, .slice none 0 0, .string ⟨#[]⟩, .int .i64 0, .int .i64 0] 26 (0, 0)) ∧ TxRow (wx.setCell ⟨bc, 2, none⟩ (.string z')) a l cp zs ∧
    (zs = [] ∨ ∃ g cur, a = some ⟨g, 0, none⟩ ∧ w.heap.size < g ∧ (wx.setCell ⟨bc, 2, none⟩ (.string z')).heap[g]? = some (.cells cur 9 (0, 0))) ∧ Below w.heap.size w (wx.setCell ⟨bc, 2, none⟩ (.string z')) := by
  have hne' : ¬ w.heap.size = bc := Nat.ne_of_lt hbd
  have ho' : zs = [] ∨ ∃ g cur, a = some ⟨g, 0, none⟩ ∧ w.heap.size < g ∧ wx.heap[g]? = some (.cells cur 9 (0, 0)) ∧ ¬ g = bc := by
    rcases ho with h | ⟨g, cur, h1, h2, h3⟩
    · exact .inl h
    · refine .inr ⟨g, cur, h1, h2, h3, ?_⟩
      rintro rfl
      rw [gc] at h3
      simp at h3
  refine ⟨block_set gc _, (Below.heap_setCell _ _ _ _ hne').trans gv, hr.set ?_, ?_, hb.setCell (p := ⟨bc, 2, none⟩) (Nat.le_of_lt hbd) _⟩
  · rcases ho' with h | ⟨g, cur, h1, h2, h3, h4⟩
    · exact .inl h
    · exact .inr ⟨g, h1, h4⟩
  · rcases ho' with h | ⟨g, cur, h1, h2, h3, h4⟩
    · exact .inl h
    · exact .inr ⟨g, cur, h1, h2, (Below.heap_setCell _ _ _ _ h4).trans h3⟩

set_option maxRecDepth 100000 in
set_option maxHeartbeats 6400000 in
theorem spodRead_any (s : ByteArray) (w : World) (hs : s.size ≤ 1048576) :
    Calls Tryd.prog 4 #[.string s] w (PodAns s w) := by
  by_cases h8 : 8000 < s.size
  · go_enter Tryd.func4, Tryd.ntmps4
    go_wp2_with fail
    exact bodyPost_ret (v := .agg #[.string ⟨#[]⟩, .int .i64 0, .string ⟨#[]⟩, .slice none 0 0, .string ⟨#[]⟩, .int .i64 0, .int .i64 2]) (by simp [results, Tryd.results4, go_sem]) rfl (PodAns.bad ⟨rfl, rfl, .inl ⟨h8, rfl, rfl, rfl, rfl, rfl⟩⟩ (below1 _ _))
  have hs8 : s.size ≤ 8000 := by omega
  go_enter Tryd.func4, Tryd.ntmps4
  go_wp2_with fail
  refine (ssplit_any s _ hs8).mono ?_
  rintro e w1 ⟨g, m, cp, rfl, hrow, hg, hb⟩
  have hgw : w.heap.size < g := by simp at hg; omega
  obtain ⟨gr, hb1, -⟩ := slotK hb
  have HB := hidK hb1
  have HG := hidK gr
  clear hb hb1 hg
  by_cases hm : 4 ≤ m ∧ m ≤ 7
  · clear gr
    obtain ⟨a0, a1, a2, a3, zs, hw⟩ := four_of (l := wordsB s) (by rw [hrow.1]; exact hm.1)
    obtain ⟨hm4, hm7⟩ := hm
    rw [hw] at hrow
    obtain ⟨hlw, hmc, hcx, hsz, hc⟩ := hrow
    rcases hc with h | ⟨b, o, e, hgl, hc⟩
    · cases h
    cases e
    have c1 : w1.cell? ⟨g, 1, none⟩ = some (.string a1) := by simpa using hc 1 a1 rfl
    have c2 : w1.cell? ⟨g, 2, none⟩ = some (.string a2) := by simpa using hc 2 a2 rfl
    have c3 : w1.cell? ⟨g, 3, none⟩ = some (.string a3) := by simpa using hc 3 a3 rfl
    have z2 := hsz 2 a2 rfl
    have HL := hidK hgl
    have HF := hidK hw
    have HZ := hidK hsz
    have hsz' := hsz
    have HC := hidK hc
    clear hc hw hsz hgl
    have HTL := hidK (show ∀ x, Below w1.heap.size w1 x → TxRow x (some ⟨g, 4, none⟩) (m - 4) (cp - 4) zs from fun x hx => by
      refine ⟨by simp at hlw; omega, by omega, by omega, fun j y hy => hsz' (j + 4) y hy, ?_⟩
      exact .inr ⟨g, 4, rfl, Nat.lt_of_lt_of_le HL.out hx.size, fun j y hy => by
        have e := HC.out (j + 4) y hy
        rw [cell_below hx HL.out]
        rw [show 0 + (j + 4) = 4 + j from by omega] at e
        exact e⟩)
    clear hsz'
    have hN := numNP
    have i1 : (1 : Int) < (m : Int) := by omega
    have i2 : (2 : Int) < (m : Int) := by omega
    have i3 : (3 : Int) < (m : Int) := by omega
    have i4 : (4 : Int) ≤ (m : Int) := by omega
    have i7 : (m : Int) ≤ 7 := by omega
    have i5 : (m : Int) ≤ (cp : Int) := by omega
    have hzl : zs.length = m - 4 := by simp at hlw; omega
    have hgx := HL.out
    have hg1 : ¬ g = w1.heap.size := by omega
    have hg0 : ¬ w1.heap.size = g := by omega
    have hg3 : ¬ g = w1.heap.size + 1 := by omega
    have hg2 : ¬ w1.heap.size + 1 = g := by omega
    clear hgx
    have hw1 := lt_of_someP HG.out
    go_wp2_with fail
    go_cut [4] from 20 to 35 (fun v wx => PMidS w a1 (cpN a2) a3 zs v wx)
    case first =>
      refine wp_region_grow_last (by kernel_rfl) rfl rfl (by kernel_rfl) ?_
      refine' Grow.stepC _ rfl ?_ ?_
      rotate_left 1
      · refine Obl.plain rfl ?_
        intro a wg K hsz hW hf hK; clear hsz
        have e3 := hf 3 (by decide)
        simp [slotFact, List.lookup] at e3
        clear hf
        go_simp
        refine hK _ _ (Below.refl _ _) ?_
        with_reducible rfl
      refine' Grow.stepC _ rfl ?_ ?_
      rotate_left 1
      · refine Obl.plain rfl ?_
        intro a wg K hsz hW hf hK; clear hsz
        have e20 := hf 20 (by decide)
        simp [slotFact, List.lookup] at e20
        clear hf
        go_simp
        refine hK _ _ (Below.refl _ _) ?_
        with_reducible rfl
      refine' Grow.stepC _ rfl ?_ ?_
      rotate_left 1
      · refine Obl.plain rfl ?_
        intro a wg K hsz hW hf hK; clear hsz
        have e21 := hf 21 (by decide)
        simp [slotFact, List.lookup] at e21
        have c1x := (cell_below hW HL.out).trans c1
        clear hf
        go_simp
        refine hK _ _ (Below.refl _ _) ?_
        with_reducible rfl
      refine' Grow.stepC _ rfl ?_ ?_
      rotate_left 1
      · refine Obl.plain rfl ?_
        intro a wg K hsz hW hf hK; clear hsz
        have e3 := hf 3 (by decide)
        simp [slotFact, List.lookup] at e3
        clear hf
        go_simp
        refine hK _ _ (Below.refl _ _) ?_
        with_reducible rfl
      refine' Grow.stepC _ rfl ?_ ?_
      rotate_left 1
      · refine Obl.plain rfl ?_
        intro a wg K hsz hW hf hK; clear hsz
        have e23 := hf 23 (by decide)
        simp [slotFact, List.lookup] at e23
        clear hf
        go_simp
        refine hK _ _ (Below.refl _ _) ?_
        with_reducible rfl
      refine' Grow.stepC _ rfl ?_ ?_
      rotate_left 1
      · refine Obl.plain rfl ?_
        intro a wg K hsz hW hf hK; clear hsz
        have e24 := hf 24 (by decide)
        simp [slotFact, List.lookup] at e24
        have c2x := (cell_below hW HL.out).trans c2
        clear hf
        go_simp
        refine hK _ _ (Below.refl _ _) ?_
        with_reducible rfl
      refine Grow.step (fun v _ => ∃ qc : Int, v = .agg #[.int .i64 (cpN a2), .int .i64 0, .int .i64 qc]) rfl (fun _ _ _ h _ => h) ?_ ?_
      · refine Obl.plain rfl ?_
        intro a wg K hsz hW hf hK; clear hsz
        have e25 := hf 25 (by decide)
        simp [slotFact, List.lookup] at e25
        clear hf
        go_simp
        refine (scpuread_any a2 _ z2).mono ?_
        rintro e w2 ⟨q, qc, rfl, hq, hb2⟩
        obtain rfl := cpN_is hq
        exact hK _ _ hb2 ⟨qc, rfl⟩
      refine' Grow.stepC _ rfl ?_ ?_
      rotate_left 1
      · refine Obl.plain rfl ?_
        intro a wg K hsz hW hf hK; clear hsz
        have e26 := hf 26 (by decide)
        simp [slotFact, List.lookup] at e26
        obtain ⟨qc, e26⟩ := e26
        clear hf
        go_simp
        refine hK _ _ (Below.refl _ _) ?_
        with_reducible rfl
      refine' Grow.stepC _ rfl ?_ ?_
      rotate_left 1
      · refine Obl.plain rfl ?_
        intro a wg K hsz hW hf hK; clear hsz
        have e3 := hf 3 (by decide)
        simp [slotFact, List.lookup] at e3
        clear hf
        go_simp
        refine hK _ _ (Below.refl _ _) ?_
        with_reducible rfl
      refine' Grow.stepC _ rfl ?_ ?_
      rotate_left 1
      · refine Obl.plain rfl ?_
        intro a wg K hsz hW hf hK; clear hsz
        have e28 := hf 28 (by decide)
        simp [slotFact, List.lookup] at e28
        clear hf
        go_simp
        refine hK _ _ (Below.refl _ _) ?_
        with_reducible rfl
      refine' Grow.stepC _ rfl ?_ ?_
      rotate_left 1
      · refine Obl.plain rfl ?_
        intro a wg K hsz hW hf hK; clear hsz
        have e29 := hf 29 (by decide)
        simp [slotFact, List.lookup] at e29
        have c3x := (cell_below hW HL.out).trans c3
        clear hf
        go_simp
        refine hK _ _ (Below.refl _ _) ?_
        with_reducible rfl
      refine Grow.step (EmptyAt) rfl (EmptyAt.mono) ?_ ?_
      · refine Obl.plain rfl ?_
        intro a wg K hsz hW hf hK; clear hsz
        clear hf
        go_simp
        exact hK _ _ (below1 _ _) ⟨_, rfl, heap_alloc_new _ _⟩
      refine' Grow.stepC _ rfl ?_ ?_
      rotate_left 1
      · refine Obl.plain rfl ?_
        intro a wg K hsz hW hf hK; clear hsz
        have e3 := hf 3 (by decide)
        simp [slotFact, List.lookup] at e3
        clear hf
        go_simp
        refine hK _ _ (Below.refl _ _) ?_
        with_reducible rfl
      refine Grow.step (fun v _ => ∃ ad, v = .slice (some ad) (m - 4) (cp - 4) ∧ ∀ x, Below w1.heap.size w1 x → TxRow x (some ad) (m - 4) (cp - 4) zs) rfl (fun _ _ _ h _ => h) ?_ ?_
      · refine Obl.plain rfl ?_
        intro a wg K hsz hW hf hK; clear hsz
        have e32 := hf 32 (by decide)
        simp [slotFact, List.lookup] at e32
        clear hf
        by_cases hcp : cp = 4
        · obtain rfl : m = 4 := by omega
          have hz0 : zs = [] := List.eq_nil_of_length_eq_zero (by omega)
          subst hcp
          go_simp
          exact hK _ _ (Below.refl _ _) ⟨_, rfl, fun x _ => row_none hz0 rfl (by omega)⟩
        · have hcp' : ¬ 4 = cp := fun h => hcp h.symm
          go_simp
          exact hK _ _ (Below.refl _ _) ⟨_, rfl, HTL.out⟩
      refine Grow.step (ListAt zs w1) rfl (ListAt.mono zs w1) ?_ ?_
      · refine Obl.plain rfl ?_
        intro a wg K hsz hW hf hK; clear hsz
        have e31 := hf 31 (by decide)
        simp [slotFact, List.lookup] at e31
        have e33 := hf 33 (by decide)
        simp [slotFact, List.lookup] at e33
        clear hf
        obtain ⟨g0, e31, hg0x⟩ := e31
        obtain ⟨ad, e33, hrx⟩ := e33
        refine wp_names _ _ rfl g0 ?_ hg0x ad (m - 4) (cp - 4) ?_ zs (hrx _ hW) (by omega) ?_
        · simpa [Act.eval] using e31
        · simpa [Act.eval] using e33
        intro a' l' c' w4 hans
        exact hK _ _ hans.2.2 ⟨a', l', c', rfl, hans.1, hans.own hW.size⟩
      refine Grow.step (fun v w' => ∃ a' l' c', v = .agg #[.string a1, .int .i64 (cpN a2), .string a3, .slice (some a') l' c', .string ⟨#[]⟩, .int .i64 0] ∧ ListAt zs w1 (.slice (some a') l' c') w') rfl (fun _ _ _ h hb => h.imp fun _ h => h.imp fun _ h => h.imp fun _ h => ⟨h.1, ListAt.mono zs w1 _ _ _ h.2 hb⟩) ?_ ?_
      · refine Obl.plain rfl ?_
        intro a wg K hsz hW hf hK; clear hsz
        have e22 := hf 22 (by decide)
        simp [slotFact, List.lookup] at e22
        have e27 := hf 27 (by decide)
        simp [slotFact, List.lookup] at e27
        have e30 := hf 30 (by decide)
        simp [slotFact, List.lookup] at e30
        have e34 := hf 34 (by decide)
        simp [slotFact, List.lookup] at e34
        clear hf
        obtain ⟨a', l', c', e34, hrx, hox⟩ := e34
        go_simp
        exact hK _ _ (Below.refl _ _) ⟨a', l', c', rfl, a', l', c', rfl, hrx, hox⟩
      refine Grow.step (fun v w' => ∃ b, v = .pointer (some ⟨b, 0, none⟩) ∧ w1.heap.size ≤ b ∧ w'.heap[b]? = some (.cells #[.string ⟨#[]⟩, .int .i64 0, .string ⟨#[]⟩, .slice none 0 0, .string ⟨#[]⟩, .int .i64 0] 24 (0, 0))) rfl (fun _ _ _ h hb => h.imp fun _ h => ⟨h.1, h.2.1, (hb.block _ (lt_of_someP h.2.2)).trans h.2.2⟩) ?_ ?_
      · refine Obl.plain rfl ?_
        intro a wg K hsz hW hf hK; clear hsz
        clear hf
        go_simp
        exact hK _ _ (below1 _ _) ⟨_, rfl, hW.size, heap_alloc_new _ _⟩
      refine Grow.done ?_
      intro x wz hW hf
      simp only [List.forall_mem_cons] at hf
      obtain ⟨⟨b, h4, hbW, hgb⟩, ⟨a', l', c', h35, a'', l'', c'', e', hrx, hox⟩, -⟩ := hf
      cases e'
      obtain ⟨⟨m0, f0⟩, ⟨m1, f1⟩, ⟨m2, f2⟩, ⟨m3, f3⟩, ⟨m4, f4⟩, ⟨m5, f5⟩⟩ := podZ_cells hgb
      have HE := hidK (PMid.T (a1 := a1) (c := cpN a2) (z := a3) hgb (Nat.lt_of_lt_of_le hw1 hbW) (HB.out.trans (hW.mono HB.out.size)) ((hW.block _ hw1).trans HG.out) hrx (fun h => by cases h) (own_up hw1 hox))
      intro K hK
      rw [if_pos (by rfl)]
      simp only [putsAll, List.foldr, Act.put, List.setIfInBounds_toArray, List.set_cons_zero, List.set_cons_succ, h4, h35]
      simp only [List.getLast]
      go_simp
      refine hK _ _ ?_
      try go_wp2_with fail
      go_meet
      exact HE.out
    case rest =>
      obtain ⟨⟨bc, a', l', c', rfl, gc, gv, hrow', hnil', hown', hbx, hbne⟩, bd, ebd, hbc⟩ := hcut
      cases ebd
      clear hnil' c1 c2 c3 hN hg0 hg1 hg2 hg3 i1 i2 i3 HTL
      have hbne' : ¬ w.heap.size = bc := fun h => hbne h.symm
      have z0 : wc.cell? ⟨bc, 0, none⟩ = some (.string a1) := cellK gc 0
      have z1 : wc.cell? ⟨bc, 1, none⟩ = some (.int .i64 (cpN a2)) := cellK gc 1
      have z2x : wc.cell? ⟨bc, 2, none⟩ = some (.string a3) := cellK gc 2
      have z2f : wc.frozen? ⟨bc, 2, none⟩ = false := frzP gc 2
      have z3 : wc.cell? ⟨bc, 3, none⟩ = some (.slice a' l' c') := cellK gc 3
      have z4 : wc.cell? ⟨bc, 4, none⟩ = some (.string ⟨#[]⟩) := cellK gc 4
      have z5 : wc.cell? ⟨bc, 5, none⟩ = some (.int .i64 0) := cellK gc 5
      by_cases hz : a3 = wDash
      · have hzq : (a3.toList == [45]) = true := by rw [hz]; exact dash_yes
        have HZR : Hid (zoneR a3 = ⟨#[]⟩) := by rw [hz]; exact zoneR_dash
        clear hz
        have HZZ := hidK (show (⟨#[]⟩ : ByteArray).size ≤ 9223372036854775807 by decide)
        have hzs := zone_set (z' := ⟨#[]⟩) gc gv hrow' hown' hbx hbc
        clear gc gv hrow' hown' hbx
        obtain ⟨gc, gv, hrow', hown', hbx⟩ := hzs
        have HPT := hidK (spodText_any a1 (cpN a2) ⟨#[]⟩ a' l' c' zs ⟨#[]⟩ 0 (wc.setCell ⟨bc, 2, none⟩ (.string ⟨#[]⟩)) (HZ.out 1 a1 rfl) HZZ.out (by decide) hrow')
        have HRW := hidK hrow'
        have HOW := hidK hown'
        have HBX := hidK hbx
        clear hrow' hown' hbx
        go_wp2_with fail
        refine HPT.out.mono ?_
        rintro e w5 ⟨rfl, hb5⟩
        have gc5 := (hb5.block bc (lt_of_someP gc)).trans gc
        have gr5 := (hb5.block w.heap.size (lt_of_someP gv)).trans gv
        have k0 : w5.cell? ⟨bc, 0, none⟩ = some (.string a1) := cellK gc5 0
        have k1 : w5.cell? ⟨bc, 1, none⟩ = some (.int .i64 (cpN a2)) := cellK gc5 1
        have k2 : w5.cell? ⟨bc, 2, none⟩ = some (.string ⟨#[]⟩) := cellK gc5 2
        have k3 : w5.cell? ⟨bc, 3, none⟩ = some (.slice a' l' c') := cellK gc5 3
        have k4 : w5.cell? ⟨bc, 4, none⟩ = some (.string ⟨#[]⟩) := cellK gc5 4
        have k5 : w5.cell? ⟨bc, 5, none⟩ = some (.int .i64 0) := cellK gc5 5
        have r0 : w5.cell? ⟨w.heap.size, 0, none⟩ = some (.string ⟨#[]⟩) := cellK gr5 0
        have q0 : w5.frozen? ⟨w.heap.size, 0, none⟩ = false := frzP gr5 0
        have r1 : w5.cell? ⟨w.heap.size, 1, none⟩ = some (.int .i64 0) := cellK gr5 1
        have q1 : w5.frozen? ⟨w.heap.size, 1, none⟩ = false := frzP gr5 1
        have r2 : w5.cell? ⟨w.heap.size, 2, none⟩ = some (.string ⟨#[]⟩) := cellK gr5 2
        have q2 : w5.frozen? ⟨w.heap.size, 2, none⟩ = false := frzP gr5 2
        have r3 : w5.cell? ⟨w.heap.size, 3, none⟩ = some (.slice none 0 0) := cellK gr5 3
        have q3 : w5.frozen? ⟨w.heap.size, 3, none⟩ = false := frzP gr5 3
        have r4 : w5.cell? ⟨w.heap.size, 4, none⟩ = some (.string ⟨#[]⟩) := cellK gr5 4
        have q4 : w5.frozen? ⟨w.heap.size, 4, none⟩ = false := frzP gr5 4
        have r5 : w5.cell? ⟨w.heap.size, 5, none⟩ = some (.int .i64 0) := cellK gr5 5
        have q5 : w5.frozen? ⟨w.heap.size, 5, none⟩ = false := frzP gr5 5
        have r6 : w5.cell? ⟨w.heap.size, 6, none⟩ = some (.int .i64 0) := cellK gr5 6
        have q6 : w5.frozen? ⟨w.heap.size, 6, none⟩ = false := frzP gr5 6
        have HB5 := hidK (HBX.out.trans (hb5.mono HBX.out.size))
        have HR5 := hidK (HRW.out.below hb5)
        have HO5 : Hid (zs = [] ∨ ∃ g cur, a' = some ⟨g, 0, none⟩ ∧ w.heap.size < g ∧ w5.heap[g]? = some (.cells cur 9 (0, 0))) := by
          rcases HOW.out with h | ⟨g', cur, h1, h2, h3⟩
          · exact .inl h
          · exact .inr ⟨g', cur, h1, h2, (hb5.block g' (lt_of_someP h3)).trans h3⟩
        clear hb5 gc gv gc5 gr5 z0 z1 z2x z2f z3 z4 z5 HPT
        by_cases hT : podX a1 (cpN a2) ⟨#[]⟩ zs ⟨#[]⟩ 0 = s
        · have hq : ((podX a1 (cpN a2) ⟨#[]⟩ zs ⟨#[]⟩ 0).toList == s.toList) = true := by rw [hT]; simp
          go_wp2_with fail
          exact bodyPost_ret (v := .agg #[.string a1, .int .i64 (cpN a2), .string ⟨#[]⟩, .slice a' l' c', .string ⟨#[]⟩, .int .i64 0, .int .i64 0]) (by simp [results, Tryd.results4, go_sem, *]) rfl
            (PodAns.good ⟨rfl, rfl, .inr (.inr ⟨hs8, rfl, podText_few hT (words_ne HF.out), a0, a1, a2, a3, HF.out, by rw [HZR.out]; exact hT, rfl, rfl, HZR.out.symm⟩)⟩ HR5.out HO5.out HB5.out)
        · have hq : ((podX a1 (cpN a2) ⟨#[]⟩ zs ⟨#[]⟩ 0).toList == s.toList) = false := tl_no hT
          go_wp2_with fail
          refine bodyPost_ret (v := .agg #[.string ⟨#[]⟩, .int .i64 0, .string ⟨#[]⟩, .slice none 0 0, .string ⟨#[]⟩, .int .i64 0, .int .i64 3]) (by simp [results, Tryd.results4, go_sem, *]) rfl
            (PodAns.bad ⟨rfl, rfl, .inr (.inl ⟨hs8, ?_, rfl, rfl, rfl, rfl, rfl⟩)⟩ (set_below7 (Nat.le_refl _) HB5.out))
          rintro ⟨b0, b1, b2, b3, bl, hw2, hx2⟩
          rw [HF.out] at hw2
          simp only [List.cons.injEq] at hw2
          obtain ⟨rfl, rfl, rfl, rfl, rfl⟩ := hw2
          rw [HZR.out] at hx2
          exact hT hx2
      · have hzq : (a3.toList == [45]) = false := dash_no hz
        have HZR : Hid (zoneR a3 = a3) := zoneR_no hz
        clear hz
        have HZZ := hidK (HZ.out 3 a3 rfl)
        have HPT := hidK (spodText_any a1 (cpN a2) a3 a' l' c' zs ⟨#[]⟩ 0 (wc) (HZ.out 1 a1 rfl) HZZ.out (by decide) hrow')
        have HRW := hidK hrow'
        have HOW := hidK hown'
        have HBX := hidK hbx
        clear hrow' hown' hbx
        go_wp2_with fail
        refine HPT.out.mono ?_
        rintro e w5 ⟨rfl, hb5⟩
        have gc5 := (hb5.block bc (lt_of_someP gc)).trans gc
        have gr5 := (hb5.block w.heap.size (lt_of_someP gv)).trans gv
        have k0 : w5.cell? ⟨bc, 0, none⟩ = some (.string a1) := cellK gc5 0
        have k1 : w5.cell? ⟨bc, 1, none⟩ = some (.int .i64 (cpN a2)) := cellK gc5 1
        have k2 : w5.cell? ⟨bc, 2, none⟩ = some (.string a3) := cellK gc5 2
        have k3 : w5.cell? ⟨bc, 3, none⟩ = some (.slice a' l' c') := cellK gc5 3
        have k4 : w5.cell? ⟨bc, 4, none⟩ = some (.string ⟨#[]⟩) := cellK gc5 4
        have k5 : w5.cell? ⟨bc, 5, none⟩ = some (.int .i64 0) := cellK gc5 5
        have r0 : w5.cell? ⟨w.heap.size, 0, none⟩ = some (.string ⟨#[]⟩) := cellK gr5 0
        have q0 : w5.frozen? ⟨w.heap.size, 0, none⟩ = false := frzP gr5 0
        have r1 : w5.cell? ⟨w.heap.size, 1, none⟩ = some (.int .i64 0) := cellK gr5 1
        have q1 : w5.frozen? ⟨w.heap.size, 1, none⟩ = false := frzP gr5 1
        have r2 : w5.cell? ⟨w.heap.size, 2, none⟩ = some (.string ⟨#[]⟩) := cellK gr5 2
        have q2 : w5.frozen? ⟨w.heap.size, 2, none⟩ = false := frzP gr5 2
        have r3 : w5.cell? ⟨w.heap.size, 3, none⟩ = some (.slice none 0 0) := cellK gr5 3
        have q3 : w5.frozen? ⟨w.heap.size, 3, none⟩ = false := frzP gr5 3
        have r4 : w5.cell? ⟨w.heap.size, 4, none⟩ = some (.string ⟨#[]⟩) := cellK gr5 4
        have q4 : w5.frozen? ⟨w.heap.size, 4, none⟩ = false := frzP gr5 4
        have r5 : w5.cell? ⟨w.heap.size, 5, none⟩ = some (.int .i64 0) := cellK gr5 5
        have q5 : w5.frozen? ⟨w.heap.size, 5, none⟩ = false := frzP gr5 5
        have r6 : w5.cell? ⟨w.heap.size, 6, none⟩ = some (.int .i64 0) := cellK gr5 6
        have q6 : w5.frozen? ⟨w.heap.size, 6, none⟩ = false := frzP gr5 6
        have HB5 := hidK (HBX.out.trans (hb5.mono HBX.out.size))
        have HR5 := hidK (HRW.out.below hb5)
        have HO5 : Hid (zs = [] ∨ ∃ g cur, a' = some ⟨g, 0, none⟩ ∧ w.heap.size < g ∧ w5.heap[g]? = some (.cells cur 9 (0, 0))) := by
          rcases HOW.out with h | ⟨g', cur, h1, h2, h3⟩
          · exact .inl h
          · exact .inr ⟨g', cur, h1, h2, (hb5.block g' (lt_of_someP h3)).trans h3⟩
        clear hb5 gc gv gc5 gr5 z0 z1 z2x z2f z3 z4 z5 HPT
        by_cases hT : podX a1 (cpN a2) a3 zs ⟨#[]⟩ 0 = s
        · have hq : ((podX a1 (cpN a2) a3 zs ⟨#[]⟩ 0).toList == s.toList) = true := by rw [hT]; simp
          go_wp2_with fail
          exact bodyPost_ret (v := .agg #[.string a1, .int .i64 (cpN a2), .string a3, .slice a' l' c', .string ⟨#[]⟩, .int .i64 0, .int .i64 0]) (by simp [results, Tryd.results4, go_sem, *]) rfl
            (PodAns.good ⟨rfl, rfl, .inr (.inr ⟨hs8, rfl, podText_few hT (words_ne HF.out), a0, a1, a2, a3, HF.out, by rw [HZR.out]; exact hT, rfl, rfl, HZR.out.symm⟩)⟩ HR5.out HO5.out HB5.out)
        · have hq : ((podX a1 (cpN a2) a3 zs ⟨#[]⟩ 0).toList == s.toList) = false := tl_no hT
          go_wp2_with fail
          refine bodyPost_ret (v := .agg #[.string ⟨#[]⟩, .int .i64 0, .string ⟨#[]⟩, .slice none 0 0, .string ⟨#[]⟩, .int .i64 0, .int .i64 3]) (by simp [results, Tryd.results4, go_sem, *]) rfl
            (PodAns.bad ⟨rfl, rfl, .inr (.inl ⟨hs8, ?_, rfl, rfl, rfl, rfl, rfl⟩)⟩ (set_below7 (Nat.le_refl _) HB5.out))
          rintro ⟨b0, b1, b2, b3, bl, hw2, hx2⟩
          rw [HF.out] at hw2
          simp only [List.cons.injEq] at hw2
          obtain ⟨rfl, rfl, rfl, rfl, rfl⟩ := hw2
          rw [HZR.out] at hx2
          exact hT hx2
  · have hmb : ((m : Int) < 4) ∨ (7 < (m : Int)) := by omega
    have hn4 : ¬ ∃ a0 a1 a2 a3 l, wordsB s = a0 :: a1 :: a2 :: a3 :: l ∧ podX a1 (cpN a2) (zoneR a3) l ⟨#[]⟩ 0 = s := by
      rintro ⟨a0, a1, a2, a3, l, e, hx⟩
      have hl := hrow.1
      have hf := podText_few hx (words_ne e)
      rw [e] at hl
      simp at hl
      omega
    have HN := hidK hn4
    have r0 : w1.cell? ⟨w.heap.size, 0, none⟩ = some (.string ⟨#[]⟩) := cellK gr 0
    have q0 : w1.frozen? ⟨w.heap.size, 0, none⟩ = false := frzP gr 0
    have r1 : w1.cell? ⟨w.heap.size, 1, none⟩ = some (.int .i64 0) := cellK gr 1
    have q1 : w1.frozen? ⟨w.heap.size, 1, none⟩ = false := frzP gr 1
    have r2 : w1.cell? ⟨w.heap.size, 2, none⟩ = some (.string ⟨#[]⟩) := cellK gr 2
    have q2 : w1.frozen? ⟨w.heap.size, 2, none⟩ = false := frzP gr 2
    have r3 : w1.cell? ⟨w.heap.size, 3, none⟩ = some (.slice none 0 0) := cellK gr 3
    have q3 : w1.frozen? ⟨w.heap.size, 3, none⟩ = false := frzP gr 3
    have r4 : w1.cell? ⟨w.heap.size, 4, none⟩ = some (.string ⟨#[]⟩) := cellK gr 4
    have q4 : w1.frozen? ⟨w.heap.size, 4, none⟩ = false := frzP gr 4
    have r5 : w1.cell? ⟨w.heap.size, 5, none⟩ = some (.int .i64 0) := cellK gr 5
    have q5 : w1.frozen? ⟨w.heap.size, 5, none⟩ = false := frzP gr 5
    have r6 : w1.cell? ⟨w.heap.size, 6, none⟩ = some (.int .i64 0) := cellK gr 6
    have q6 : w1.frozen? ⟨w.heap.size, 6, none⟩ = false := frzP gr 6
    clear hrow hn4 gr
    rcases hmb with hmb | hmb
    all_goals
      go_wp2_with fail
      exact bodyPost_ret (v := .agg #[.string ⟨#[]⟩, .int .i64 0, .string ⟨#[]⟩, .slice none 0 0, .string ⟨#[]⟩, .int .i64 0, .int .i64 3]) (by simp [results, Tryd.results4, go_sem, *]) rfl
        (PodAns.bad ⟨rfl, rfl, .inr (.inl ⟨hs8, HN.out, rfl, rfl, rfl, rfl, rfl⟩)⟩ (set_below7 (Nat.le_refl _) HB.out))

end Go.Proofs.YtbpnmhebhmakdaaDoor

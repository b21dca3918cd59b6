/-
  ClaimRead of the specification and of the program.
-/
import Derived.Test.YtegnnheljhielabDoorSSplit
import Derived.Test.YtegnnheljhielabDoorKText
import Derived.Test.YtegnnheljhielabDoorJRead
namespace Go.Proofs.YtegnnheljhielabDoor
open Go.RowKit

open Classical in
/-- The number that a size's text tells; 0 else. -/
noncomputable def szN (s : ByteArray) : Int := if h : ∃ a c, RdIs szText s a c then h.choose else 0
theorem szN_is {s : ByteArray} {a c : Int} (h : RdIs szText s a c) : a = szN s := by
  have hx : ∃ a c, RdIs szText s a c := ⟨a, c, h⟩
  unfold szN
  rw [dif_pos hx]
  obtain ⟨c', h'⟩ := hx.choose_spec
  exact (RdIs.same sz_inj h h').1
def bytes0 : ByteArray := ⟨#[]⟩
def claimOutV (n : ByteArray) (z : Int) (k : ByteArray) (x : Bool) (v : ByteArray) (c : Int) : Value := .agg #[.string n, .int .i64 z, .string k, .bool x, .string v, .int .i64 c]
def claimBad (c : Int) : Value := claimOutV ⟨#[]⟩ 0 ⟨#[]⟩ false ⟨#[]⟩ c
open Classical in
/-- What is read of five words. -/
noncomputable def claimFive (s n u k y : ByteArray) : Value :=
  if claimX n (szN u) k (decide (y = wSingle)) ⟨#[]⟩ = s then claimOutV n (szN u) k (decide (y = wSingle)) ⟨#[]⟩ 0 else claimBad 3
/-- What ClaimRead answers. -/
noncomputable def claimR (s : ByteArray) : Value :=
  if 8000 < s.size then claimBad 2 else
  match wordsB s with
  | [_, n, u, k, y] => claimFive s n u k y
  | _ => claimBad 3
theorem claimR_long {s : ByteArray} (h : 8000 < s.size) : claimBad 2 = claimR s := by unfold claimR; rw [if_pos h]
theorem claimR_five {s a n u k y : ByteArray} (h : ¬ 8000 < s.size) (hw : wordsB s = [a, n, u, k, y]) : claimFive s n u k y = claimR s := by unfold claimR; rw [if_neg h, hw]
theorem claimR_not {s : ByteArray} (h : ¬ 8000 < s.size) (hw : ¬ (wordsB s).length = 5) : claimBad 3 = claimR s := by
  unfold claimR
  rw [if_neg h]
  split
  · rename_i e; rw [e] at hw; exact absurd rfl hw
  · rfl
theorem five_of {l : List ByteArray} (h : l.length = 5) : ∃ a b c d e, l = [a, b, c, d, e] := by
  match l, h with
  | [a, b, c, d, e], _ => exact ⟨a, b, c, d, e, rfl⟩
theorem single_dec (y : ByteArray) : (y.toList == [115, 105, 110, 103, 108, 101]) = decide (y = wSingle) := by
  by_cases h : y = wSingle
  · rw [h]; simp; rw [Lib.toList_data]; rfl
  · have := tl_no h
    rw [decide_eq_false h]
    rw [Lib.toList_data] at this ⊢
    rw [Lib.toList_data] at this
    exact this

theorem keep_cell {w w' : World} {b o : Nat} {v : Value} (hb : Below w.heap.size w w') (h : w.cell? ⟨b, o, none⟩ = some v) : w'.cell? ⟨b, o, none⟩ = some v := by
  rcases Nat.lt_or_ge b w.heap.size with h1 | h1
  · rw [cell_below hb h1]; exact h
  · simp [World.cell?, Array.getElem?_eq_none h1] at h
theorem lt_keep {w w' : World} (hb : Below w.heap.size w w') {b o : Nat} {v : Value} (h : w.cell? ⟨b, o, none⟩ = some v) : b < w'.heap.size := by
  rcases Nat.lt_or_ge b w.heap.size with h1 | h1
  · exact Nat.lt_of_lt_of_le h1 hb.size
  · simp [World.cell?, Array.getElem?_eq_none h1] at h
theorem keep_laid {w w' : World} {vs : Array Value} {T : TypeId} {j : Nat} {v : Value} (hb : Below (w.alloc (.cells vs T)).drew.heap.size (w.alloc (.cells vs T)).drew w') (h : vs[j]? = some v) : w'.cell? ⟨w.heap.size, j, none⟩ = some v ∧ w'.frozen? ⟨w.heap.size, j, none⟩ = false := by
  have e : w'.heap[w.heap.size]? = some (.cells vs T (0, 0)) := (hb.block w.heap.size (by simp)).trans Array.getElem?_push_size
  exact ⟨by rw [cellK e, h], by simp [World.frozen?, e]⟩

theorem numN (a b c : Int) (w : World) : (Instr.field 55 (.agg #[.int .i64 a, .int .i64 b, .int .i64 c]) 0).run Tryd.prog w = .ok (.int .i64 a) w := by kernel_rfl

theorem set5K {w1 V : World} {b : Nat} {u0 u1 u2 u3 u4 v0 v1 v2 v3 v4 : Value} {T : TypeId} (h : w1.heap[b]? = some (.cells #[u0, u1, u2, u3, u4] T (0, 0)))
    (hV : V = ((((w1.setCell ⟨b, 0, none⟩ v0).setCell ⟨b, 1, none⟩ v1).setCell ⟨b, 2, none⟩ v2).setCell ⟨b, 3, none⟩ v3).setCell ⟨b, 4, none⟩ v4) : V.heap[b]? = some (.cells #[v0, v1, v2, v3, v4] T (0, 0)) := by
  rw [hV]
  exact block_set (block_set (block_set (block_set (block_set h v0) v1) v2) v3) v4
theorem set_below5 {w w1 V : World} {B b : Nat} {v0 v1 v2 v3 v4 : Value} (hB : B ≤ b) (h : Below B w w1)
    (hV : V = ((((w1.setCell ⟨b, 0, none⟩ v0).setCell ⟨b, 1, none⟩ v1).setCell ⟨b, 2, none⟩ v2).setCell ⟨b, 3, none⟩ v3).setCell ⟨b, 4, none⟩ v4) : Below B w V := by
  rw [hV]
  exact ((((h.setCell (p := ⟨b, 0, none⟩) hB v0).setCell (p := ⟨b, 1, none⟩) hB v1).setCell (p := ⟨b, 2, none⟩) hB v2).setCell (p := ⟨b, 3, none⟩) hB v3).setCell (p := ⟨b, 4, none⟩) hB v4
theorem set_keeps5 {w1 V : World} {b k : Nat} {v0 v1 v2 v3 v4 : Value} {o : Option Obj} (hk : k ≠ b) (h : w1.heap[k]? = o)
    (hV : V = ((((w1.setCell ⟨b, 0, none⟩ v0).setCell ⟨b, 1, none⟩ v1).setCell ⟨b, 2, none⟩ v2).setCell ⟨b, 3, none⟩ v3).setCell ⟨b, 4, none⟩ v4) : V.heap[k]? = o := by
  rw [hV, Below.heap_setCell _ _ _ _ hk, Below.heap_setCell _ _ _ _ hk, Below.heap_setCell _ _ _ _ hk, Below.heap_setCell _ _ _ _ hk, Below.heap_setCell _ _ _ _ hk]
  exact h
theorem set_below6 {w w1 : World} {B b : Nat} {v0 v1 v2 v3 v4 v5 : Value} (hB : B ≤ b) (h : Below B w w1) :
    Below B w ((((((w1.setCell ⟨b, 0, none⟩ v0).setCell ⟨b, 1, none⟩ v1).setCell ⟨b, 2, none⟩ v2).setCell ⟨b, 3, none⟩ v3).setCell ⟨b, 4, none⟩ v4).setCell ⟨b, 5, none⟩ v5) :=
  (((((h.setCell (p := ⟨b, 0, none⟩) hB v0).setCell (p := ⟨b, 1, none⟩) hB v1).setCell (p := ⟨b, 2, none⟩) hB v2).setCell (p := ⟨b, 3, none⟩) hB v3).setCell (p := ⟨b, 4, none⟩) hB v4).setCell (p := ⟨b, 5, none⟩) hB v5
theorem frzK {w : World} {b : Nat} {vs : Array Value} {T : TypeId} (h : w.heap[b]? = some (.cells vs T (0, 0))) (i : Nat) : w.frozen? ⟨b, i, none⟩ = false := by simp [World.frozen?, h]
theorem ltK {w : World} {b : Nat} {o : Obj} (h : w.heap[b]? = some o) : b < w.heap.size := by
  rcases Nat.lt_or_ge b w.heap.size with h1 | h1
  · exact h1
  · rw [Array.getElem?_eq_none h1] at h; cases h
theorem drewK {B : Nat} {x w1 : World} (h : Below x.drew.heap.size x.drew w1) (hB : B ≤ x.heap.size) : Below B x w1 := ⟨h.os, h.tape, h.output, h.size, fun k hk => h.block k (Nat.lt_of_lt_of_le hk hB)⟩

set_option maxRecDepth 100000 in
set_option maxHeartbeats 6400000 in
theorem sclaimRead_any (s : ByteArray) (w : World) (hs : s.size ≤ 1048576) :
    Calls Tryd.prog 11 #[.string s] w fun e w' => e = .returned (claimR s) ∧ Below w.heap.size w w' := by
  by_cases h8 : 8000 < s.size
  · go_enter Tryd.func11, Tryd.ntmps11
    go_wp2
    exact bodyPost_ret (v := claimBad 2) (by simp [results, Tryd.results11, go_sem, claimBad, claimOutV]) rfl ⟨by rw [claimR_long h8], below1 _ _⟩
  have hs8 : s.size ≤ 8000 := by omega
  go_enter Tryd.func11, Tryd.ntmps11
  go_wp2_with fail
  refine (ssplit_any s _ hs8).mono ?_
  rintro e w1 ⟨g, m, cp, rfl, hrow, hg, hb⟩
  have hgw : w.heap.size < g := by simp at hg; omega
  obtain ⟨gr, hb1, -⟩ := slotK hb
  have HB := hidK hb1
  have HG := hidK gr
  clear hb hb1 hg
  by_cases hm : m = 5
  · subst hm
    clear gr
    obtain ⟨a0, a1, a2, a3, a4, hw⟩ := five_of hrow.1
    rw [hw] at hrow
    obtain ⟨-, h5c, -, hsz, hc⟩ := hrow
    rcases hc with h | ⟨b, o, e, hgl, hc⟩
    · cases h
    cases e
    have c1 : w1.cell? ⟨g, 1, none⟩ = some (.string a1) := by simpa using hc 1 a1 rfl
    have c2 : w1.cell? ⟨g, 2, none⟩ = some (.string a2) := by simpa using hc 2 a2 rfl
    have c3 : w1.cell? ⟨g, 3, none⟩ = some (.string a3) := by simpa using hc 3 a3 rfl
    have c4 : w1.cell? ⟨g, 4, none⟩ = some (.string a4) := by simpa using hc 4 a4 rfl
    have z2 := hsz 2 a2 rfl
    have HL := hidK hgl
    have HF := hidK hw
    have HZ := hidK hsz
    have h5 : (5 : Nat) ≤ cp := h5c
    obtain ⟨xb, hxb⟩ : ∃ xb, xb = decide (a4 = wSingle) := ⟨_, rfl⟩
    have hsd : (a4.toList == [115, 105, 110, 103, 108, 101]) = xb := (single_dec a4).trans hxb.symm
    have HX := hidK hxb
    clear hxb
    clear hc hw hsz hgl h5c
    have hN := numN
    have hg1 : ¬ g = w1.heap.size := Nat.ne_of_lt HL.out
    have hg0 : ¬ w1.heap.size = g := fun h => hg1 h.symm
    go_wp2_with fail
    go_region_held (fun w' => w'.cell? ⟨g, 1, none⟩ = some (.string a1) ∧ w'.cell? ⟨g, 2, none⟩ = some (.string a2) ∧ w'.cell? ⟨g, 3, none⟩ = some (.string a3) ∧ w'.cell? ⟨g, 4, none⟩ = some (.string a4)) (go_keep)
      (first
        | (go_at_call 32; refine (ssizeread_any a2 _ z2).mono ?_; rintro e w2 ⟨q, qc, rfl, hq, hb2⟩; obtain rfl := szN_is hq; have y1 : w2.cell? ⟨g, 1, none⟩ = some (.string a1) := keep_cell hb2 (by go_keep); have y2 : w2.cell? ⟨g, 2, none⟩ = some (.string a2) := keep_cell hb2 (by go_keep); have y3 : w2.cell? ⟨g, 3, none⟩ = some (.string a3) := keep_cell hb2 (by go_keep); have y4 : w2.cell? ⟨g, 4, none⟩ = some (.string a4) := keep_cell hb2 (by go_keep); have hg2 : ¬ g = w2.heap.size := Nat.ne_of_lt (lt_keep (o := 1) (v := .string a1) hb2 (by go_keep)); have hg3 : ¬ w2.heap.size = g := fun h => hg2 h.symm; try (obtain ⟨m0, f0⟩ := keep_laid (j := 0) hb2 rfl; obtain ⟨m1, f1⟩ := keep_laid (j := 1) hb2 rfl; obtain ⟨m2, f2⟩ := keep_laid (j := 2) hb2 rfl; obtain ⟨m3, f3⟩ := keep_laid (j := 3) hb2 rfl; obtain ⟨m4, f4⟩ := keep_laid (j := 4) hb2 rfl)))
    · -- the call first, then the block
      have HB2 := hidK (HB.out.trans (drewK hb2 HB.out.size))
      have gs2 := (hb2.block w.heap.size (ltK HG.out)).trans HG.out
      obtain ⟨V, hV⟩ : ∃ V, V = w2.alloc (.cells #[.string a1, .int .i64 (szN a2), .string a3, .bool xb, .string ⟨#[]⟩] 26) := ⟨_, rfl⟩
      obtain ⟨bc, hbc⟩ : ∃ bc, bc = w2.heap.size := ⟨_, rfl⟩
      rw [← hV, ← hbc]
      have gc : V.heap[bc]? = some (.cells #[.string a1, .int .i64 (szN a2), .string a3, .bool xb, .string ⟨#[]⟩] 26 (0, 0)) := by rw [hV, hbc]; exact Array.getElem?_push_size
      have gv : V.heap[w.heap.size]? = some (.cells #[.string ⟨#[]⟩, .int .i64 0, .string ⟨#[]⟩, .bool false, .string ⟨#[]⟩, .int .i64 0] 30 (0, 0)) := by rw [hV, Below.heap_alloc _ _ _ (ltK gs2)]; exact gs2
      have HV := hidK (show Below w.heap.size w V by rw [hV]; exact HB2.out.trans ((below1 _ _).mono HB2.out.size))
      have hbw : ¬ bc = w.heap.size := by rw [hbc]; exact Nat.ne_of_gt (ltK gs2)
      have hbw' : ¬ w.heap.size = bc := fun h => hbw h.symm
      rename_i hHeld
      clear hHeld hV hbc gs2 hb2 c1 c2 c3 c4 y1 y2 y3 y4 hg0 hg1 hg2 hg3 hN hsd hgw HL HB HB2 HG
      have e0 : V.cell? ⟨bc, 0, none⟩ = some (.string a1) := cellK gc 0
      have e1 : V.cell? ⟨bc, 1, none⟩ = some (.int .i64 (szN a2)) := cellK gc 1
      have e2 : V.cell? ⟨bc, 2, none⟩ = some (.string a3) := cellK gc 2
      have e3 : V.cell? ⟨bc, 3, none⟩ = some (.bool xb) := cellK gc 3
      have e4 : V.cell? ⟨bc, 4, none⟩ = some (.string ⟨#[]⟩) := cellK gc 4
      have HZ1 := hidK (HZ.out 1 a1 rfl)
      have HZ3 := hidK (HZ.out 3 a3 rfl)
      go_wp2_with fail
      refine (sclaimText_any a1 (szN a2) a3 xb ⟨#[]⟩ _ HZ1.out HZ3.out (by decide)).mono ?_
      rintro e w3 ⟨rfl, hb3⟩
      have gc3 := (hb3.block bc (ltK gc)).trans gc
      have gr3 := (hb3.block w.heap.size (ltK gv)).trans gv
      have k0 : w3.cell? ⟨bc, 0, none⟩ = some (.string a1) := cellK gc3 0
      have k1 : w3.cell? ⟨bc, 1, none⟩ = some (.int .i64 (szN a2)) := cellK gc3 1
      have k2 : w3.cell? ⟨bc, 2, none⟩ = some (.string a3) := cellK gc3 2
      have k3 : w3.cell? ⟨bc, 3, none⟩ = some (.bool xb) := cellK gc3 3
      have k4 : w3.cell? ⟨bc, 4, none⟩ = some (.string ⟨#[]⟩) := cellK gc3 4
      have r0 : w3.cell? ⟨w.heap.size, 0, none⟩ = some (.string ⟨#[]⟩) := cellK gr3 0
      have q0 : w3.frozen? ⟨w.heap.size, 0, none⟩ = false := frzK gr3 0
      have r1 : w3.cell? ⟨w.heap.size, 1, none⟩ = some (.int .i64 0) := cellK gr3 1
      have q1 : w3.frozen? ⟨w.heap.size, 1, none⟩ = false := frzK gr3 1
      have r2 : w3.cell? ⟨w.heap.size, 2, none⟩ = some (.string ⟨#[]⟩) := cellK gr3 2
      have q2 : w3.frozen? ⟨w.heap.size, 2, none⟩ = false := frzK gr3 2
      have r3 : w3.cell? ⟨w.heap.size, 3, none⟩ = some (.bool false) := cellK gr3 3
      have q3 : w3.frozen? ⟨w.heap.size, 3, none⟩ = false := frzK gr3 3
      have r4 : w3.cell? ⟨w.heap.size, 4, none⟩ = some (.string ⟨#[]⟩) := cellK gr3 4
      have q4 : w3.frozen? ⟨w.heap.size, 4, none⟩ = false := frzK gr3 4
      have r5 : w3.cell? ⟨w.heap.size, 5, none⟩ = some (.int .i64 0) := cellK gr3 5
      have q5 : w3.frozen? ⟨w.heap.size, 5, none⟩ = false := frzK gr3 5
      have HB3 := hidK (HV.out.trans (hb3.mono HV.out.size))
      clear hb3 gc gv gc3 gr3 e0 e1 e2 e3 e4
      by_cases hT : claimX a1 (szN a2) a3 xb ⟨#[]⟩ = s
      · have hq : ((claimX a1 (szN a2) a3 xb ⟨#[]⟩).toList == s.toList) = true := by rw [hT]; simp
        go_wp2_with fail
        refine bodyPost_ret (v := claimOutV a1 (szN a2) a3 xb ⟨#[]⟩ 0) (by simp [results, Tryd.results11, go_sem, claimOutV, *]) rfl ⟨?_, set_below6 (Nat.le_refl _) HB3.out⟩
        rw [← claimR_five h8 HF.out]
        unfold claimFive
        rw [← HX.out, if_pos hT]
      · have hq : ((claimX a1 (szN a2) a3 xb ⟨#[]⟩).toList == s.toList) = false := tl_no hT
        go_wp2_with fail
        refine bodyPost_ret (v := claimBad 3) (by simp [results, Tryd.results11, go_sem, claimBad, claimOutV, *]) rfl ⟨?_, set_below6 (Nat.le_refl _) HB3.out⟩
        rw [← claimR_five h8 HF.out]
        unfold claimFive
        rw [← HX.out, if_neg hT]
    · -- the block first, then the call
      have HB2 := hidK (HB.out.trans ((below1 _ _).mono HB.out.size |>.trans (drewK hb2 (Nat.le_trans HB.out.size (by simp)))))
      have gs2 : w2.heap[w.heap.size]? = _ := (hb2.block w.heap.size (Nat.lt_of_lt_of_le (ltK HG.out) (by simp))).trans ((Below.heap_alloc _ _ _ (ltK HG.out)).trans HG.out)
      have gx2 : w2.heap[w1.heap.size]? = some (.cells #[.string ⟨#[]⟩, .int .i64 0, .string ⟨#[]⟩, .bool false, .string ⟨#[]⟩] 26 (0, 0)) := (hb2.block w1.heap.size (by simp)).trans Array.getElem?_push_size
      obtain ⟨V, hV⟩ : ∃ V, V = ((((w2.setCell ⟨w1.heap.size, 0, none⟩ (.string a1)).setCell ⟨w1.heap.size, 1, none⟩ (.int .i64 (szN a2))).setCell ⟨w1.heap.size, 2, none⟩ (.string a3)).setCell ⟨w1.heap.size, 3, none⟩ (.bool xb)).setCell ⟨w1.heap.size, 4, none⟩ (.string ⟨#[]⟩) := ⟨_, rfl⟩
      obtain ⟨bc, hbc⟩ : ∃ bc, bc = w1.heap.size := ⟨_, rfl⟩
      have hwlt := ltK HG.out
      rw [← hV, ← hbc]
      rw [← hbc] at hV gx2 hwlt
      have gc : V.heap[bc]? = some (.cells #[.string a1, .int .i64 (szN a2), .string a3, .bool xb, .string ⟨#[]⟩] 26 (0, 0)) := set5K gx2 hV
      have gv : V.heap[w.heap.size]? = some (.cells #[.string ⟨#[]⟩, .int .i64 0, .string ⟨#[]⟩, .bool false, .string ⟨#[]⟩, .int .i64 0] 30 (0, 0)) := set_keeps5 (Nat.ne_of_lt hwlt) gs2 hV
      have HV := hidK (show Below w.heap.size w V from set_below5 (Nat.le_of_lt hwlt) HB2.out hV)
      have hbw : ¬ bc = w.heap.size := Nat.ne_of_gt hwlt
      have hbw' : ¬ w.heap.size = bc := fun h => hbw h.symm
      rename_i hHeld
      clear hHeld hV hbc gs2 gx2 hwlt hb2 c1 c2 c3 c4 y1 y2 y3 y4 hg0 hg1 hg2 hg3 hN hsd hgw m0 f0 m1 f1 m2 f2 m3 f3 m4 f4 HL HB HB2 HG
      have e0 : V.cell? ⟨bc, 0, none⟩ = some (.string a1) := cellK gc 0
      have e1 : V.cell? ⟨bc, 1, none⟩ = some (.int .i64 (szN a2)) := cellK gc 1
      have e2 : V.cell? ⟨bc, 2, none⟩ = some (.string a3) := cellK gc 2
      have e3 : V.cell? ⟨bc, 3, none⟩ = some (.bool xb) := cellK gc 3
      have e4 : V.cell? ⟨bc, 4, none⟩ = some (.string ⟨#[]⟩) := cellK gc 4
      have HZ1 := hidK (HZ.out 1 a1 rfl)
      have HZ3 := hidK (HZ.out 3 a3 rfl)
      go_wp2_with fail
      refine (sclaimText_any a1 (szN a2) a3 xb ⟨#[]⟩ _ HZ1.out HZ3.out (by decide)).mono ?_
      rintro e w3 ⟨rfl, hb3⟩
      have gc3 := (hb3.block bc (ltK gc)).trans gc
      have gr3 := (hb3.block w.heap.size (ltK gv)).trans gv
      have k0 : w3.cell? ⟨bc, 0, none⟩ = some (.string a1) := cellK gc3 0
      have k1 : w3.cell? ⟨bc, 1, none⟩ = some (.int .i64 (szN a2)) := cellK gc3 1
      have k2 : w3.cell? ⟨bc, 2, none⟩ = some (.string a3) := cellK gc3 2
      have k3 : w3.cell? ⟨bc, 3, none⟩ = some (.bool xb) := cellK gc3 3
      have k4 : w3.cell? ⟨bc, 4, none⟩ = some (.string ⟨#[]⟩) := cellK gc3 4
      have r0 : w3.cell? ⟨w.heap.size, 0, none⟩ = some (.string ⟨#[]⟩) := cellK gr3 0
      have q0 : w3.frozen? ⟨w.heap.size, 0, none⟩ = false := frzK gr3 0
      have r1 : w3.cell? ⟨w.heap.size, 1, none⟩ = some (.int .i64 0) := cellK gr3 1
      have q1 : w3.frozen? ⟨w.heap.size, 1, none⟩ = false := frzK gr3 1
      have r2 : w3.cell? ⟨w.heap.size, 2, none⟩ = some (.string ⟨#[]⟩) := cellK gr3 2
      have q2 : w3.frozen? ⟨w.heap.size, 2, none⟩ = false := frzK gr3 2
      have r3 : w3.cell? ⟨w.heap.size, 3, none⟩ = some (.bool false) := cellK gr3 3
      have q3 : w3.frozen? ⟨w.heap.size, 3, none⟩ = false := frzK gr3 3
      have r4 : w3.cell? ⟨w.heap.size, 4, none⟩ = some (.string ⟨#[]⟩) := cellK gr3 4
      have q4 : w3.frozen? ⟨w.heap.size, 4, none⟩ = false := frzK gr3 4
      have r5 : w3.cell? ⟨w.heap.size, 5, none⟩ = some (.int .i64 0) := cellK gr3 5
      have q5 : w3.frozen? ⟨w.heap.size, 5, none⟩ = false := frzK gr3 5
      have HB3 := hidK (HV.out.trans (hb3.mono HV.out.size))
      clear hb3 gc gv gc3 gr3 e0 e1 e2 e3 e4
      by_cases hT : claimX a1 (szN a2) a3 xb ⟨#[]⟩ = s
      · have hq : ((claimX a1 (szN a2) a3 xb ⟨#[]⟩).toList == s.toList) = true := by rw [hT]; simp
        go_wp2_with fail
        refine bodyPost_ret (v := claimOutV a1 (szN a2) a3 xb ⟨#[]⟩ 0) (by simp [results, Tryd.results11, go_sem, claimOutV, *]) rfl ⟨?_, set_below6 (Nat.le_refl _) HB3.out⟩
        rw [← claimR_five h8 HF.out]
        unfold claimFive
        rw [← HX.out, if_pos hT]
      · have hq : ((claimX a1 (szN a2) a3 xb ⟨#[]⟩).toList == s.toList) = false := tl_no hT
        go_wp2_with fail
        refine bodyPost_ret (v := claimBad 3) (by simp [results, Tryd.results11, go_sem, claimBad, claimOutV, *]) rfl ⟨?_, set_below6 (Nat.le_refl _) HB3.out⟩
        rw [← claimR_five h8 HF.out]
        unfold claimFive
        rw [← HX.out, if_neg hT]
  · have hm' : ¬ (m : Int) = 5 := by omega
    have hn5 : ¬ (wordsB s).length = 5 := by rw [hrow.1]; exact hm
    have hmb : ((m : Int) == 5) = false := by simp; omega
    have HN := hidK hn5
    have r0 : w1.cell? ⟨w.heap.size, 0, none⟩ = some (.string ⟨#[]⟩) := cellK gr 0
    have q0 : w1.frozen? ⟨w.heap.size, 0, none⟩ = false := frzK gr 0
    have r1 : w1.cell? ⟨w.heap.size, 1, none⟩ = some (.int .i64 0) := cellK gr 1
    have q1 : w1.frozen? ⟨w.heap.size, 1, none⟩ = false := frzK gr 1
    have r2 : w1.cell? ⟨w.heap.size, 2, none⟩ = some (.string ⟨#[]⟩) := cellK gr 2
    have q2 : w1.frozen? ⟨w.heap.size, 2, none⟩ = false := frzK gr 2
    have r3 : w1.cell? ⟨w.heap.size, 3, none⟩ = some (.bool false) := cellK gr 3
    have q3 : w1.frozen? ⟨w.heap.size, 3, none⟩ = false := frzK gr 3
    have r4 : w1.cell? ⟨w.heap.size, 4, none⟩ = some (.string ⟨#[]⟩) := cellK gr 4
    have q4 : w1.frozen? ⟨w.heap.size, 4, none⟩ = false := frzK gr 4
    have r5 : w1.cell? ⟨w.heap.size, 5, none⟩ = some (.int .i64 0) := cellK gr 5
    have q5 : w1.frozen? ⟨w.heap.size, 5, none⟩ = false := frzK gr 5
    clear gr hrow hn5
    go_wp2_with fail
    exact bodyPost_ret (v := claimBad 3) (by simp [results, Tryd.results11, go_sem, claimBad, claimOutV, *]) rfl ⟨by rw [← claimR_not h8 HN.out], set_below6 (Nat.le_refl _) HB.out⟩

set_option maxHeartbeats 400000 in
theorem tooLong_any (s : ByteArray) (w : World) (hs : s.size ≤ 9223372036854775807) :
    Calls Tryd.prog 33 #[.string s] w (BoolAns (8000 < s.size) w) := by
  go_enter Tryd.func33, Tryd.ntmps33
  go_wp2
  go_ret
  exact ⟨_, rfl, by simp; omega, rfl⟩

set_option maxRecDepth 100000 in
set_option maxHeartbeats 6400000 in
theorem iclaimRead_any (s : ByteArray) (w : World) (hs : s.size ≤ 1048576) (ht : ptab w) (hmx : mxl w) :
    Calls Tryd.prog 12 #[.string s] w fun e w' => e = .returned (claimR s) ∧ Below w.heap.size w w' := by
  have HT := hidK ht
  have HM := hidK hmx
  clear ht hmx
  by_cases h8 : 8000 < s.size
  · go_enter Tryd.func12, Tryd.ntmps12
    go_wp2_with fail
    refine (tooLong_any s _ (by omega)).mono ?_
    rintro e w1 ⟨r, rfl, hr, rfl⟩
    obtain rfl : r = true := hr.2 h8
    clear hr
    go_wp2_with fail
    exact bodyPost_ret (v := claimBad 2) (by simp [results, Tryd.results12, go_sem, claimBad, claimOutV]) rfl ⟨by rw [claimR_long h8], below1 _ _⟩
  have hs8 : s.size ≤ 8000 := by omega
  go_enter Tryd.func12, Tryd.ntmps12
  go_wp2_with (go_at_call 33; refine (tooLong_any s _ (by omega)).mono ?_; rintro e w1 ⟨r, rfl, hr, rfl⟩; obtain rfl : r = false := Bool.eq_false_iff.2 (fun h => h8 (hr.1 h)); clear hr)
  refine (unworded_any s _ hs8 (HM.out.below (below1 _ _))).mono ?_
  rintro e w1 ⟨g, m, cp, rfl, hrow, hg, hb⟩
  have hgw : w.heap.size < g := by simp at hg; omega
  obtain ⟨gr, hb1, -⟩ := slotK hb
  have HB := hidK hb1
  have HG := hidK gr
  clear hb hb1 hg
  by_cases hm : m = 5
  · subst hm
    clear gr
    obtain ⟨a0, a1, a2, a3, a4, hw⟩ := five_of hrow.1
    rw [hw] at hrow
    obtain ⟨-, h5c, -, hsz, hc⟩ := hrow
    rcases hc with h | ⟨b, o, e, hgl, hc⟩
    · cases h
    cases e
    have c1 : w1.cell? ⟨g, 1, none⟩ = some (.string a1) := by simpa using hc 1 a1 rfl
    have c2 : w1.cell? ⟨g, 2, none⟩ = some (.string a2) := by simpa using hc 2 a2 rfl
    have c3 : w1.cell? ⟨g, 3, none⟩ = some (.string a3) := by simpa using hc 3 a3 rfl
    have c4 : w1.cell? ⟨g, 4, none⟩ = some (.string a4) := by simpa using hc 4 a4 rfl
    have z2 := hsz 2 a2 rfl
    have HL := hidK hgl
    have HF := hidK hw
    have HZ := hidK hsz
    have h5 : (5 : Nat) ≤ cp := h5c
    obtain ⟨xb, hxb⟩ : ∃ xb, xb = decide (a4 = wSingle) := ⟨_, rfl⟩
    have hsd : (a4.toList == [115, 105, 110, 103, 108, 101]) = xb := (single_dec a4).trans hxb.symm
    have HX := hidK hxb
    clear hxb
    clear hc hw hsz hgl h5c
    have hN := numN
    have hg1 : ¬ g = w1.heap.size := Nat.ne_of_lt HL.out
    have hg0 : ¬ w1.heap.size = g := fun h => hg1 h.symm
    have HPA := hidK (fun x (hx : Below w1.heap.size w1 x) => HT.out.below (HB.out.trans (hx.mono HB.out.size)))
    go_wp2_with fail
    go_region_held (fun w' => w'.cell? ⟨g, 1, none⟩ = some (.string a1) ∧ w'.cell? ⟨g, 2, none⟩ = some (.string a2) ∧ w'.cell? ⟨g, 3, none⟩ = some (.string a3) ∧ w'.cell? ⟨g, 4, none⟩ = some (.string a4)) (go_keep)
      (first
        | (go_at_call 35; refine (iSizeRead_any a2 _ z2 (HPA.out _ (by first | exact (Below.refl _ _).drew | exact ((below1 _ _).drew)))).mono ?_; rintro e w2 ⟨q, qc, rfl, hq, hb2⟩; obtain rfl := szN_is hq; have y1 : w2.cell? ⟨g, 1, none⟩ = some (.string a1) := keep_cell hb2 (by go_keep); have y2 : w2.cell? ⟨g, 2, none⟩ = some (.string a2) := keep_cell hb2 (by go_keep); have y3 : w2.cell? ⟨g, 3, none⟩ = some (.string a3) := keep_cell hb2 (by go_keep); have y4 : w2.cell? ⟨g, 4, none⟩ = some (.string a4) := keep_cell hb2 (by go_keep); have hg2 : ¬ g = w2.heap.size := Nat.ne_of_lt (lt_keep (o := 1) (v := .string a1) hb2 (by go_keep)); have hg3 : ¬ w2.heap.size = g := fun h => hg2 h.symm; try (obtain ⟨m0, f0⟩ := keep_laid (j := 0) hb2 rfl; obtain ⟨m1, f1⟩ := keep_laid (j := 1) hb2 rfl; obtain ⟨m2, f2⟩ := keep_laid (j := 2) hb2 rfl; obtain ⟨m3, f3⟩ := keep_laid (j := 3) hb2 rfl; obtain ⟨m4, f4⟩ := keep_laid (j := 4) hb2 rfl)))
    · -- the call first, then the block
      have HB2 := hidK (HB.out.trans (drewK hb2 HB.out.size))
      have gs2 := (hb2.block w.heap.size (ltK HG.out)).trans HG.out
      obtain ⟨V, hV⟩ : ∃ V, V = w2.alloc (.cells #[.string a1, .int .i64 (szN a2), .string a3, .bool xb, .string ⟨#[]⟩] 26) := ⟨_, rfl⟩
      obtain ⟨bc, hbc⟩ : ∃ bc, bc = w2.heap.size := ⟨_, rfl⟩
      rw [← hV, ← hbc]
      have gc : V.heap[bc]? = some (.cells #[.string a1, .int .i64 (szN a2), .string a3, .bool xb, .string ⟨#[]⟩] 26 (0, 0)) := by rw [hV, hbc]; exact Array.getElem?_push_size
      have gv : V.heap[w.heap.size]? = some (.cells #[.string ⟨#[]⟩, .int .i64 0, .string ⟨#[]⟩, .bool false, .string ⟨#[]⟩, .int .i64 0] 30 (0, 0)) := by rw [hV, Below.heap_alloc _ _ _ (ltK gs2)]; exact gs2
      have HV := hidK (show Below w.heap.size w V by rw [hV]; exact HB2.out.trans ((below1 _ _).mono HB2.out.size))
      have hbw : ¬ bc = w.heap.size := by rw [hbc]; exact Nat.ne_of_gt (ltK gs2)
      have hbw' : ¬ w.heap.size = bc := fun h => hbw h.symm
      rename_i hHeld
      clear hHeld hV hbc gs2 hb2 c1 c2 c3 c4 y1 y2 y3 y4 hg0 hg1 hg2 hg3 hN hsd hgw HL HB HB2 HG
      have e0 : V.cell? ⟨bc, 0, none⟩ = some (.string a1) := cellK gc 0
      have e1 : V.cell? ⟨bc, 1, none⟩ = some (.int .i64 (szN a2)) := cellK gc 1
      have e2 : V.cell? ⟨bc, 2, none⟩ = some (.string a3) := cellK gc 2
      have e3 : V.cell? ⟨bc, 3, none⟩ = some (.bool xb) := cellK gc 3
      have e4 : V.cell? ⟨bc, 4, none⟩ = some (.string ⟨#[]⟩) := cellK gc 4
      have HZ1 := hidK (HZ.out 1 a1 rfl)
      have HZ3 := hidK (HZ.out 3 a3 rfl)
      go_wp2_with fail
      refine (iclaimText_any a1 (szN a2) a3 xb ⟨#[]⟩ _ HZ1.out HZ3.out (by decide) (HT.out.below HV.out)).mono ?_
      rintro e w3 ⟨rfl, hb3⟩
      have gc3 := (hb3.block bc (ltK gc)).trans gc
      have gr3 := (hb3.block w.heap.size (ltK gv)).trans gv
      have k0 : w3.cell? ⟨bc, 0, none⟩ = some (.string a1) := cellK gc3 0
      have k1 : w3.cell? ⟨bc, 1, none⟩ = some (.int .i64 (szN a2)) := cellK gc3 1
      have k2 : w3.cell? ⟨bc, 2, none⟩ = some (.string a3) := cellK gc3 2
      have k3 : w3.cell? ⟨bc, 3, none⟩ = some (.bool xb) := cellK gc3 3
      have k4 : w3.cell? ⟨bc, 4, none⟩ = some (.string ⟨#[]⟩) := cellK gc3 4
      have r0 : w3.cell? ⟨w.heap.size, 0, none⟩ = some (.string ⟨#[]⟩) := cellK gr3 0
      have q0 : w3.frozen? ⟨w.heap.size, 0, none⟩ = false := frzK gr3 0
      have r1 : w3.cell? ⟨w.heap.size, 1, none⟩ = some (.int .i64 0) := cellK gr3 1
      have q1 : w3.frozen? ⟨w.heap.size, 1, none⟩ = false := frzK gr3 1
      have r2 : w3.cell? ⟨w.heap.size, 2, none⟩ = some (.string ⟨#[]⟩) := cellK gr3 2
      have q2 : w3.frozen? ⟨w.heap.size, 2, none⟩ = false := frzK gr3 2
      have r3 : w3.cell? ⟨w.heap.size, 3, none⟩ = some (.bool false) := cellK gr3 3
      have q3 : w3.frozen? ⟨w.heap.size, 3, none⟩ = false := frzK gr3 3
      have r4 : w3.cell? ⟨w.heap.size, 4, none⟩ = some (.string ⟨#[]⟩) := cellK gr3 4
      have q4 : w3.frozen? ⟨w.heap.size, 4, none⟩ = false := frzK gr3 4
      have r5 : w3.cell? ⟨w.heap.size, 5, none⟩ = some (.int .i64 0) := cellK gr3 5
      have q5 : w3.frozen? ⟨w.heap.size, 5, none⟩ = false := frzK gr3 5
      have HB3 := hidK (HV.out.trans (hb3.mono HV.out.size))
      clear hb3 gc gv gc3 gr3 e0 e1 e2 e3 e4
      by_cases hT : claimX a1 (szN a2) a3 xb ⟨#[]⟩ = s
      · have hq : ((claimX a1 (szN a2) a3 xb ⟨#[]⟩).toList == s.toList) = true := by rw [hT]; simp
        go_wp2_with fail
        refine bodyPost_ret (v := claimOutV a1 (szN a2) a3 xb ⟨#[]⟩ 0) (by simp [results, Tryd.results12, go_sem, claimOutV, *]) rfl ⟨?_, set_below6 (Nat.le_refl _) HB3.out⟩
        rw [← claimR_five h8 HF.out]
        unfold claimFive
        rw [← HX.out, if_pos hT]
      · have hq : ((claimX a1 (szN a2) a3 xb ⟨#[]⟩).toList == s.toList) = false := tl_no hT
        go_wp2_with fail
        refine bodyPost_ret (v := claimBad 3) (by simp [results, Tryd.results12, go_sem, claimBad, claimOutV, *]) rfl ⟨?_, set_below6 (Nat.le_refl _) HB3.out⟩
        rw [← claimR_five h8 HF.out]
        unfold claimFive
        rw [← HX.out, if_neg hT]
    · -- the block first, then the call
      have HB2 := hidK (HB.out.trans ((below1 _ _).mono HB.out.size |>.trans (drewK hb2 (Nat.le_trans HB.out.size (by simp)))))
      have gs2 : w2.heap[w.heap.size]? = _ := (hb2.block w.heap.size (Nat.lt_of_lt_of_le (ltK HG.out) (by simp))).trans ((Below.heap_alloc _ _ _ (ltK HG.out)).trans HG.out)
      have gx2 : w2.heap[w1.heap.size]? = some (.cells #[.string ⟨#[]⟩, .int .i64 0, .string ⟨#[]⟩, .bool false, .string ⟨#[]⟩] 26 (0, 0)) := (hb2.block w1.heap.size (by simp)).trans Array.getElem?_push_size
      obtain ⟨V, hV⟩ : ∃ V, V = ((((w2.setCell ⟨w1.heap.size, 0, none⟩ (.string a1)).setCell ⟨w1.heap.size, 1, none⟩ (.int .i64 (szN a2))).setCell ⟨w1.heap.size, 2, none⟩ (.string a3)).setCell ⟨w1.heap.size, 3, none⟩ (.bool xb)).setCell ⟨w1.heap.size, 4, none⟩ (.string ⟨#[]⟩) := ⟨_, rfl⟩
      obtain ⟨bc, hbc⟩ : ∃ bc, bc = w1.heap.size := ⟨_, rfl⟩
      have hwlt := ltK HG.out
      rw [← hV, ← hbc]
      rw [← hbc] at hV gx2 hwlt
      have gc : V.heap[bc]? = some (.cells #[.string a1, .int .i64 (szN a2), .string a3, .bool xb, .string ⟨#[]⟩] 26 (0, 0)) := set5K gx2 hV
      have gv : V.heap[w.heap.size]? = some (.cells #[.string ⟨#[]⟩, .int .i64 0, .string ⟨#[]⟩, .bool false, .string ⟨#[]⟩, .int .i64 0] 30 (0, 0)) := set_keeps5 (Nat.ne_of_lt hwlt) gs2 hV
      have HV := hidK (show Below w.heap.size w V from set_below5 (Nat.le_of_lt hwlt) HB2.out hV)
      have hbw : ¬ bc = w.heap.size := Nat.ne_of_gt hwlt
      have hbw' : ¬ w.heap.size = bc := fun h => hbw h.symm
      rename_i hHeld
      clear hHeld hV hbc gs2 gx2 hwlt hb2 c1 c2 c3 c4 y1 y2 y3 y4 hg0 hg1 hg2 hg3 hN hsd hgw m0 f0 m1 f1 m2 f2 m3 f3 m4 f4 HL HB HB2 HG
      have e0 : V.cell? ⟨bc, 0, none⟩ = some (.string a1) := cellK gc 0
      have e1 : V.cell? ⟨bc, 1, none⟩ = some (.int .i64 (szN a2)) := cellK gc 1
      have e2 : V.cell? ⟨bc, 2, none⟩ = some (.string a3) := cellK gc 2
      have e3 : V.cell? ⟨bc, 3, none⟩ = some (.bool xb) := cellK gc 3
      have e4 : V.cell? ⟨bc, 4, none⟩ = some (.string ⟨#[]⟩) := cellK gc 4
      have HZ1 := hidK (HZ.out 1 a1 rfl)
      have HZ3 := hidK (HZ.out 3 a3 rfl)
      go_wp2_with fail
      refine (iclaimText_any a1 (szN a2) a3 xb ⟨#[]⟩ _ HZ1.out HZ3.out (by decide) (HT.out.below HV.out)).mono ?_
      rintro e w3 ⟨rfl, hb3⟩
      have gc3 := (hb3.block bc (ltK gc)).trans gc
      have gr3 := (hb3.block w.heap.size (ltK gv)).trans gv
      have k0 : w3.cell? ⟨bc, 0, none⟩ = some (.string a1) := cellK gc3 0
      have k1 : w3.cell? ⟨bc, 1, none⟩ = some (.int .i64 (szN a2)) := cellK gc3 1
      have k2 : w3.cell? ⟨bc, 2, none⟩ = some (.string a3) := cellK gc3 2
      have k3 : w3.cell? ⟨bc, 3, none⟩ = some (.bool xb) := cellK gc3 3
      have k4 : w3.cell? ⟨bc, 4, none⟩ = some (.string ⟨#[]⟩) := cellK gc3 4
      have r0 : w3.cell? ⟨w.heap.size, 0, none⟩ = some (.string ⟨#[]⟩) := cellK gr3 0
      have q0 : w3.frozen? ⟨w.heap.size, 0, none⟩ = false := frzK gr3 0
      have r1 : w3.cell? ⟨w.heap.size, 1, none⟩ = some (.int .i64 0) := cellK gr3 1
      have q1 : w3.frozen? ⟨w.heap.size, 1, none⟩ = false := frzK gr3 1
      have r2 : w3.cell? ⟨w.heap.size, 2, none⟩ = some (.string ⟨#[]⟩) := cellK gr3 2
      have q2 : w3.frozen? ⟨w.heap.size, 2, none⟩ = false := frzK gr3 2
      have r3 : w3.cell? ⟨w.heap.size, 3, none⟩ = some (.bool false) := cellK gr3 3
      have q3 : w3.frozen? ⟨w.heap.size, 3, none⟩ = false := frzK gr3 3
      have r4 : w3.cell? ⟨w.heap.size, 4, none⟩ = some (.string ⟨#[]⟩) := cellK gr3 4
      have q4 : w3.frozen? ⟨w.heap.size, 4, none⟩ = false := frzK gr3 4
      have r5 : w3.cell? ⟨w.heap.size, 5, none⟩ = some (.int .i64 0) := cellK gr3 5
      have q5 : w3.frozen? ⟨w.heap.size, 5, none⟩ = false := frzK gr3 5
      have HB3 := hidK (HV.out.trans (hb3.mono HV.out.size))
      clear hb3 gc gv gc3 gr3 e0 e1 e2 e3 e4
      by_cases hT : claimX a1 (szN a2) a3 xb ⟨#[]⟩ = s
      · have hq : ((claimX a1 (szN a2) a3 xb ⟨#[]⟩).toList == s.toList) = true := by rw [hT]; simp
        go_wp2_with fail
        refine bodyPost_ret (v := claimOutV a1 (szN a2) a3 xb ⟨#[]⟩ 0) (by simp [results, Tryd.results12, go_sem, claimOutV, *]) rfl ⟨?_, set_below6 (Nat.le_refl _) HB3.out⟩
        rw [← claimR_five h8 HF.out]
        unfold claimFive
        rw [← HX.out, if_pos hT]
      · have hq : ((claimX a1 (szN a2) a3 xb ⟨#[]⟩).toList == s.toList) = false := tl_no hT
        go_wp2_with fail
        refine bodyPost_ret (v := claimBad 3) (by simp [results, Tryd.results12, go_sem, claimBad, claimOutV, *]) rfl ⟨?_, set_below6 (Nat.le_refl _) HB3.out⟩
        rw [← claimR_five h8 HF.out]
        unfold claimFive
        rw [← HX.out, if_neg hT]
  · have hm' : ¬ (m : Int) = 5 := by omega
    have hn5 : ¬ (wordsB s).length = 5 := by rw [hrow.1]; exact hm
    have hmb : ((m : Int) == 5) = false := by simp; omega
    have HN := hidK hn5
    have r0 : w1.cell? ⟨w.heap.size, 0, none⟩ = some (.string ⟨#[]⟩) := cellK gr 0
    have q0 : w1.frozen? ⟨w.heap.size, 0, none⟩ = false := frzK gr 0
    have r1 : w1.cell? ⟨w.heap.size, 1, none⟩ = some (.int .i64 0) := cellK gr 1
    have q1 : w1.frozen? ⟨w.heap.size, 1, none⟩ = false := frzK gr 1
    have r2 : w1.cell? ⟨w.heap.size, 2, none⟩ = some (.string ⟨#[]⟩) := cellK gr 2
    have q2 : w1.frozen? ⟨w.heap.size, 2, none⟩ = false := frzK gr 2
    have r3 : w1.cell? ⟨w.heap.size, 3, none⟩ = some (.bool false) := cellK gr 3
    have q3 : w1.frozen? ⟨w.heap.size, 3, none⟩ = false := frzK gr 3
    have r4 : w1.cell? ⟨w.heap.size, 4, none⟩ = some (.string ⟨#[]⟩) := cellK gr 4
    have q4 : w1.frozen? ⟨w.heap.size, 4, none⟩ = false := frzK gr 4
    have r5 : w1.cell? ⟨w.heap.size, 5, none⟩ = some (.int .i64 0) := cellK gr 5
    have q5 : w1.frozen? ⟨w.heap.size, 5, none⟩ = false := frzK gr 5
    clear gr hrow hn5
    go_wp2_with fail
    exact bodyPost_ret (v := claimBad 3) (by simp [results, Tryd.results12, go_sem, claimBad, claimOutV, *]) rfl ⟨by rw [← claimR_not h8 HN.out], set_below6 (Nat.le_refl _) HB.out⟩

end Go.Proofs.YtegnnheljhielabDoor

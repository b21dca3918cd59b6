/-
  PodText of the specification and of the program.
-/
import Derived.Test.YtbpnmhebhmakdaaDoorSJoin
import Derived.Test.YtbpnmhebhmakdaaDoorQText
import Derived.Test.YtbpnmhebhmakdaaDoorWide
import Derived.Deep.RegionHeld
import Derived.Laws.AppendOwn
import Derived.Laws.AppendOwnNone
namespace Go.Proofs.YtbpnmhebhmakdaaDoor
open Go.RowKit

def wPod : ByteArray := ⟨#[112, 111, 100]⟩
def wDash : ByteArray := ⟨#[45]⟩
open Classical in
noncomputable def zoneT (z : ByteArray) : ByteArray := if z = ⟨#[]⟩ then wDash else z
noncomputable def podHead (n : ByteArray) (c : Int) (z : ByteArray) : List ByteArray := [wPod, n, cpText c, zoneT z]
/-- A right pod's text. -/
noncomputable def podT (n : ByteArray) (c : Int) (z : ByteArray) (zs : List ByteArray) : ByteArray := wordsOf (podHead n c z ++ zs)
open Classical in
/-- What PodText answers. -/
noncomputable def podX (n : ByteArray) (c : Int) (z : ByteArray) (zs : List ByteArray) (d : ByteArray) (p : Int) : ByteArray := if PodOk n c z zs d p ∧ p = 0 then podT n c z zs else ⟨#[]⟩
theorem podX_no {n : ByteArray} {c : Int} {z : ByteArray} {zs : List ByteArray} {d : ByteArray} {p : Int} (h : ¬ (PodOk n c z zs d p ∧ p = 0)) : (⟨#[]⟩ : ByteArray) = podX n c z zs d p := by unfold podX; rw [if_neg h]
theorem podX_yes {n : ByteArray} {c : Int} {z : ByteArray} {zs : List ByteArray} {d : ByteArray} (h : PodOk n c z zs d 0) : podT n c z zs = podX n c z zs d 0 := by unfold podX; rw [if_pos ⟨h, rfl⟩]
theorem zoneT_no : zoneT ⟨#[]⟩ = wDash := by unfold zoneT; rw [if_pos rfl]
theorem zoneT_yes {z : ByteArray} (h : ¬ z = ⟨#[]⟩) : zoneT z = z := by unfold zoneT; rw [if_neg h]
theorem pwords_data (xs : List ByteArray) : (wordsOf xs).data.toList = Lib.join (xs.map (·.data.toList)) [32] := rfl
theorem words_snoc (x : ByteArray) (xs : List ByteArray) (y : ByteArray) : wordsOf (x :: (xs ++ [y])) = wordsOf (x :: xs) ++ ⟨#[32]⟩ ++ y := by
  apply bytes_ext
  rw [pwords_data, bytes_append, bytes_append, pwords_data, List.map_cons, List.map_cons, Lib.join_cons, Lib.join_cons]
  simp [Lib.joinTail]
theorem pod_start_no (n : ByteArray) (c : Int) : (⟨#[112, 111, 100, 32]⟩ : ByteArray) ++ n ++ ⟨#[32]⟩ ++ cpText c ++ ⟨#[32]⟩ ++ ⟨#[45]⟩ = wordsOf (podHead n c ⟨#[]⟩) := by
  apply bytes_ext
  rw [pwords_data, podHead, zoneT_no]
  simp [Lib.join, List.intercalate, List.intersperse, wPod, wDash]
theorem pod_start_yes (n : ByteArray) (c : Int) {z : ByteArray} (h : ¬ z = ⟨#[]⟩) : (⟨#[112, 111, 100, 32]⟩ : ByteArray) ++ n ++ ⟨#[32]⟩ ++ cpText c ++ ⟨#[32]⟩ ++ z = wordsOf (podHead n c z) := by
  apply bytes_ext
  rw [pwords_data, podHead, zoneT_yes h]
  simp [Lib.join, List.intercalate, List.intersperse, wPod]
theorem pod_step {n : ByteArray} {c : Int} {z : ByteArray} {zs : List ByteArray} {k : Nat} {x : ByteArray} (hx : zs[k]? = some x) : wordsOf (podHead n c z ++ zs.take k) ++ ⟨#[32]⟩ ++ x = wordsOf (podHead n c z ++ zs.take (k + 1)) := by
  rw [List.take_add_one, hx]
  have e : podHead n c z ++ (zs.take k ++ (some x).toList) = wPod :: (([n, cpText c, zoneT z] ++ zs.take k) ++ [x]) := by simp [podHead]
  rw [e, words_snoc]
  simp [podHead]
theorem size_appP (a b : ByteArray) : (a ++ b).size = a.size + b.size := by rw [Lib.size_eq, bytes_append, List.length_append, ← Lib.size_eq, ← Lib.size_eq]
theorem cpText_size (c : Int) : (cpText c).size ≤ 9 := by
  unfold cpText mtext
  split
  · exact Nat.zero_le _
  · split
    · have := dec_size (n := c / 1000) (by omega)
      rw [size_appP]
      have e : wNo.size = 0 := rfl
      omega
    · have := dec_size (n := c) (by omega)
      rw [size_appP]
      have e : wM.size = 1 := rfl
      omega
theorem BoolB.yesP {p : Prop} {w w' : World} {e : Ending} (h : BoolB p w e w') (hp : p) : e = .returned (.bool true) ∧ Below w.heap.size w w' := by
  obtain ⟨r, rfl, hr, hb⟩ := h
  exact ⟨by rw [hr.2 hp], hb⟩
theorem BoolB.noP {p : Prop} {w w' : World} {e : Ending} (h : BoolB p w e w') (hp : ¬ p) : e = .returned (.bool false) ∧ Below w.heap.size w w' := by
  obtain ⟨r, rfl, hr, hb⟩ := h
  cases r
  · exact ⟨rfl, hb⟩
  · exact absurd (hr.1 rfl) hp
theorem below_drewP {B : Nat} {x w1 : World} (h : Below x.drew.heap.size x.drew w1) (hB : B ≤ x.heap.size) : Below B x w1 := ⟨h.os, h.tape, h.output, h.size, fun k hk => h.block k (Nat.lt_of_lt_of_le hk hB)⟩
theorem lt_of_someP {w : World} {b : Nat} {o : Obj} (h : w.heap[b]? = some o) : b < w.heap.size := by
  rcases Nat.lt_or_ge b w.heap.size with h1 | h1
  · exact h1
  · rw [Array.getElem?_eq_none h1] at h; cases h

theorem lens_le {xs : List (List UInt8)} (h : ∀ x ∈ xs, x.length ≤ 20) : Lib.lens xs ≤ 20 * xs.length := by
  induction xs with
  | nil => simp [Lib.lens]
  | cons a l ih =>
    have h1 := h a (by simp)
    have h2 := ih fun x hx => h x (by simp [hx])
    simp only [Lib.lens, List.map_cons, List.sum_cons, List.length_cons] at h2 ⊢
    omega
theorem zoneT_size {z : ByteArray} (h : ZoneOk z) : (zoneT z).size ≤ 20 := by
  by_cases hz : z = ⟨#[]⟩
  · subst hz; rw [zoneT_no]; decide
  · rw [zoneT_yes hz]
    rcases h with h | h
    · exact absurd h hz
    · exact h.2.1
theorem pod_len {n : ByteArray} {c : Int} {z : ByteArray} {zs : List ByteArray} {d : ByteArray} {p : Int} (h : PodOk n c z zs d p) : (Lib.join ((podHead n c z ++ zs).map (·.data.toList)) [32]).length ≤ 1000 := by
  have hn := h.1.2.1
  have hc := cpText_size c
  have hz := zoneT_size h.2.2.1
  have hl := h.2.2.2.1.1
  have hs : ∀ x ∈ zs.map (·.data.toList), x.length ≤ 20 := by
    intro x hx
    obtain ⟨y, hy, rfl⟩ := List.mem_map.1 hx
    obtain ⟨i, hi, rfl⟩ := List.getElem_of_mem hy
    have := (h.2.2.2.1.2 i _ (List.getElem?_eq_getElem hi)).1.2.1
    rw [Lib.size_eq] at this
    exact this
  have hL := lens_le hs
  rw [Lib.size_eq] at hn hc hz
  have e : (podHead n c z ++ zs).map (·.data.toList) = wPod.data.toList :: (n.data.toList :: (cpText c).data.toList :: (zoneT z).data.toList :: zs.map (·.data.toList)) := by simp [podHead]
  rw [e, Lib.join_cons, List.length_append, Lib.joinTail_length]
  simp only [Lib.lens, List.map_cons, List.sum_cons, List.length_cons, List.length_map] at hL ⊢
  have hw : wPod.data.toList.length = 3 := rfl
  simp only [List.length_nil]
  omega
theorem infoStrP : (Tryd.prog.info? 9).map (fun i => (i.zero, i.size, i.bytes)) = some (some (.string ⟨#[]⟩), 1, 16) := by kernel_rfl
theorem own_cells {w : World} {base n : Nat} {e : TypeId} {v : Value} {xs : List ByteArray} (h : w.ownsRow base e 1 v n (xs.map Value.string)) (h0 : 0 < n) :
    ∃ g cap, v = .slice (some ⟨g, 0, none⟩) n cap ∧ n ≤ cap ∧ cap ≤ 9223372036854775807 ∧ g < w.heap.size ∧ xs.length = n ∧ ∀ (j : Nat) x, xs[j]? = some x → w.cell? ⟨g, 0 + j, none⟩ = some (.string x) := by
  obtain ⟨hl, h⟩ := h
  rcases h with ⟨_, h1⟩ | ⟨g, cap, cur, rfl, _, hg, hnc, hcm, hsz, htk⟩
  · omega
  · refine ⟨g, cap, rfl, hnc, by unfold maxLen at hcm; omega, lt_of_someP hg, by simpa using hl, fun j x hx => ?_⟩
    rw [Nat.zero_add, cellK hg]
    have hj : j < n := by
      have := (List.getElem?_eq_some_iff.1 hx).1
      simp at hl; omega
    have e1 : (cur.toList.take (n * 1))[j]? = some (.string x) := by rw [htk]; simp [hx]
    rw [List.getElem?_take, if_pos (by omega)] at e1
    simpa using e1

set_option maxHeartbeats 400000 in
theorem zoneText_any (z : ByteArray) (w : World) :
    Calls Tryd.prog 30 #[.string z] w fun e w' => e = .returned (.string (zoneT z)) ∧ w = w' := by
  by_cases h : z = ⟨#[]⟩
  · subst h
    go_enter Tryd.func30, Tryd.ntmps30
    go_wp2
    go_ret
    exact ⟨ret_str zoneT_no.symm, rfl⟩
  · have hq := isE_no h
    go_enter Tryd.func30, Tryd.ntmps30
    go_wp2
    go_ret
    exact ⟨ret_str (zoneT_yes h).symm, rfl⟩

set_option maxHeartbeats 3200000 in
theorem ipodText_any (n : ByteArray) (c : Int) (z : ByteArray) (a : Option Addr) (len cap : Nat) (zs : List ByteArray) (d : ByteArray) (p : Int) (w : World) (hn : n.size ≤ 9223372036854775807) (hz : z.size ≤ 9223372036854775807) (hd : d.size ≤ 9223372036854775807) (hr : TxRow w a len cap zs) (hnil : a = none → cap = 0) (ht : ptab w) :
    Calls Tryd.prog 17 #[.agg #[.string n, .int .i64 c, .string z, .slice a len cap, .string d, .int .i64 p]] w fun e w' => e = .returned (.string (podX n c z zs d p)) ∧ Below w.heap.size w w' := by
  have HT := hidK ht
  have HR : Hid (TxRow w a len cap zs) := hr
  clear ht hr
  go_enter Tryd.func17, Tryd.ntmps17
  go_wp2_with fail
  refine (ipod_any n c z a len cap zs d p _ hn hz hd (HR.out.below (below1 _ _))).mono ?_
  rintro e w1 ⟨r, rfl, hr, hb⟩
  obtain ⟨g, hb1, -⟩ := slotK hb
  have HB := hidK hb1
  have HG := hidK g
  have HL := hidK (lt_of_someP g)
  have c0 : w1.cell? ⟨w.heap.size, 0, none⟩ = some (.string n) := cellK g 0
  have c1 : w1.cell? ⟨w.heap.size, 1, none⟩ = some (.int .i64 c) := cellK g 1
  have c2 : w1.cell? ⟨w.heap.size, 2, none⟩ = some (.string z) := cellK g 2
  have c3 : w1.cell? ⟨w.heap.size, 3, none⟩ = some (.slice a len cap) := cellK g 3
  have c5 : w1.cell? ⟨w.heap.size, 5, none⟩ = some (.int .i64 p) := cellK g 5
  clear hb hb1 g
  by_cases hq : r = true
  case neg =>
    have HN := hidK (fun h => hq (hr.2 h))
    have hrf : r = false := by simpa using hq
    clear hr
    go_wp2_with fail
    go_ret
    exact ⟨ret_str (podX_no fun h => HN.out h.1), HB.out⟩
  have h0 := hidK (hr.1 hq)
  subst hq
  clear hr
  by_cases hp : p = 0
  case neg =>
    have hpq : (p == 0) = false := by simp [hp]
    have HN := hidK hp
    clear hp
    go_wp2_with fail
    go_ret
    exact ⟨ret_str (podX_no fun h => HN.out h.2), HB.out⟩
  subst hp
  go_wp2_with fail
  have HP := hidK (HT.out.below HB.out.drew)
  go_region_held (fun w' => w'.cell? ⟨w.heap.size, 0, none⟩ = some (.string n) ∧ w'.cell? ⟨w.heap.size, 1, none⟩ = some (.int .i64 c) ∧ w'.cell? ⟨w.heap.size, 2, none⟩ = some (.string z) ∧ w'.cell? ⟨w.heap.size, 3, none⟩ = some (.slice a len cap)) (go_keep)
    (first
      | (go_at_call 29; refine (icpuText_any c _ HP.out).mono ?_; rintro e w2 ⟨rfl, hb2⟩; have y0 : w2.cell? ⟨w.heap.size, 0, none⟩ = some (.string n) := (cell_below hb2 HL.out).trans c0; have y1 : w2.cell? ⟨w.heap.size, 1, none⟩ = some (.int .i64 c) := (cell_below hb2 HL.out).trans c1; have y2 : w2.cell? ⟨w.heap.size, 2, none⟩ = some (.string z) := (cell_below hb2 HL.out).trans c2; have y3 : w2.cell? ⟨w.heap.size, 3, none⟩ = some (.slice a len cap) := (cell_below hb2 HL.out).trans c3)
      | (go_at_call 30; refine (zoneText_any z _).mono ?_; rintro e w3 ⟨rfl, rfl⟩))
  have h20 : (Lib.join ((podHead n c z ++ zs).map (·.data.toList)) [32]).length ≤ 140737488355328 := Nat.le_trans (pod_len h0.out) (by decide)
  have HJ := hidK h20
  have hlen3 : len ≤ 3 := by have := h0.out.2.2.2.1.1; have := HR.out.1; omega
  have HY := hidK (show w2.cell? ⟨w.heap.size, 3, none⟩ = some (.slice a len cap) from y3)
  have HB2 := hidK (HB.out.trans (below_drewP hb2 HB.out.size))
  have HL2 := hidK (Nat.lt_of_lt_of_le HL.out hb2.size)
  clear h20 y0 y1 y2 y3 c0 c1 c2 c3 c5 hb2 HP HT HG HL HB
  obtain ⟨V, hV⟩ : ∃ V, V = w2.alloc (.cells #[.string ⟨#[112, 111, 100]⟩, .string n, .string (cpText c), .string (zoneT z)] 9) := ⟨_, rfl⟩
  have d3 : V.cell? ⟨w.heap.size, 3, none⟩ = some (.slice a len cap) := by rw [hV]; exact (cell_below (below1 _ _) HL2.out).trans HY.out
  have hown : V.ownsRow w2.heap.size 9 1 (.slice (some ⟨w2.heap.size, 0, none⟩) 4 4) 4 ((podHead n c z).map Value.string) := by
    refine ⟨rfl, .inr ⟨w2.heap.size, 4, #[.string ⟨#[112, 111, 100]⟩, .string n, .string (cpText c), .string (zoneT z)], rfl, Nat.le_refl _, ?_, Nat.le_refl _, by unfold maxLen; omega, rfl, rfl⟩⟩
    rw [hV]
    exact Array.getElem?_push_size
  have HV := hidK (show Below w.heap.size w V by rw [hV]; exact HB2.out.trans ((below1 _ _).mono HB2.out.size))
  have HVs := hidK (show w2.heap.size ≤ V.heap.size by rw [hV]; simp)
  have HS2 := hidK HB2.out.size
  rename_i hHeld
  clear hHeld
  rw [← hV]
  clear hV HY HL2 HB2
  obtain ⟨i0, hi, hz0, hz1, hz2⟩ := info_parts infoStrP
  obtain ⟨htl, htc, htm, -, hta⟩ := HR.out.below HV.out
  cases a with
  | none =>
    obtain rfl := hnil rfl
    obtain rfl : len = 0 := by omega
    obtain rfl : zs = [] := List.eq_nil_of_length_eq_zero htl
    go_wp2_with (first | (at_builtin; refine wpList_append_own_none rfl _ _ 22 rfl w2.heap.size 9 i0 1 Tryd.underlying22 hi _ 4 _ rfl hown rfl ?_))
    refine (worded_any w2.heap.size 0 4 (podHead n c z ++ []) 4 _ ?_ ?_ (by simp [podHead]) (by decide) (by decide) HJ.out).mono ?_
    · obtain ⟨g, cp, e, -, -, -, -, hc⟩ := own_cells hown (by decide)
      cases e
      simpa using hc
    · obtain ⟨g, cp, e, -, -, hg, -, -⟩ := own_cells hown (by decide)
      cases e
      exact hg
    rintro e w4 ⟨rfl, hb4⟩
    go_wp2_with fail
    go_ret
    exact ⟨ret_str (podX_yes h0.out), HV.out.trans (hb4.mono HV.out.size)⟩
  | some ad =>
    have HN : Hid (∀ j u, (zs.map Value.string)[j]? = some u → V.cell? (ad.add j) = some u) := by
      intro j u hu
      rw [List.getElem?_map] at hu
      obtain ⟨x, hx, rfl⟩ := Option.map_eq_some_iff.1 hu
      rcases hta with h | ⟨b, o, e, _, hc⟩
      · subst h; simp at hx
      · cases e
        rw [Addr.add_lit]
        exact hc j x hx
    go_wp2_with (first | (at_builtin; refine wpList_append_own _ rfl _ _ 22 rfl w2.heap.size 9 i0 (.string ⟨#[]⟩) 1 16 Tryd.underlying22 hi hz0 hz1 hz2 rfl (by decide) _ 4 _ rfl hown ad len cap (zs.map Value.string) rfl ?c1 HN.out ?c3 ?c4 ?c5 HVs.out ?_))
    case c1 => simpa using htl
    case c3 => intro u hu; obtain ⟨x, _, rfl⟩ := List.mem_map.1 hu; rfl
    case c4 => unfold maxLen; omega
    case c5 => omega
    rintro v' w3 hown3 hgrow -
    rw [← List.map_append] at hown3
    obtain ⟨g, cp, rfl, hgc, -, hg, hgl, hcells⟩ := own_cells hown3 (by omega)
    have HB3 := hidK (HV.out.grown hgrow HV.out.size (fun k hk => by cases hk; exact HS2.out))
    have HW := hidK (worded_any g 0 cp (podHead n c z ++ zs) (4 + len) w3 hcells hg hgl (by omega) hgc HJ.out)
    clear hown3 hgrow hcells hown d3 hi hz0 hz1 hz2 hta HN HR
    go_wp2_with fail
    refine HW.out.mono ?_
    rintro e w4 ⟨rfl, hb4⟩
    go_wp2_with fail
    go_ret
    exact ⟨ret_str (podX_yes h0.out), HB3.out.trans (hb4.mono HB3.out.size)⟩

set_option maxHeartbeats 3200000 in
theorem spodText_any (n : ByteArray) (c : Int) (z : ByteArray) (a : Option Addr) (len cap : Nat) (zs : List ByteArray) (d : ByteArray) (p : Int) (w : World) (hn : n.size ≤ 9223372036854775807) (hz : z.size ≤ 9223372036854775807) (hd : d.size ≤ 9223372036854775807) (hr : TxRow w a len cap zs) :
    Calls Tryd.prog 11 #[.agg #[.string n, .int .i64 c, .string z, .slice a len cap, .string d, .int .i64 p]] w fun e w' => e = .returned (.string (podX n c z zs d p)) ∧ Below w.heap.size w w' := by
  have HR : Hid (TxRow w a len cap zs) := hr
  clear hr
  go_enter Tryd.func11, Tryd.ntmps11
  go_wp2_with fail
  refine (spod_any n c z a len cap zs d p _ hn hz hd (HR.out.below (below1 _ _))).mono ?_
  rintro e w1 ⟨r, rfl, hr, hb⟩
  obtain ⟨g, hb1, -⟩ := slotK hb
  have HB := hidK hb1
  have HG := hidK g
  have HL := hidK (lt_of_someP g)
  have c0 : w1.cell? ⟨w.heap.size, 0, none⟩ = some (.string n) := cellK g 0
  have c1 : w1.cell? ⟨w.heap.size, 1, none⟩ = some (.int .i64 c) := cellK g 1
  have c2 : w1.cell? ⟨w.heap.size, 2, none⟩ = some (.string z) := cellK g 2
  have c3 : w1.cell? ⟨w.heap.size, 3, none⟩ = some (.slice a len cap) := cellK g 3
  have c5 : w1.cell? ⟨w.heap.size, 5, none⟩ = some (.int .i64 p) := cellK g 5
  clear hb hb1 g
  by_cases hq : r = true
  case neg =>
    have HN := hidK (fun h => hq (hr.2 h))
    have hrf : r = false := by simpa using hq
    clear hr
    go_wp2_with fail
    go_ret
    exact ⟨ret_str (podX_no fun h => HN.out h.1), HB.out⟩
  have h0 := hidK (hr.1 hq)
  subst hq
  clear hr
  by_cases hp : p = 0
  case neg =>
    have hpq : (p == 0) = false := by simp [hp]
    have HN := hidK hp
    clear hp
    go_wp2_with fail
    go_ret
    exact ⟨ret_str (podX_no fun h => HN.out h.2), HB.out⟩
  subst hp
  have hn20 : n.size ≤ 20 := h0.out.1.2.1
  have hc9 := cpText_size c
  go_wp2_with fail
  go_region_held (fun w' => w'.cell? ⟨w.heap.size, 0, none⟩ = some (.string n) ∧ w'.cell? ⟨w.heap.size, 1, none⟩ = some (.int .i64 c) ∧ w'.cell? ⟨w.heap.size, 2, none⟩ = some (.string z) ∧ w'.cell? ⟨w.heap.size, 3, none⟩ = some (.slice a len cap)) (go_keep)
    (first
      | (go_at_call 22; refine (scputext_any c _).mono ?_; rintro e w2 ⟨rfl, hb2⟩; have y0 : w2.cell? ⟨w.heap.size, 0, none⟩ = some (.string n) := (cell_below hb2 HL.out).trans c0; have y1 : w2.cell? ⟨w.heap.size, 1, none⟩ = some (.int .i64 c) := (cell_below hb2 HL.out).trans c1; have y2 : w2.cell? ⟨w.heap.size, 2, none⟩ = some (.string z) := (cell_below hb2 HL.out).trans c2; have y3 : w2.cell? ⟨w.heap.size, 3, none⟩ = some (.slice a len cap) := (cell_below hb2 HL.out).trans c3))
  all_goals (
    have HB2 := hidK (HB.out.trans (below_drewP hb2 HB.out.size))
    have HRow := hidK (HR.out.below HB2.out)
    have hl3 : len ≤ 3 := by have := h0.out.2.2.2.1.1; have := HR.out.1; omega
    rename_i hHeld
    clear hHeld c0 c1 c2 c3 c5 hb2 HG HL y0 y1
    by_cases hz0 : z = ⟨#[]⟩
    · subst hz0
      go_wp2_with fail
      go_loop [3, 4] (fun t i => ∃ (k : Nat) (s : ByteArray), k ≤ len ∧ t = .string s ∧ i = .int .i64 k ∧ Hid (s = wordsOf (podHead n c ⟨#[]⟩ ++ zs.take k)) ∧ s.size ≤ 100 + 21 * k) (fun _ i => len - (intOf i).toNat)
      case atStart => exact ⟨0, _, by omega, rfl, rfl, by show _ = _; rw [List.take_zero, List.append_nil]; exact pod_start_no n c, by simp only [size_appP]; have e1 : (⟨#[112, 111, 100, 32]⟩ : ByteArray).size = 4 := rfl; have e2 : (⟨#[32]⟩ : ByteArray).size = 1 := rfl; have e3 : (⟨#[45]⟩ : ByteArray).size = 1 := rfl; omega⟩
      case round =>
        obtain ⟨k, s, hk, rfl, rfl, HS, hss⟩ := hrel
        by_cases hlt : k < len
        · obtain ⟨b, o, x, rfl, hb, hx, hc, -⟩ := HRow.out.at hlt
          have hx20 : x.size ≤ 20 := (h0.out.2.2.2.1.2 k x hx).1.2.1
          have hs200 : s.size ≤ 200 := by omega
          go_wp2
          refine ⟨⟨k + 1, _, by omega, rfl, by go_num, ?_, ?_⟩, by simp [intOf]; omega⟩
          · show _ = _
            rw [HS.out, pod_step hx]
          · rw [size_appP, size_appP]
            have e : (⟨#[32]⟩ : ByteArray).size = 1 := rfl
            omega
        · obtain rfl : k = len := by omega
          go_wp2
          go_ret
          refine ⟨ret_str ?_, HB2.out⟩
          rw [HS.out, List.take_of_length_le (by have := HR.out.1; omega)]
          exact podX_yes h0.out
    · have hze := isE_no hz0
      have hz20 : z.size ≤ 20 := by
        rcases h0.out.2.2.1 with h | h
        · exact absurd h hz0
        · exact h.2.1
      go_wp2_with fail
      go_loop [3, 4] (fun t i => ∃ (k : Nat) (s : ByteArray), k ≤ len ∧ t = .string s ∧ i = .int .i64 k ∧ Hid (s = wordsOf (podHead n c z ++ zs.take k)) ∧ s.size ≤ 100 + 21 * k) (fun _ i => len - (intOf i).toNat)
      case atStart => exact ⟨0, _, by omega, rfl, rfl, by show _ = _; rw [List.take_zero, List.append_nil]; exact pod_start_yes n c hz0, by simp only [size_appP]; have e1 : (⟨#[112, 111, 100, 32]⟩ : ByteArray).size = 4 := rfl; have e2 : (⟨#[32]⟩ : ByteArray).size = 1 := rfl; omega⟩
      case round =>
        obtain ⟨k, s, hk, rfl, rfl, HS, hss⟩ := hrel
        by_cases hlt : k < len
        · obtain ⟨b, o, x, rfl, hb, hx, hc, -⟩ := HRow.out.at hlt
          have hx20 : x.size ≤ 20 := (h0.out.2.2.2.1.2 k x hx).1.2.1
          have hs200 : s.size ≤ 200 := by omega
          go_wp2
          refine ⟨⟨k + 1, _, by omega, rfl, by go_num, ?_, ?_⟩, by simp [intOf]; omega⟩
          · show _ = _
            rw [HS.out, pod_step hx]
          · rw [size_appP, size_appP]
            have e : (⟨#[32]⟩ : ByteArray).size = 1 := rfl
            omega
        · obtain rfl : k = len := by omega
          go_wp2
          go_ret
          refine ⟨ret_str ?_, HB2.out⟩
          rw [HS.out, List.take_of_length_le (by have := HR.out.1; omega)]
          exact podX_yes h0.out)

end Go.Proofs.YtbpnmhebhmakdaaDoor

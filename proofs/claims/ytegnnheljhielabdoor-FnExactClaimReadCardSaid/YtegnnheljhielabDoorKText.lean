/-
  ClaimText of the specification and of the program.
-/
import Derived.Test.YtegnnheljhielabDoorSJoin
import Derived.Test.YtegnnheljhielabDoorQText
import Derived.Deep.RegionHeld
import Derived.Test.YtegnnheljhielabDoorWide
namespace Go.Proofs.YtegnnheljhielabDoor
open Go.RowKit

def wClaim : ByteArray := ⟨#[99, 108, 97, 105, 109]⟩
def wSingle : ByteArray := ⟨#[115, 105, 110, 103, 108, 101]⟩
def wMany : ByteArray := ⟨#[109, 97, 110, 121]⟩
def wShare (x : Bool) : ByteArray := if x = true then wSingle else wMany
/-- A right claim's text. -/
def claimT (n : ByteArray) (z : Int) (k : ByteArray) (x : Bool) : ByteArray := wordsOf [wClaim, n, szText z, k, wShare x]
open Classical in
/-- What ClaimText answers. -/
noncomputable def claimX (n : ByteArray) (z : Int) (k : ByteArray) (x : Bool) (v : ByteArray) : ByteArray := if ClaimOk n z k v ∧ v = ⟨#[]⟩ then claimT n z k x else ⟨#[]⟩
theorem claimX_no {n : ByteArray} {z : Int} {k : ByteArray} {x : Bool} {v : ByteArray} (h : ¬ (ClaimOk n z k v ∧ v = ⟨#[]⟩)) : (⟨#[]⟩ : ByteArray) = claimX n z k x v := by unfold claimX; rw [if_neg h]
theorem claimX_yes {n : ByteArray} {z : Int} {k : ByteArray} {x : Bool} (h : ClaimOk n z k ⟨#[]⟩) : claimT n z k x = claimX n z k x ⟨#[]⟩ := by unfold claimX; rw [if_pos ⟨h, rfl⟩]
theorem size_appK (a b : ByteArray) : (a ++ b).size = a.size + b.size := by rw [Lib.size_eq, bytes_append, List.length_append, ← Lib.size_eq, ← Lib.size_eq]
theorem words_data (xs : List ByteArray) : (wordsOf xs).data.toList = Lib.join (xs.map (·.data.toList)) [32] := rfl
theorem claimT_single (n : ByteArray) (z : Int) (k : ByteArray) : (⟨#[99, 108, 97, 105, 109, 32]⟩ : ByteArray) ++ n ++ ⟨#[32]⟩ ++ szText z ++ ⟨#[32]⟩ ++ k ++ ⟨#[32, 115, 105, 110, 103, 108, 101]⟩ = claimT n z k true := by
  apply bytes_ext
  rw [claimT, words_data]
  simp [Lib.join, List.intercalate, List.intersperse, wClaim, wShare, wSingle]
theorem claimT_many (n : ByteArray) (z : Int) (k : ByteArray) : (⟨#[99, 108, 97, 105, 109, 32]⟩ : ByteArray) ++ n ++ ⟨#[32]⟩ ++ szText z ++ ⟨#[32]⟩ ++ k ++ ⟨#[32, 109, 97, 110, 121]⟩ = claimT n z k false := by
  apply bytes_ext
  rw [claimT, words_data]
  simp [Lib.join, List.intercalate, List.intersperse, wClaim, wShare, wMany]

theorem below_drewT {B : Nat} {x w1 : World} (h : Below x.drew.heap.size x.drew w1) (hB : B ≤ x.heap.size) : Below B x w1 := ⟨h.os, h.tape, h.output, h.size, fun k hk => h.block k (Nat.lt_of_lt_of_le hk hB)⟩
theorem BoolB.yes {p : Prop} {w w' : World} {e : Ending} (h : BoolB p w e w') (hp : p) : e = .returned (.bool true) ∧ Below w.heap.size w w' := by
  obtain ⟨r, rfl, hr, hb⟩ := h
  exact ⟨by rw [hr.2 hp], hb⟩
theorem BoolB.no {p : Prop} {w w' : World} {e : Ending} (h : BoolB p w e w') (hp : ¬ p) : e = .returned (.bool false) ∧ Below w.heap.size w w' := by
  obtain ⟨r, rfl, hr, hb⟩ := h
  cases r
  · exact ⟨rfl, hb⟩
  · exact absurd (hr.1 rfl) hp
theorem lt_of_someK {w : World} {b : Nat} {o : Obj} (h : w.heap[b]? = some o) : b < w.heap.size := by
  rcases Nat.lt_or_ge b w.heap.size with h1 | h1
  · exact h1
  · rw [Array.getElem?_eq_none h1] at h; cases h
theorem szText_size (z : Int) : (szText z).size ≤ 9 := by
  unfold szText mtext
  split
  · exact Nat.zero_le _
  · split
    · have := dec_size (n := z / 1024) (by omega)
      rw [size_appK]
      have e : wTi.size = 2 := rfl
      omega
    · have := dec_size (n := z) (by omega)
      rw [size_appK]
      have e : wGi.size = 2 := rfl
      omega

set_option maxHeartbeats 1600000 in
theorem sclaimText_any (n : ByteArray) (z : Int) (k : ByteArray) (x : Bool) (v : ByteArray) (w : World) (hn : n.size ≤ 9223372036854775807) (hk : k.size ≤ 9223372036854775807) (hv : v.size ≤ 9223372036854775807) :
    Calls Tryd.prog 8 #[.agg #[.string n, .int .i64 z, .string k, .bool x, .string v]] w fun e w' => e = .returned (.string (claimX n z k x v)) ∧ Below w.heap.size w w' := by
  go_enter Tryd.func8, Tryd.ntmps8
  go_wp2_with fail
  refine (sclaim_any n z k x v _ hn hk hv).mono ?_
  rintro e w1 ⟨r, rfl, hr, hb⟩
  obtain ⟨g, hb1, -⟩ := slotK hb
  have HB := hidK hb1
  have HG := hidK g
  clear hb hb1
  by_cases hq : r = true
  case neg =>
    have HN := hidK (fun h => hq (hr.2 h))
    have hrf : r = false := by simpa using hq
    clear hr g
    go_wp2_with fail
    go_ret
    exact ⟨ret_str (claimX_no fun h => HN.out h.1), HB.out⟩
  have h0 := hidK (hr.1 hq)
  subst hq
  have c4 : w1.cell? ⟨w.heap.size, 4, none⟩ = some (.string v) := cellK g 4
  clear hr
  by_cases hv0 : v = ⟨#[]⟩
  case neg =>
    have hve := isE_no hv0
    have HN := hidK hv0
    clear g hv0
    go_wp2_with fail
    go_ret
    exact ⟨ret_str (claimX_no fun h => HN.out h.2), HB.out⟩
  subst hv0
  have c0 : w1.cell? ⟨w.heap.size, 0, none⟩ = some (.string n) := cellK g 0
  have c1 : w1.cell? ⟨w.heap.size, 1, none⟩ = some (.int .i64 z) := cellK g 1
  have c2 : w1.cell? ⟨w.heap.size, 2, none⟩ = some (.string k) := cellK g 2
  have c3 : w1.cell? ⟨w.heap.size, 3, none⟩ = some (.bool x) := cellK g 3
  have hlt := lt_of_someK g
  clear g
  have hn20 : n.size ≤ 20 := h0.out.1.2.1
  have hk20 : k.size ≤ 20 := h0.out.2.2.1.2.1
  have hz9 : (szText z).size ≤ 9 := szText_size z
  cases x
  · go_wp2_with fail
    go_region_held (fun w' => w'.cell? ⟨w.heap.size, 0, none⟩ = some (.string n) ∧ w'.cell? ⟨w.heap.size, 1, none⟩ = some (.int .i64 z) ∧ w'.cell? ⟨w.heap.size, 2, none⟩ = some (.string k)) (go_keep)
      (first | (go_at_call 25; refine (ssizetext_any z _).mono ?_; rintro e w2 ⟨rfl, hb2⟩; have y0 : w2.cell? ⟨w.heap.size, 0, none⟩ = some (.string n) := (cell_below hb2 hlt).trans c0; have y1 : w2.cell? ⟨w.heap.size, 1, none⟩ = some (.int .i64 z) := (cell_below hb2 hlt).trans c1; have y2 : w2.cell? ⟨w.heap.size, 2, none⟩ = some (.string k) := (cell_below hb2 hlt).trans c2))
    all_goals (
      have HB2 := hidK (HB.out.trans (below_drewT hb2 HB.out.size))
      clear hb2
      go_wp2_with fail
      go_ret
      exact ⟨ret_str ((claimT_many n z k).trans (claimX_yes h0.out)), HB2.out⟩)
  · go_wp2_with fail
    go_region_held (fun w' => w'.cell? ⟨w.heap.size, 0, none⟩ = some (.string n) ∧ w'.cell? ⟨w.heap.size, 1, none⟩ = some (.int .i64 z) ∧ w'.cell? ⟨w.heap.size, 2, none⟩ = some (.string k)) (go_keep)
      (first | (go_at_call 25; refine (ssizetext_any z _).mono ?_; rintro e w2 ⟨rfl, hb2⟩; have y0 : w2.cell? ⟨w.heap.size, 0, none⟩ = some (.string n) := (cell_below hb2 hlt).trans c0; have y1 : w2.cell? ⟨w.heap.size, 1, none⟩ = some (.int .i64 z) := (cell_below hb2 hlt).trans c1; have y2 : w2.cell? ⟨w.heap.size, 2, none⟩ = some (.string k) := (cell_below hb2 hlt).trans c2))
    all_goals (
      have HB2 := hidK (HB.out.trans (below_drewT hb2 HB.out.size))
      clear hb2
      go_wp2_with fail
      go_ret
      exact ⟨ret_str ((claimT_single n z k).trans (claimX_yes h0.out)), HB2.out⟩)

theorem claim_len {n : ByteArray} {z : Int} {k v : ByteArray} {x : Bool} (h : ClaimOk n z k v) : (Lib.join (([wClaim, n, szText z, k, wShare x] : List ByteArray).map (·.data.toList)) [32]).length ≤ 140737488355328 := by
  have hn20 : n.size ≤ 20 := h.1.2.1
  have hk20 : k.size ≤ 20 := h.2.2.1.2.1
  have hz9 : (szText z).size ≤ 9 := szText_size z
  rw [Lib.size_eq] at hn20 hk20 hz9
  have hx : (wShare x).data.toList.length ≤ 6 := by cases x <;> decide
  simp [Lib.join, List.intercalate, List.intersperse, wClaim]
  simp at hn20 hk20 hz9 hx
  omega

set_option maxHeartbeats 400000 in
theorem asTold_any (n : ByteArray) (z : Int) (k : ByteArray) (x : Bool) (v : ByteArray) (w : World) :
    Calls Tryd.prog 27 #[.agg #[.string n, .int .i64 z, .string k, .bool x, .string v]] w fun e w' => e = .returned (.agg #[.string n, .int .i64 z, .string k, .bool x, .string ⟨#[]⟩]) ∧ Below w.heap.size w w' := by
  go_enter Tryd.func27, Tryd.ntmps27
  go_wp2
  exact bodyPost_ret (v := .agg #[.string n, .int .i64 z, .string k, .bool x, .string ⟨#[]⟩]) (by simp [results, Tryd.results27, go_sem]) rfl ⟨rfl, (below1 _ _).alloc (by simp) _⟩

set_option maxHeartbeats 400000 in
theorem sharing_any (x : Bool) (w : World) :
    Calls Tryd.prog 30 #[.bool x] w fun e w' => e = .returned (.string (wShare x)) ∧ w = w' := by
  cases x
  all_goals (
    go_enter Tryd.func30, Tryd.ntmps30
    go_wp2
    go_ret
    exact ⟨rfl, rfl⟩)

set_option maxHeartbeats 3200000 in
theorem iclaimText_any (n : ByteArray) (z : Int) (k : ByteArray) (x : Bool) (v : ByteArray) (w : World) (hn : n.size ≤ 9223372036854775807) (hk : k.size ≤ 9223372036854775807) (hv : v.size ≤ 9223372036854775807) (ht : ptab w) :
    Calls Tryd.prog 10 #[.agg #[.string n, .int .i64 z, .string k, .bool x, .string v]] w fun e w' => e = .returned (.string (claimX n z k x v)) ∧ Below w.heap.size w w' := by
  have HT := hidK ht
  clear ht
  by_cases hC : ClaimOk n z k v
  case neg =>
    have HC := hidK (fun w => (iclaim_any n z k x v w hn hk hv).mono fun _ _ h => h.no hC)
    have HN := hidK hC
    clear hC
    go_enter Tryd.func10, Tryd.ntmps10
    go_wp2_with fail
    obtain ⟨W, hW⟩ : ∃ W, W = w.alloc (.cells #[.string n, .int .i64 z, .string k, .bool x, .string v] 26) := ⟨_, rfl⟩
    have g : W.heap[w.heap.size]? = some (.cells #[.string n, .int .i64 z, .string k, .bool x, .string v] 26 (0, 0)) := by rw [hW]; exact Array.getElem?_push_size
    have c0 : ∀ i : Wd W, i.w.cell? ⟨w.heap.size, 0, none⟩ = some (.string n) := fun i => i.slot g rfl
    have c1 : ∀ i : Wd W, i.w.cell? ⟨w.heap.size, 1, none⟩ = some (.int .i64 z) := fun i => i.slot g rfl
    have c2 : ∀ i : Wd W, i.w.cell? ⟨w.heap.size, 2, none⟩ = some (.string k) := fun i => i.slot g rfl
    have c3 : ∀ i : Wd W, i.w.cell? ⟨w.heap.size, 3, none⟩ = some (.bool x) := fun i => i.slot g rfl
    have c4 : ∀ i : Wd W, i.w.cell? ⟨w.heap.size, 4, none⟩ = some (.string v) := fun i => i.slot g rfl
    have HB := hidK (show Below w.heap.size w W by rw [hW]; exact below1 _ _)
    rw [← hW]
    clear g hW
    have hne := Wd.ne W
    refine wp_region_wide (by kernel_rfl) (by kernel_rfl) ?_
    repeat (go_big_quiet_step (first | (go_at_call 26; exact Calls.wide (HC.out _)) | fail))
    refine wpQuiet_nil ?_
    rintro _ ⟨i, rfl⟩
    go_wp2_with fail
    go_ret
    exact ⟨ret_str (claimX_no fun h => HN.out h.1), HB.out.trans (i.b.mono HB.out.size)⟩
  have HC := hidK (fun w => (iclaim_any n z k x v w hn hk hv).mono fun _ _ h => h.yes hC)
  have HT' := hidK (fun w => asTold_any n z k x v w)
  have HY := hidK hC
  clear hC
  go_enter Tryd.func10, Tryd.ntmps10
  go_wp2_with fail
  obtain ⟨W, hW⟩ : ∃ W, W = w.alloc (.cells #[.string n, .int .i64 z, .string k, .bool x, .string v] 26) := ⟨_, rfl⟩
  have g : W.heap[w.heap.size]? = some (.cells #[.string n, .int .i64 z, .string k, .bool x, .string v] 26 (0, 0)) := by rw [hW]; exact Array.getElem?_push_size
  have HG := hidK g
  have HB := hidK (show Below w.heap.size w W by rw [hW]; exact below1 _ _)
  have c0 : ∀ i : Wd W, i.w.cell? ⟨w.heap.size, 0, none⟩ = some (.string n) := fun i => i.slot g rfl
  have c1 : ∀ i : Wd W, i.w.cell? ⟨w.heap.size, 1, none⟩ = some (.int .i64 z) := fun i => i.slot g rfl
  have c2 : ∀ i : Wd W, i.w.cell? ⟨w.heap.size, 2, none⟩ = some (.string k) := fun i => i.slot g rfl
  have c3 : ∀ i : Wd W, i.w.cell? ⟨w.heap.size, 3, none⟩ = some (.bool x) := fun i => i.slot g rfl
  have c4 : ∀ i : Wd W, i.w.cell? ⟨w.heap.size, 4, none⟩ = some (.string v) := fun i => i.slot g rfl
  rw [← hW]
  clear g hW
  by_cases hv0 : v = ⟨#[]⟩
  · subst hv0
    have hne := Wd.ne W
    refine wp_region_wide (by kernel_rfl) (by kernel_rfl) ?_
    repeat (go_big_quiet_step (first | (go_at_call 26; exact Calls.wide (HC.out _)) | (go_at_call 27; exact Calls.wide (HT'.out _))))
    refine wpQuiet_nil ?_
    rintro _ ⟨i, rfl⟩
    obtain ⟨V, hV⟩ : ∃ V, V = i.w := ⟨_, rfl⟩
    have d0 : V.cell? ⟨w.heap.size, 0, none⟩ = some (.string n) := by rw [hV]; exact c0 i
    have d1 : V.cell? ⟨w.heap.size, 1, none⟩ = some (.int .i64 z) := by rw [hV]; exact c1 i
    have d2 : V.cell? ⟨w.heap.size, 2, none⟩ = some (.string k) := by rw [hV]; exact c2 i
    have d3 : V.cell? ⟨w.heap.size, 3, none⟩ = some (.bool x) := by rw [hV]; exact c3 i
    have HV := hidK (show Below w.heap.size w V by rw [hV]; exact HB.out.trans (i.b.mono HB.out.size))
    have HL := hidK (show w.heap.size < V.heap.size by rw [hV]; exact Nat.lt_of_lt_of_le (lt_of_someK HG.out) i.b.size)
    have HP := hidK (HT.out.below HV.out.drew)
    rw [← hV]
    clear hV c0 c1 c2 c3 c4 hne HG HC HT' HT HB
    have hjl : (Lib.join (([wClaim, n, szText z, k, wShare x] : List ByteArray).map (·.data.toList)) [32]).length ≤ 140737488355328 := claim_len HY.out
    have HJ := hidK hjl
    clear hjl
    go_wp2_with fail
    go_region_held (fun w' => w'.cell? ⟨w.heap.size, 0, none⟩ = some (.string n) ∧ w'.cell? ⟨w.heap.size, 1, none⟩ = some (.int .i64 z) ∧ w'.cell? ⟨w.heap.size, 2, none⟩ = some (.string k) ∧ w'.cell? ⟨w.heap.size, 3, none⟩ = some (.bool x)) (go_keep)
      (first
        | (go_at_call 29; refine (isizeText_any z _ HP.out).mono ?_; rintro e w2 ⟨rfl, hb2⟩; have y0 : w2.cell? ⟨w.heap.size, 0, none⟩ = some (.string n) := (cell_below hb2 HL.out).trans d0; have y1 : w2.cell? ⟨w.heap.size, 1, none⟩ = some (.int .i64 z) := (cell_below hb2 HL.out).trans d1; have y2 : w2.cell? ⟨w.heap.size, 2, none⟩ = some (.string k) := (cell_below hb2 HL.out).trans d2; have y3 : w2.cell? ⟨w.heap.size, 3, none⟩ = some (.bool x) := (cell_below hb2 HL.out).trans d3)
        | (go_at_call 30; refine (sharing_any x _).mono ?_; rintro e w3 ⟨rfl, rfl⟩)
        | (go_at_call 28; refine (worded_laid [wClaim, n, szText z, k, wShare x] 5 _ _ rfl (by decide) HJ.out).mono ?_; rintro e w4 ⟨rfl, hb4⟩; have x0 : w4.cell? ⟨w.heap.size, 0, none⟩ = some (.string n) := (cell_below hb4 (Nat.lt_of_lt_of_le HL.out hb2.size)).trans y0; have x1 : w4.cell? ⟨w.heap.size, 1, none⟩ = some (.int .i64 z) := (cell_below hb4 (Nat.lt_of_lt_of_le HL.out hb2.size)).trans y1; have x2 : w4.cell? ⟨w.heap.size, 2, none⟩ = some (.string k) := (cell_below hb4 (Nat.lt_of_lt_of_le HL.out hb2.size)).trans y2; have x3 : w4.cell? ⟨w.heap.size, 3, none⟩ = some (.bool x) := (cell_below hb4 (Nat.lt_of_lt_of_le HL.out hb2.size)).trans y3))
    all_goals (
      have HB4 := hidK (HV.out.trans ((below_drewT hb2 HV.out.size).trans (hb4.mono (Nat.le_trans HV.out.size hb2.size))))
      clear hb2 hb4
      go_wp2_with fail
      go_ret
      exact ⟨ret_str (claimX_yes HY.out), HB4.out⟩)
  · have hve := isE_no hv0
    have hne := Wd.ne W
    refine wp_region_wide (by kernel_rfl) (by kernel_rfl) ?_
    repeat (go_big_quiet_step (first | (go_at_call 26; exact Calls.wide (HC.out _)) | (go_at_call 27; exact Calls.wide (HT'.out _))))
    refine wpQuiet_nil ?_
    rintro _ ⟨i, rfl⟩
    have HN := hidK hv0
    clear hv0
    go_wp2_with fail
    go_ret
    exact ⟨ret_str (claimX_no fun h => HN.out h.2), HB.out.trans (i.b.mono HB.out.size)⟩

end Go.Proofs.YtegnnheljhielabDoor

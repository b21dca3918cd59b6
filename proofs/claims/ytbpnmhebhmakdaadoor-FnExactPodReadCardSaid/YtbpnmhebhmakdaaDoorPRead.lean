/-
  PodRead of the specification and of the program.
-/
import Derived.Test.YtbpnmhebhmakdaaDoorSSplit
import Derived.Test.YtbpnmhebhmakdaaDoorPText
import Derived.Test.YtbpnmhebhmakdaaDoorJRead
namespace Go.Proofs.YtbpnmhebhmakdaaDoor
open Go.RowKit

open Classical in
/-- The number that a share's text tells; 0 else. -/
noncomputable def cpN (s : ByteArray) : Int := if h : ∃ a c, RdIs cpText s a c then h.choose else 0
theorem cpN_is {s : ByteArray} {a c : Int} (h : RdIs cpText s a c) : a = cpN s := by
  have hx : ∃ a c, RdIs cpText s a c := ⟨a, c, h⟩
  unfold cpN
  rw [dif_pos hx]
  obtain ⟨c', h'⟩ := hx.choose_spec
  exact (RdIs.same cp_inj h h').1
open Classical in
noncomputable def zoneR (z : ByteArray) : ByteArray := if z = wDash then ⟨#[]⟩ else z
/-- What is read of a text, field by field. -/
def PodIs (s : ByteArray) (n : ByteArray) (c : Int) (z : ByteArray) (zs : List ByteArray) (d : ByteArray) (p : Int) (k : Int) : Prop :=
  d = ⟨#[]⟩ ∧ p = 0 ∧
  ((8000 < s.size ∧ n = ⟨#[]⟩ ∧ c = 0 ∧ z = ⟨#[]⟩ ∧ zs = [] ∧ k = 2) ∨
   (s.size ≤ 8000 ∧ (¬ ∃ a0 a1 a2 a3 l, wordsB s = a0 :: a1 :: a2 :: a3 :: l ∧ podX a1 (cpN a2) (zoneR a3) l ⟨#[]⟩ 0 = s) ∧ n = ⟨#[]⟩ ∧ c = 0 ∧ z = ⟨#[]⟩ ∧ zs = [] ∧ k = 3) ∨
   (s.size ≤ 8000 ∧ k = 0 ∧ zs.length ≤ 3 ∧ ∃ a0 a1 a2 a3, wordsB s = a0 :: a1 :: a2 :: a3 :: zs ∧ podX a1 (cpN a2) (zoneR a3) zs ⟨#[]⟩ 0 = s ∧ n = a1 ∧ c = cpN a2 ∧ z = zoneR a3))
theorem PodIs.same {s n n' : ByteArray} {c c' : Int} {z z' : ByteArray} {zs zs' : List ByteArray} {d d' : ByteArray} {p p' k k' : Int} (h : PodIs s n c z zs d p k) (h' : PodIs s n' c' z' zs' d' p' k') :
    n = n' ∧ c = c' ∧ z = z' ∧ zs = zs' ∧ d = d' ∧ p = p' ∧ k = k' := by
  obtain ⟨rfl, rfl, h⟩ := h
  obtain ⟨rfl, rfl, h'⟩ := h'
  rcases h with ⟨h0, rfl, rfl, rfl, rfl, rfl⟩ | ⟨h0, h1, rfl, rfl, rfl, rfl, rfl⟩ | ⟨h0, rfl, h3, a0, a1, a2, a3, hw, hx, rfl, rfl, rfl⟩ <;>
    rcases h' with ⟨k0, rfl, rfl, rfl, rfl, rfl⟩ | ⟨k0, k1, rfl, rfl, rfl, rfl, rfl⟩ | ⟨k0, rfl, k3, b0, b1, b2, b3, kw, kx, rfl, rfl, rfl⟩
  · exact ⟨rfl, rfl, rfl, rfl, rfl, rfl, rfl⟩
  · omega
  · omega
  · omega
  · exact ⟨rfl, rfl, rfl, rfl, rfl, rfl, rfl⟩
  · exact absurd ⟨b0, _, b2, b3, _, kw, kx⟩ h1
  · omega
  · exact absurd ⟨a0, _, a2, a3, _, hw, hx⟩ k1
  · rw [hw] at kw
    simp only [List.cons.injEq] at kw
    obtain ⟨rfl, rfl, rfl, rfl, rfl⟩ := kw
    exact ⟨rfl, rfl, rfl, rfl, rfl, rfl, rfl⟩
/-- The answer of PodRead: its list is its own. -/
def PodAns (s : ByteArray) (w : World) (e : Ending) (w' : World) : Prop :=
  ∃ n c z a len cap zs d p k, e = .returned (.agg #[.string n, .int .i64 c, .string z, .slice a len cap, .string d, .int .i64 p, .int .i64 k]) ∧ PodIs s n c z zs d p k ∧
    TxRow w' a len cap zs ∧ (zs = [] ∨ ∃ g cur, a = some ⟨g, 0, none⟩ ∧ w.heap.size ≤ g ∧ w'.heap[g]? = some (.cells cur 9 (0, 0))) ∧ Below w.heap.size w w'
theorem podText_few {n : ByteArray} {c : Int} {z : ByteArray} {zs : List ByteArray} {s : ByteArray} (h : podX n c z zs ⟨#[]⟩ 0 = s) (hs : ¬ s = ⟨#[]⟩) : zs.length ≤ 3 := by
  unfold podX at h
  split at h
  · rename_i hp
    have := hp.1.2.2.2.1.1
    omega
  · exact absurd h.symm hs
theorem words_ne {s a0 a1 a2 a3 : ByteArray} {l : List ByteArray} (h : wordsB s = a0 :: a1 :: a2 :: a3 :: l) : ¬ s = ⟨#[]⟩ := by
  rintro rfl
  have e : (wordsB ⟨#[]⟩).map (·.data.toList) = [[]] := wordsB_data ⟨#[]⟩
  rw [h] at e
  simp at e

theorem zoneR_dash : zoneR wDash = ⟨#[]⟩ := by unfold zoneR; rw [if_pos rfl]
theorem zoneR_no {z : ByteArray} (h : ¬ z = wDash) : zoneR z = z := by unfold zoneR; rw [if_neg h]
theorem dash_yes : (wDash.toList == [45]) = true := by rw [Lib.toList_data]; rfl
theorem dash_no {z : ByteArray} (h : ¬ z = wDash) : (z.toList == [45]) = false := by
  have := tl_no h
  rw [Lib.toList_data] at this ⊢
  rw [Lib.toList_data] at this
  exact this

set_option maxHeartbeats 400000 in
theorem zoneRead_any (z : ByteArray) (w : World) :
    Calls Tryd.prog 15 #[.string z] w fun e w' => e = .returned (.string (zoneR z)) ∧ w = w' := by
  by_cases h : z = wDash
  · subst h
    have hq := dash_yes
    go_enter Tryd.func15, Tryd.ntmps15
    go_wp2
    go_ret
    exact ⟨ret_str zoneR_dash.symm, rfl⟩
  · have hq := dash_no h
    go_enter Tryd.func15, Tryd.ntmps15
    go_wp2
    go_ret
    exact ⟨ret_str (zoneR_no h).symm, rfl⟩

/-- A list of its own. -/
def NamesAns (zs : List ByteArray) (w : World) (e : Ending) (w' : World) : Prop :=
  ∃ a len cap, e = .returned (.slice a len cap) ∧ TxRow w' a len cap zs ∧ (a = none → cap = 0) ∧ (zs = [] ∨ ∃ g cur, a = some ⟨g, 0, none⟩ ∧ w.heap.size ≤ g ∧ w'.heap[g]? = some (.cells cur 9 (0, 0))) ∧ Below w.heap.size w w'
theorem names_of {w w0 : World} {base n : Nat} {v : Value} {zs : List ByteArray} (h : w.ownsRow base 9 1 v n (zs.map Value.string)) (hb : Below base w0 w) (hB : base = w0.heap.size) (hs : ∀ (j : Nat) x, zs[j]? = some x → x.size ≤ 9223372036854775807) :
    NamesAns zs w0 (.returned v) w := by
  subst hB
  obtain ⟨hl, h⟩ := h
  have hl' : zs.length = n := by simpa using hl
  rcases h with ⟨rfl, rfl⟩ | ⟨g, cap, cur, rfl, hbg, hg, hnc, hcm, hsz, htk⟩
  · obtain rfl : zs = [] := List.eq_nil_of_length_eq_zero hl'
    exact ⟨none, 0, 0, rfl, ⟨rfl, Nat.le_refl _, by omega, fun j x hx => by simp at hx, .inl rfl⟩, fun _ => rfl, .inl rfl, hb⟩
  · refine ⟨some ⟨g, 0, none⟩, n, cap, rfl, ⟨hl', hnc, by unfold maxLen at hcm; omega, hs, .inr ⟨g, 0, rfl, lt_of_someP hg, fun j x hx => ?_⟩⟩, fun h => (by cases h), .inr ⟨g, cur, rfl, hbg, hg⟩, hb⟩
    rw [Nat.zero_add, cellK hg]
    have hj : j < n := by have := (List.getElem?_eq_some_iff.1 hx).1; omega
    have e1 : (cur.toList.take (n * 1))[j]? = some (.string x) := by rw [htk]; simp [hx]
    rw [List.getElem?_take, if_pos (by omega)] at e1
    simpa using e1
theorem news_of {w : World} {ad : Addr} {len cap : Nat} {zs : List ByteArray} (h : TxRow w (some ad) len cap zs) : ∀ j u, (zs.map Value.string)[j]? = some u → w.cell? (ad.add j) = some u := by
  intro j u hu
  rw [List.getElem?_map] at hu
  obtain ⟨x, hx, rfl⟩ := Option.map_eq_some_iff.1 hu
  rcases h.2.2.2.2 with h | ⟨b, o, e, _, hc⟩
  · subst h; simp at hx
  · cases e
    rw [Addr.add_lit]
    exact hc j x hx

set_option maxHeartbeats 1600000 in
theorem ownNames_any (ad : Addr) (len cap : Nat) (zs : List ByteArray) (w : World) (hr : TxRow w (some ad) len cap zs) (hl : len ≤ 8001) :
    Calls Tryd.prog 16 #[.slice (some ad) len cap] w (NamesAns zs w) := by
  have HN := hidK (news_of hr)
  have HZ := hidK hr.2.2.2.1
  have hzl : zs.length = len := hr.1
  clear hr
  obtain ⟨i0, hi, hz0, hz1, hz2⟩ := info_parts infoStrP
  go_enter Tryd.func16, Tryd.ntmps16
  go_wp2_with (first | (at_builtin; refine wpList_append_own _ rfl _ _ 22 rfl w.heap.size 9 i0 (.string ⟨#[]⟩) 1 16 Tryd.underlying22 hi hz0 hz1 hz2 rfl (by decide) _ 0 _ rfl (World.ownsRow_nil w w.heap.size 9 1) ad len cap (zs.map Value.string) rfl ?c1 HN.out ?c3 ?c4 ?c5 (Nat.le_refl _) ?_))
  case c1 => simpa using hzl
  case c3 => intro u hu; obtain ⟨x, _, rfl⟩ := List.mem_map.1 hu; rfl
  case c4 => unfold maxLen; omega
  case c5 => omega
  intro v' w3 hown3 hgrow hv
  have HB3 := hidK ((Below.refl w.heap.size w).grown hgrow (Nat.le_refl _) (fun k hk => by cases hk))
  have HO := hidK hown3
  clear hown3 hgrow hv
  go_wp2
  go_ret
  exact names_of HO.out HB3.out rfl HZ.out

end Go.Proofs.YtbpnmhebhmakdaaDoor

/-
  Lists of texts: measured, copied, compared, and whether they are names that rise.
-/
import Derived.Test.YtcljghpfclegmaaGreatDoorName
import Derived.Laws.Cover1
import Derived.Lib.BufferWrite
import Derived.Laws.CopyOwn
import Derived.Deep.QuietTactic
import Derived.BigQuiet
import Derived.WalkSmall
namespace Go.Proofs.YtcljghpfclegmaaGreatDoor
open Go.RowKit

/-- A list of texts that lies in the world: its texts are zs. -/
def TxRow (w : World) (a : Option Addr) (len cap : Nat) (zs : List ByteArray) : Prop :=
  zs.length = len ∧ len ≤ cap ∧ cap ≤ 9223372036854775807 ∧ (∀ (j : Nat) x, zs[j]? = some x → x.size ≤ 9223372036854775807) ∧
  (zs = [] ∨ ∃ b o, a = some ⟨b, o, none⟩ ∧ b < w.heap.size ∧ ∀ (j : Nat) x, zs[j]? = some x → w.cell? ⟨b, o + j, none⟩ = some (.string x))
theorem cell_below {w w' : World} (hb : Below w.heap.size w w') {b o : Nat} (h : b < w.heap.size) : w'.cell? ⟨b, o, none⟩ = w.cell? ⟨b, o, none⟩ := by
  simp [World.cell?, hb.block b h]
theorem TxRow.below {w w' : World} {a : Option Addr} {len cap : Nat} {zs : List ByteArray} (h : TxRow w a len cap zs) (hb : Below w.heap.size w w') : TxRow w' a len cap zs := by
  obtain ⟨h1, h2, h3, h4, h5⟩ := h
  refine ⟨h1, h2, h3, h4, ?_⟩
  rcases h5 with h5 | ⟨b, o, rfl, hlt, hc⟩
  · exact Or.inl h5
  · exact Or.inr ⟨b, o, rfl, Nat.lt_of_lt_of_le hlt hb.size, fun j x hx => by rw [cell_below hb hlt]; exact hc j x hx⟩
theorem TxRow.at {w : World} {a : Option Addr} {len cap : Nat} {zs : List ByteArray} (h : TxRow w a len cap zs) {k : Nat} (hk : k < len) :
    ∃ b o x, a = some ⟨b, o, none⟩ ∧ b < w.heap.size ∧ zs[k]? = some x ∧ w.cell? ⟨b, o + k, none⟩ = some (.string x) ∧ x.size ≤ 9223372036854775807 := by
  obtain ⟨h1, h2, h3, h4, h5⟩ := h
  have hx : zs[k]? = some (zs[k]'(by omega)) := List.getElem?_eq_getElem _
  rcases h5 with h5 | ⟨b, o, rfl, hlt, hc⟩
  · subst h5; simp at h1; omega
  · exact ⟨b, o, _, rfl, hlt, hx, hc k _ hx, h4 k _ hx⟩

/-- What is left of a measure: nothing, or no more than there was, and the fact. -/
def SzAns (left : Int) (p : Prop) (w : World) (e : Ending) (w' : World) : Prop := ∃ r : Int, e = .returned (.int .i64 r) ∧ (r = -1 ∨ (0 ≤ r ∧ r ≤ left ∧ p)) ∧ w = w'

set_option maxHeartbeats 1600000 in
theorem szS_any (a : Option Addr) (len cap : Nat) (zs : List ByteArray) (left : Int) (w : World) (hr : TxRow w a len cap zs) (h0 : 0 ≤ left) (h1 : left ≤ 1048576) :
    Calls Tryz.prog 98 #[.slice a len cap, .int .i64 left] w (SzAns left ((len : Int) ≤ left) w) := by
  have HR : Hid (TxRow w a len cap zs) := hr
  have hlc : len ≤ 9223372036854775807 := Nat.le_trans hr.2.1 hr.2.2.1
  clear hr
  by_cases hl : left < (len : Int)
  · go_enter Tryz.func98, Tryz.ntmps98
    go_wp2
    go_ret
    exact ⟨-1, rfl, .inl rfl, rfl⟩
  go_enter Tryz.func98, Tryz.ntmps98
  go_wp2
  go_loop [1, 5] (fun l i => ∃ (k : Nat) (m : Int), k ≤ len ∧ l = .int .i64 m ∧ i = .int .i64 k ∧ 0 ≤ m ∧ m ≤ left) (fun _ i => len - (intOf i).toNat)
  case atStart => exact ⟨0, left - len, by omega, by go_num, rfl, by omega, by omega⟩
  case round =>
    obtain ⟨k, m, hk, rfl, rfl, hm0, hm1⟩ := hrel
    by_cases hlt : k < len
    · obtain ⟨b, o, x, rfl, hb, hx, hc, hsz⟩ := HR.out.at hlt
      by_cases hs : m < (x.size : Int)
      · go_wp2
        go_ret
        exact ⟨-1, rfl, .inl rfl, rfl⟩
      · go_wp2
        exact ⟨⟨k + 1, m - x.size, by omega, by go_num, by go_num, by omega, by omega⟩, by simp [intOf]; omega⟩
    · go_wp2
      go_ret
      exact ⟨m, rfl, .inr ⟨hm0, hm1, by omega⟩, rfl⟩

theorem infoStr : (Tryz.prog.info? 9).map (fun i => (i.zero, i.size, i.bytes)) = some (some (.string ⟨#[]⟩), 1, 16) := by kernel_rfl
theorem block_set {w : World} {g i : Nat} {cs : Array Value} {t : TypeId} {fr : Nat × Nat} (h : w.heap[g]? = some (.cells cs t fr)) (v : Value) : (w.setCell ⟨g, i, none⟩ v).heap[g]? = some (.cells (cs.setIfInBounds i v) t fr) := by
  obtain ⟨hl, hh⟩ := Array.getElem?_eq_some_iff.1 h
  unfold World.setCell
  simp [Array.getElem?_modify, h]
theorem take_set {α : Type} {zs Z : List α} {k : Nat} {x : α} (h : zs[k]? = some x) (hk : k < zs.length) (hZ : Z.length = zs.length) :
    ((zs.take k ++ Z.drop k).toArray.setIfInBounds k x) = (zs.take (k + 1) ++ Z.drop (k + 1)).toArray := by
  apply Array.ext'
  have hl : (zs.take k).length = k := by rw [List.length_take]; omega
  have hd : Z.drop k = Z[k]'(by omega) :: Z.drop (k + 1) := List.drop_eq_getElem_cons (by omega)
  rw [List.take_add_one, h, hd]
  simp only [List.setIfInBounds_toArray, List.set_append, hl, Nat.lt_irrefl, if_false, Nat.sub_self, List.set_cons_zero, Option.toList_some, List.append_assoc, List.singleton_append]

theorem full_rowT {w : World} {B g n : Nat} {e : TypeId} {xs : List Value} (h : w.ownsRow B e 1 (.slice (some ⟨g, 0, none⟩) n n) n xs) :
    w.heap[g]? = some (.cells xs.toArray e (0, 0)) ∧ xs.length = n ∧ B ≤ g := by
  obtain ⟨h1, h2⟩ := h
  rcases h2 with ⟨h3, _⟩ | ⟨g', cap, cur, hv, hB, hh, _, _, hsz, htk⟩
  · cases h3
  · simp only [Value.slice.injEq, Option.some.injEq, Addr.mk.injEq] at hv
    obtain ⟨⟨rfl, _, _⟩, _, rfl⟩ := hv
    have hl : cur.toList.length ≤ n * 1 := by simp [hsz]
    rw [List.take_of_length_le hl] at htk
    subst htk
    exact ⟨by simpa using hh, by simpa using hsz, hB⟩

set_option maxHeartbeats 1600000 in
theorem toS_any (a : Option Addr) (len cap : Nat) (zs : List ByteArray) (w : World) (hr : TxRow w a len cap zs) (hl : len ≤ 1048576) :
    Calls Tryz.prog 103 #[.slice a len cap] w fun e w' => e = .returned (.slice (some ⟨w.heap.size, 0, none⟩) len len) ∧ w'.heap[w.heap.size]? = some (.cells (zs.map Value.string).toArray 9 (0, 0)) ∧ Below w.heap.size w w' := by
  have HR : Hid (TxRow w a len cap zs) := hr
  have hzl : zs.length = len := hr.1
  clear hr
  obtain ⟨i0, hi, hz0, hz1, hz2⟩ := info_parts infoStr
  go_enter Tryz.func103, Tryz.ntmps103
  go_wp2_with (at_make; refine wpList_make_full _ rfl _ _ 55 rfl w.heap.size 9 i0 (.string ⟨#[]⟩) 1 Tryz.underlying55 hi hz0 hz1 _ _ _ _ len rfl rfl (by omega) (by omega) (by rw [hz2]; omega) (by unfold maxLen; omega) (Nat.le_refl _) ?_)
  intro w1 hown hgrow
  obtain ⟨hg1, hz, -⟩ := full_rowT hown
  obtain ⟨Z, hZ⟩ : ∃ Z, Z = (madeCells #[Value.string ⟨#[]⟩] len).toList := ⟨_, rfl⟩
  have hnx1 : Below w.heap.size w w1 := (Below.refl _ _).grown hgrow (Nat.le_refl _) (fun k hk => by cases hk)
  rw [← hZ] at hg1 hz
  have HG : Hid (w1.heap[w.heap.size]? = some (.cells (((zs.map Value.string).take 0 ++ Z.drop 0)).toArray 9 (0, 0))) := by simpa [Hid] using hg1
  have HB : Hid (Below w.heap.size w w1) := hnx1
  clear hZ hown hgrow hg1 hi hz0 hz1 hz2 hnx1
  go_wp2
  go_loopw [4] (fun i wr => ∃ k : Nat, k ≤ len ∧ i = .int .i64 k ∧ Hid (wr.heap[w.heap.size]? = some (.cells (((zs.map Value.string).take k ++ Z.drop k)).toArray 9 (0, 0))) ∧ Hid (Below w.heap.size w wr)) (fun i _ => len - (intOf i).toNat)
  case atStart => exact ⟨0, by omega, rfl, HG, HB⟩
  case round =>
    obtain ⟨k, hk, rfl, HG, HB⟩ := hrel
    by_cases hlt : k < len
    · obtain ⟨b, o, x, rfl, hb, hx, hc, hsz⟩ := (HR.out.below HB.out).at hlt
      have hlz : (zs.map Value.string).length = len := by simp [hzl]
      have hcl : (((zs.map Value.string).take k ++ Z.drop k)).length = len := by rw [List.length_append, List.length_take, List.length_drop, hlz, hz]; omega
      have hcw : wr.cell? ⟨w.heap.size, k, none⟩ = some ((((zs.map Value.string).take k ++ Z.drop k))[k]'(by omega)) := by
        simp only [World.cell?, HG.out]
        simp
      have hfw : wr.frozen? ⟨w.heap.size, k, none⟩ = false := by simp [World.frozen?, HG.out]
      go_wp2
      refine ⟨⟨k + 1, by omega, by go_num, ?_, HB.out.setCell (Nat.le_refl _) _⟩, by simp [intOf]; omega⟩
      show _ = _
      rw [block_set HG.out, take_set (by simp [hx]) (by omega) (by omega)]
    · obtain rfl : k = len := by omega
      go_wp2
      go_ret
      refine ⟨rfl, ?_, HB.out⟩
      rw [HG.out, List.take_of_length_le (by simp [hzl]), List.drop_eq_nil_of_le (by omega), List.append_nil]

theorem tl_no {a b : ByteArray} (h : ¬ a = b) : (a.toList == b.toList) = false := by
  rw [beq_eq_false_iff_ne]
  intro e
  rw [Lib.toList_data, Lib.toList_data] at e
  exact h (by cases a; cases b; simp at e; rw [e])
/-- The answer is a bool: whether p; what was there stands. -/
def BoolB (p : Prop) (w : World) (e : Ending) (w' : World) : Prop := ∃ r : Bool, e = .returned (.bool r) ∧ (r = true ↔ p) ∧ Below w.heap.size w w'

set_option maxHeartbeats 1600000 in
theorem eqS_any (a a' : Option Addr) (len len' cap cap' : Nat) (zs zs' : List ByteArray) (w : World) (hr : TxRow w a len cap zs) (hr' : TxRow w a' len' cap' zs') :
    Calls Tryz.prog 110 #[.slice a len cap, .slice a' len' cap'] w (BoolB (zs = zs') w) := by
  have HR : Hid (TxRow w a len cap zs) := hr
  have HR' : Hid (TxRow w a' len' cap' zs') := hr'
  have hlc : len ≤ 9223372036854775807 := Nat.le_trans hr.2.1 hr.2.2.1
  have hlc' : len' ≤ 9223372036854775807 := Nat.le_trans hr'.2.1 hr'.2.2.1
  have hzl : zs.length = len := hr.1
  have hzl' : zs'.length = len' := hr'.1
  clear hr hr'
  by_cases hne : len = len'
  · subst hne
    go_enter Tryz.func110, Tryz.ntmps110
    go_wp2
    go_loopw [5] (fun i wr => ∃ k : Nat, k ≤ len ∧ i = .int .i64 k ∧ Hid (∀ j, j < k → zs[j]? = zs'[j]?) ∧ Hid (Below w.heap.size w wr)) (fun i _ => len - (intOf i).toNat)
    case atStart => exact ⟨0, by omega, rfl, fun j hj => by omega, Below.refl _ _⟩
    case round =>
      obtain ⟨k, hk, rfl, HE, HB⟩ := hrel
      by_cases hlt : k < len
      · obtain ⟨b, o, x, rfl, hb, hx, hc, hsz⟩ := (HR.out.below HB.out).at hlt
        obtain ⟨b', o', x', rfl, hb', hx', hc', hsz'⟩ := (HR'.out.below HB.out).at hlt
        by_cases hxx : x = x'
        · have hq : (x.toList == x'.toList) = true := by rw [hxx]; simp
          go_wp2
          go_quiet (fail)
          go_wp2
          refine ⟨⟨k + 1, by omega, by go_num, fun j hj => ?_, below_drewN HB.out _⟩, by simp [intOf]; omega⟩
          by_cases e : j = k
          · subst e; rw [hx, hx', hxx]
          · exact HE.out j (by omega)
        · have hq : (x.toList == x'.toList) = false := tl_no hxx
          go_wp2
          go_quiet (fail)
          go_wp2
          go_ret
          refine ⟨false, rfl, ⟨fun h => (by cases h), fun h => ?_⟩, below_drewN HB.out _⟩
          subst h
          rw [hx] at hx'
          exact absurd (Option.some.inj hx') hxx
      · obtain rfl : k = len := by omega
        go_wp2
        go_ret
        refine ⟨true, rfl, ⟨fun _ => List.ext_getElem? fun j => ?_, fun _ => rfl⟩, HB.out⟩
        by_cases hj : j < zs.length
        · exact HE.out j (by omega)
        · rw [List.getElem?_eq_none (by omega), List.getElem?_eq_none (by omega)]
  · have hne' : ¬ (len : Int) = len' := by omega
    go_enter Tryz.func110, Tryz.ntmps110
    go_wp2
    go_ret
    exact ⟨false, rfl, ⟨fun h => (by cases h), fun h => absurd (congrArg List.length h) (by omega)⟩, Below.refl _ _⟩

/-- Names that rise, so many at most. -/
def Rising (zs : List ByteArray) : Prop := ∀ (i : Nat) x, zs[i]? = some x → NameOk x ∧ ∀ y, 0 < i → zs[i - 1]? = some y → Op.bytesLess y.toList x.toList = true
def NamesOk (zs : List ByteArray) (most : Int) : Prop := (zs.length : Int) ≤ most ∧ Rising zs
theorem less_tri : ∀ x y : List UInt8, (Op.bytesLess y x || y == x) = !Op.bytesLess x y
  | [], [] => by simp [Op.bytesLess]
  | _ :: _, [] => by simp [Op.bytesLess]
  | [], _ :: _ => by simp [Op.bytesLess]
  | a :: x, b :: y => by
    have ih := less_tri x y
    simp only [Op.bytesLess]
    rcases Nat.lt_trichotomy a.toNat b.toNat with h | h | h
    · have h1 : a < b := UInt8.lt_iff_toNat_lt.2 h
      have h2 : ¬ b < a := fun h' => by have := UInt8.lt_iff_toNat_lt.1 h'; omega
      have h3 : ¬ b = a := fun h' => by subst h'; omega
      simp [h1, h2, h3]
    · obtain rfl : a = b := UInt8.toNat_inj.1 h
      have h2 : ¬ a < a := fun h' => by have := UInt8.lt_iff_toNat_lt.1 h'; omega
      simp [h2]
      simpa using ih
    · have h1 : b < a := UInt8.lt_iff_toNat_lt.2 h
      have h2 : ¬ a < b := fun h' => by have := UInt8.lt_iff_toNat_lt.1 h'; omega
      have h3 : ¬ a = b := fun h' => by subst h'; omega
      simp [h1, h2, h3]

theorem BoolAns.yes {p : Prop} {w w' : World} {e : Ending} (h : BoolAns p w e w') (hp : p) : e = .returned (.bool true) ∧ w' = w := by
  obtain ⟨r, rfl, hr, rfl⟩ := h
  exact ⟨by rw [hr.2 hp], rfl⟩
theorem BoolAns.no {p : Prop} {w w' : World} {e : Ending} (h : BoolAns p w e w') (hp : ¬ p) : e = .returned (.bool false) ∧ w' = w := by
  obtain ⟨r, rfl, hr, rfl⟩ := h
  cases r
  · exact ⟨rfl, rfl⟩
  · exact absurd (hr.1 rfl) hp
theorem Rising.step {zs : List ByteArray} {k : Nat} {x : ByteArray} (h : Rising (zs.take k)) (hx : zs[k]? = some x) (hn : NameOk x) (hy : ∀ y, 0 < k → zs[k - 1]? = some y → Op.bytesLess y.toList x.toList = true) : Rising (zs.take (k + 1)) := by
  intro i z hz
  rw [List.getElem?_take] at hz
  split at hz
  · rename_i hi
    by_cases e : i = k
    · subst e
      rw [hx] at hz
      obtain rfl := Option.some.inj hz
      refine ⟨hn, fun y h0 h1 => hy y h0 ?_⟩
      rw [List.getElem?_take, if_pos (by omega)] at h1
      exact h1
    · have := h i z (by rw [List.getElem?_take, if_pos (by omega)]; exact hz)
      refine ⟨this.1, fun y h0 h1 => this.2 y h0 ?_⟩
      rw [List.getElem?_take, if_pos (by omega)] at h1 ⊢
      exact h1
  · cases hz

set_option maxHeartbeats 1600000 in
theorem snames_any (a : Option Addr) (len cap : Nat) (zs : List ByteArray) (most : Int) (w : World) (hr : TxRow w a len cap zs) :
    Calls Tryz.prog 163 #[.slice a len cap, .int .i64 most] w (BoolB (NamesOk zs most) w) := by
  have HR : Hid (TxRow w a len cap zs) := hr
  have hlc : len ≤ 9223372036854775807 := Nat.le_trans hr.2.1 hr.2.2.1
  have hzl : zs.length = len := hr.1
  clear hr
  go_enter Tryz.func163, Tryz.ntmps163
  go_wp2
  go_loopw [5] (fun i wr => ∃ k : Nat, k ≤ len ∧ i = .int .i64 k ∧ Hid (Rising (zs.take k)) ∧ Hid (Below w.heap.size w wr)) (fun i _ => len - (intOf i).toNat)
  case atStart => exact ⟨0, by omega, rfl, fun i x h => by simp at h, Below.refl _ _⟩
  case round =>
    obtain ⟨k, hk, rfl, HE, HB⟩ := hrel
    by_cases hlt : k < len
    · obtain ⟨b, o, x, rfl, hb, hx, hc, hsz⟩ := (HR.out.below HB.out).at hlt
      by_cases hn : NameOk x
      · have HY : Hid (∀ w, Calls Tryz.prog 161 #[.string x] w fun e w' => e = .returned (.bool true) ∧ w' = w) := fun w => (sname_any x w hsz).mono fun _ _ h => h.yes hn
        by_cases hk0 : 0 < k
        · obtain ⟨b', o', y, e', hb', hy, hcy, -⟩ := (HR.out.below HB.out).at (k := k - 1) (by omega)
          cases e'
          have ek : ((k : Int) - 1).toNat = k - 1 := by omega
          have hk0' : (0 : Int) < k := by omega
          cases hless : Op.bytesLess y.toList x.toList
          · go_wp2
            go_quiet ((go_at_call 161; exact Calls.quiet_of_same (HY.out _)))
            go_wp2
            go_ret
            exact ⟨false, rfl, ⟨fun h => (by cases h), fun h => absurd ((h.2 k x hx).2 y hk0 hy) (by rw [hless]; decide)⟩, below_drewN HB.out _⟩
          · go_wp2
            go_quiet ((go_at_call 161; exact Calls.quiet_of_same (HY.out _)))
            go_wp2
            exact ⟨⟨k + 1, by omega, by go_num, HE.out.step hx hn (fun y' _ hy' => by rw [hy] at hy'; obtain rfl := Option.some.inj hy'; exact hless), below_drewN HB.out _⟩, by simp [intOf]; omega⟩
        · have hd : decide ((0 : Int) < k) = false := by simp; omega
          go_wp2
          go_quiet ((go_at_call 161; exact Calls.quiet_of_same (HY.out _)))
          go_wp2
          exact ⟨⟨k + 1, by omega, by go_num, HE.out.step hx hn (fun y' h0 _ => absurd h0 hk0), below_drewN HB.out _⟩, by simp [intOf]; omega⟩
      · have HY : Hid (∀ w, Calls Tryz.prog 161 #[.string x] w fun e w' => e = .returned (.bool false) ∧ w' = w) := fun w => (sname_any x w hsz).mono fun _ _ h => h.no hn
        go_wp2
        go_quiet ((go_at_call 161; exact Calls.quiet_of_same (HY.out _)))
        go_wp2
        go_ret
        exact ⟨false, rfl, ⟨fun h => (by cases h), fun h => absurd (h.2 k x hx).1 hn⟩, below_drewN HB.out _⟩
    · obtain rfl : k = len := by omega
      go_wp2
      go_ret
      refine ⟨_, rfl, ?_, HB.out⟩
      have hR := HE.out
      rw [List.take_of_length_le (by omega)] at hR
      unfold NamesOk
      simp [hR, hzl]

theorem less_nil {x : ByteArray} (h : 1 ≤ x.size) : Op.bytesLess (⟨#[]⟩ : ByteArray).toList x.toList = true := by
  rw [Lib.toList_data, Lib.toList_data]
  rw [Lib.size_eq] at h
  cases e : x.data.toList with
  | nil => rw [e] at h; simp at h
  | cons a l => rfl

set_option maxHeartbeats 1600000 in
theorem inames_any (a : Option Addr) (len cap : Nat) (zs : List ByteArray) (most : Int) (w : World) (hr : TxRow w a len cap zs) :
    Calls Tryz.prog 166 #[.slice a len cap, .int .i64 most] w (BoolAns (NamesOk zs most) w) := by
  have HR : Hid (TxRow w a len cap zs) := hr
  have hlc : len ≤ 9223372036854775807 := Nat.le_trans hr.2.1 hr.2.2.1
  have hzl : zs.length = len := hr.1
  clear hr
  by_cases hm : most < (len : Int)
  · go_enter Tryz.func166, Tryz.ntmps166
    go_wp2
    go_ret
    exact ⟨false, rfl, ⟨fun h => (by cases h), fun h => absurd h.1 (by omega)⟩, rfl⟩
  go_enter Tryz.func166, Tryz.ntmps166
  go_wp2
  go_loop [5, 14] (fun p i => ∃ (k : Nat) (y : ByteArray), k ≤ len ∧ p = .string y ∧ i = .int .i64 k ∧ Hid (k = 0 → y = ⟨#[]⟩) ∧ Hid (0 < k → zs[k - 1]? = some y) ∧ Hid (Rising (zs.take k))) (fun _ i => len - (intOf i).toNat)
  case atStart => exact ⟨0, _, by omega, rfl, rfl, fun _ => rfl, fun h => absurd h (by omega), fun i x h => by simp at h⟩
  case round =>
    obtain ⟨k, y, hk, rfl, rfl, H0, H1, HE⟩ := hrel
    by_cases hlt : k < len
    · obtain ⟨b, o, x, rfl, hb, hx, hc, hsz⟩ := HR.out.at hlt
      by_cases hn : NameOk x
      · have HY : Hid (∀ w, Calls Tryz.prog 165 #[.string x] w fun e w' => e = .returned (.bool true) ∧ w' = w) := fun w => (iname_any x w hsz).mono fun _ _ h => h.yes hn
        have htri := less_tri y.toList x.toList
        cases hless : Op.bytesLess y.toList x.toList
        · rw [hless] at htri
          go_wp2_with (go_at_call 165; refine (HY.out _).mono ?_; rintro e w1 ⟨rfl, rfl⟩)
          go_ret
          refine ⟨false, rfl, ⟨fun h => (by cases h), fun h => ?_⟩, rfl⟩
          by_cases hk0 : 0 < k
          · exact absurd ((h.2 k x hx).2 y hk0 (H1.out hk0)) (by rw [hless]; decide)
          · have := H0.out (by omega)
            subst this
            rw [less_nil hn.1] at hless
            cases hless
        · rw [hless] at htri
          go_wp2_with (go_at_call 165; refine (HY.out _).mono ?_; rintro e w1 ⟨rfl, rfl⟩)
          refine ⟨⟨k + 1, x, by omega, rfl, by go_num, fun h => absurd h (by omega), fun _ => hx, HE.out.step hx hn (fun y' h0 hy' => ?_)⟩, by simp [intOf]; omega⟩
          rw [H1.out h0] at hy'
          obtain rfl := Option.some.inj hy'
          exact hless
      · have HY : Hid (∀ w, Calls Tryz.prog 165 #[.string x] w fun e w' => e = .returned (.bool false) ∧ w' = w) := fun w => (iname_any x w hsz).mono fun _ _ h => h.no hn
        go_wp2_with (go_at_call 165; refine (HY.out _).mono ?_; rintro e w1 ⟨rfl, rfl⟩)
        go_ret
        exact ⟨false, rfl, ⟨fun h => (by cases h), fun h => absurd (h.2 k x hx).1 hn⟩, rfl⟩
    · obtain rfl : k = len := by omega
      have hR := HE.out
      rw [List.take_of_length_le (by omega)] at hR
      go_wp2
      go_ret
      exact ⟨true, rfl, ⟨fun _ => ⟨by omega, hR⟩, fun _ => rfl⟩, rfl⟩

end Go.Proofs.YtcljghpfclegmaaGreatDoor

/-
  Lists of texts: measured, copied, compared, and whether they are names that rise.
-/
import Derived.Test.YthbkcphbkgekdaaName
import Derived.Laws.Cover1
import Derived.Lib.BufferWrite
import Derived.Laws.CopyOwn
import Derived.Deep.QuietTactic
import Derived.BigQuiet
import Derived.WalkSmall
namespace Go.Proofs.Ythbkcphbkgekdaa
open Go.RowKit

/-- A list of texts that lies in the world: its texts are zs. -/
def TxRow (w : World) (a : Option Addr) (len cap : Nat) (zs : List ByteArray) : Prop :=
  zs.length = len ∧ len ≤ cap ∧ cap ≤ 9223372036854775807 ∧ (∀ (j : Nat) x, zs[j]? = some x → x.size ≤ 9223372036854775807) ∧
  (zs = [] ∨ ∃ b o, a = some ⟨b, o, none⟩ ∧ b < w.heap.size ∧ ∀ (j : Nat) x, zs[j]? = some x → w.cell? ⟨b, o + j, none⟩ = some (.string x))
theorem cell_below {w w' : World} (hb : Below w.heap.size w w') {b o : Nat} (h : b < w.heap.size) : w'.cell? ⟨b, o, none⟩ = w.cell? ⟨b, o, none⟩ := by
  simp [World.cell?, hb.block b h]
theorem TxRow.below {w w' : World} {a : Option Addr} {len cap : Nat} {zs : List ByteArray} (h : TxRow w a len cap zs) (hb : Below w.heap.size w w') : TxRow w' a len cap zs := by
  obtain ⟨h1, h2, h3, h4, h5⟩ := h
  refine ⟨h1, h2, h3, h4, ?_⟩
  rcases h5 with h5 | ⟨b, o, rfl, hlt, hc⟩
  · exact Or.inl h5
  · exact Or.inr ⟨b, o, rfl, Nat.lt_of_lt_of_le hlt hb.size, fun j x hx => by rw [cell_below hb hlt]; exact hc j x hx⟩
theorem TxRow.at {w : World} {a : Option Addr} {len cap : Nat} {zs : List ByteArray} (h : TxRow w a len cap zs) {k : Nat} (hk : k < len) :
    ∃ b o x, a = some ⟨b, o, none⟩ ∧ b < w.heap.size ∧ zs[k]? = some x ∧ w.cell? ⟨b, o + k, none⟩ = some (.string x) ∧ x.size ≤ 9223372036854775807 := by
  obtain ⟨h1, h2, h3, h4, h5⟩ := h
  have hx : zs[k]? = some (zs[k]'(by omega)) := List.getElem?_eq_getElem _
  rcases h5 with h5 | ⟨b, o, rfl, hlt, hc⟩
  · subst h5; simp at h1; omega
  · exact ⟨b, o, _, rfl, hlt, hx, hc k _ hx, h4 k _ hx⟩

/-- What is left of a measure: nothing, or no more than there was, and the fact. -/
def SzAns (left : Int) (p : Prop) (w : World) (e : Ending) (w' : World) : Prop := ∃ r : Int, e = .returned (.int .i64 r) ∧ (r = -1 ∨ (0 ≤ r ∧ r ≤ left ∧ p)) ∧ w = w'

theorem infoStr : (Try.prog.info? 9).map (fun i => (i.zero, i.size, i.bytes)) = some (some (.string ⟨#[]⟩), 1, 16) := by kernel_rfl
theorem block_set {w : World} {g i : Nat} {cs : Array Value} {t : TypeId} {fr : Nat × Nat} (h : w.heap[g]? = some (.cells cs t fr)) (v : Value) : (w.setCell ⟨g, i, none⟩ v).heap[g]? = some (.cells (cs.setIfInBounds i v) t fr) := by
  obtain ⟨hl, hh⟩ := Array.getElem?_eq_some_iff.1 h
  unfold World.setCell
  simp [Array.getElem?_modify, h]
theorem take_set {α : Type} {zs Z : List α} {k : Nat} {x : α} (h : zs[k]? = some x) (hk : k < zs.length) (hZ : Z.length = zs.length) :
    ((zs.take k ++ Z.drop k).toArray.setIfInBounds k x) = (zs.take (k + 1) ++ Z.drop (k + 1)).toArray := by
  apply Array.ext'
  have hl : (zs.take k).length = k := by rw [List.length_take]; omega
  have hd : Z.drop k = Z[k]'(by omega) :: Z.drop (k + 1) := List.drop_eq_getElem_cons (by omega)
  rw [List.take_add_one, h, hd]
  simp only [List.setIfInBounds_toArray, List.set_append, hl, Nat.lt_irrefl, if_false, Nat.sub_self, List.set_cons_zero, Option.toList_some, List.append_assoc, List.singleton_append]

theorem full_rowT {w : World} {B g n : Nat} {e : TypeId} {xs : List Value} (h : w.ownsRow B e 1 (.slice (some ⟨g, 0, none⟩) n n) n xs) :
    w.heap[g]? = some (.cells xs.toArray e (0, 0)) ∧ xs.length = n ∧ B ≤ g := by
  obtain ⟨h1, h2⟩ := h
  rcases h2 with ⟨h3, _⟩ | ⟨g', cap, cur, hv, hB, hh, _, _, hsz, htk⟩
  · cases h3
  · simp only [Value.slice.injEq, Option.some.injEq, Addr.mk.injEq] at hv
    obtain ⟨⟨rfl, _, _⟩, _, rfl⟩ := hv
    have hl : cur.toList.length ≤ n * 1 := by simp [hsz]
    rw [List.take_of_length_le hl] at htk
    subst htk
    exact ⟨by simpa using hh, by simpa using hsz, hB⟩

theorem tl_no {a b : ByteArray} (h : ¬ a = b) : (a.toList == b.toList) = false := by
  rw [beq_eq_false_iff_ne]
  intro e
  rw [Lib.toList_data, Lib.toList_data] at e
  exact h (by cases a; cases b; simp at e; rw [e])
/-- The answer is a bool: whether p; what was there stands. -/
def BoolB (p : Prop) (w : World) (e : Ending) (w' : World) : Prop := ∃ r : Bool, e = .returned (.bool r) ∧ (r = true ↔ p) ∧ Below w.heap.size w w'

/-- Names that rise, so many at most. -/
def Rising (zs : List ByteArray) : Prop := ∀ (i : Nat) x, zs[i]? = some x → NameOk x ∧ ∀ y, 0 < i → zs[i - 1]? = some y → Op.bytesLess y.toList x.toList = true
def NamesOk (zs : List ByteArray) (most : Int) : Prop := (zs.length : Int) ≤ most ∧ Rising zs
theorem less_tri : ∀ x y : List UInt8, (Op.bytesLess y x || y == x) = !Op.bytesLess x y
  | [], [] => by simp [Op.bytesLess]
  | _ :: _, [] => by simp [Op.bytesLess]
  | [], _ :: _ => by simp [Op.bytesLess]
  | a :: x, b :: y => by
    have ih := less_tri x y
    simp only [Op.bytesLess]
    rcases Nat.lt_trichotomy a.toNat b.toNat with h | h | h
    · have h1 : a < b := UInt8.lt_iff_toNat_lt.2 h
      have h2 : ¬ b < a := fun h' => by have := UInt8.lt_iff_toNat_lt.1 h'; omega
      have h3 : ¬ b = a := fun h' => by subst h'; omega
      simp [h1, h2, h3]
    · obtain rfl : a = b := UInt8.toNat_inj.1 h
      have h2 : ¬ a < a := fun h' => by have := UInt8.lt_iff_toNat_lt.1 h'; omega
      simp [h2]
      simpa using ih
    · have h1 : b < a := UInt8.lt_iff_toNat_lt.2 h
      have h2 : ¬ a < b := fun h' => by have := UInt8.lt_iff_toNat_lt.1 h'; omega
      have h3 : ¬ a = b := fun h' => by subst h'; omega
      simp [h1, h2, h3]

theorem BoolAns.yes {p : Prop} {w w' : World} {e : Ending} (h : BoolAns p w e w') (hp : p) : e = .returned (.bool true) ∧ w' = w := by
  obtain ⟨r, rfl, hr, rfl⟩ := h
  exact ⟨by rw [hr.2 hp], rfl⟩
theorem BoolAns.no {p : Prop} {w w' : World} {e : Ending} (h : BoolAns p w e w') (hp : ¬ p) : e = .returned (.bool false) ∧ w' = w := by
  obtain ⟨r, rfl, hr, rfl⟩ := h
  cases r
  · exact ⟨rfl, rfl⟩
  · exact absurd (hr.1 rfl) hp
theorem Rising.step {zs : List ByteArray} {k : Nat} {x : ByteArray} (h : Rising (zs.take k)) (hx : zs[k]? = some x) (hn : NameOk x) (hy : ∀ y, 0 < k → zs[k - 1]? = some y → Op.bytesLess y.toList x.toList = true) : Rising (zs.take (k + 1)) := by
  intro i z hz
  rw [List.getElem?_take] at hz
  split at hz
  · rename_i hi
    by_cases e : i = k
    · subst e
      rw [hx] at hz
      obtain rfl := Option.some.inj hz
      refine ⟨hn, fun y h0 h1 => hy y h0 ?_⟩
      rw [List.getElem?_take, if_pos (by omega)] at h1
      exact h1
    · have := h i z (by rw [List.getElem?_take, if_pos (by omega)]; exact hz)
      refine ⟨this.1, fun y h0 h1 => this.2 y h0 ?_⟩
      rw [List.getElem?_take, if_pos (by omega)] at h1 ⊢
      exact h1
  · cases hz

theorem less_nil {x : ByteArray} (h : 1 ≤ x.size) : Op.bytesLess (⟨#[]⟩ : ByteArray).toList x.toList = true := by
  rw [Lib.toList_data, Lib.toList_data]
  rw [Lib.size_eq] at h
  cases e : x.data.toList with
  | nil => rw [e] at h; simp at h
  | cons a l => rfl

end Go.Proofs.Ythbkcphbkgekdaa

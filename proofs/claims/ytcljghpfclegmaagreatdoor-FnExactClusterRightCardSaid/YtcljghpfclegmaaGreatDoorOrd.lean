/-
  Names in order: where one stands, and that it stands there once.
-/
import Derived.Test.YtcljghpfclegmaaGreatDoorClu
namespace Go.Proofs.YtcljghpfclegmaaGreatDoor
open Go.RowKit
namespace Rc

theorem less_irr : ∀ x : List UInt8, Op.bytesLess x x = false
  | [] => rfl
  | a :: x => by simp [Op.bytesLess, less_irr x]
theorem less_trans : ∀ x y z : List UInt8, Op.bytesLess x y = true → Op.bytesLess y z = true → Op.bytesLess x z = true
  | _, [], _, h, _ => by cases ‹List UInt8› <;> simp [Op.bytesLess] at h
  | _, _ :: _, [], _, h => by simp [Op.bytesLess] at h
  | [], _ :: _, _ :: _, _, _ => rfl
  | a :: x, b :: y, c :: z, h, k => by
    simp only [Op.bytesLess, Bool.or_eq_true, decide_eq_true_eq, Bool.and_eq_true, beq_iff_eq] at h k ⊢
    rcases h with h | ⟨rfl, h⟩
    · rcases k with k | ⟨rfl, k⟩
      · exact .inl (UInt8.lt_trans h k)
      · exact .inl h
    · rcases k with k | ⟨rfl, k⟩
      · exact .inl k
      · exact .inr ⟨rfl, less_trans x y z h k⟩
section
variable {α : Type} {nm : α → ByteArray} {xs : List α} {t : ByteArray}
/-- Rising by name. -/
def RisBy (nm : α → ByteArray) (xs : List α) : Prop := ∀ (j : Nat) x y, xs[j + 1]? = some x → xs[j]? = some y → Op.bytesLess (nm y).toList (nm x).toList = true
theorem RisBy.lt (h : RisBy nm xs) {i j : Nat} {x y : α} (hij : i < j) (hi : xs[i]? = some x) (hj : xs[j]? = some y) : Op.bytesLess (nm x).toList (nm y).toList = true := by
  induction j generalizing y with
  | zero => omega
  | succ j ih =>
    by_cases e : i = j
    · subst e; exact h i y x hj hi
    · have hl : j < xs.length := by have := (List.getElem?_eq_some_iff.1 hj).1; omega
      have hz : xs[j]? = some (xs[j]'hl) := List.getElem?_eq_getElem _
      exact less_trans _ _ _ (ih (by omega) hz) (h j y _ hj hz)
theorem RisBy.inj (h : RisBy nm xs) {i j : Nat} {x y : α} (hi : xs[i]? = some x) (hj : xs[j]? = some y) (e : nm x = nm y) : i = j ∧ x = y := by
  have hij : i = j := by
    rcases Nat.lt_trichotomy i j with k | k | k
    · have := h.lt k hi hj; rw [e, less_irr] at this; cases this
    · exact k
    · have := h.lt k hj hi; rw [e, less_irr] at this; cases this
  subst hij
  rw [hi] at hj
  exact ⟨rfl, Option.some.inj hj⟩
/-- The place of a name. -/
def pl (nm : α → ByteArray) (xs : List α) (t : ByteArray) : Nat := xs.findIdx (fun x => !Op.bytesLess (nm x).toList t.toList)
def hit (nm : α → ByteArray) (xs : List α) (t : ByteArray) : Bool := match xs[pl nm xs t]? with | some x => (nm x).toList == t.toList | none => false
theorem pl_at {k : Nat} {x : α} (h : ∀ (j : Nat) y, j < k → xs[j]? = some y → Op.bytesLess (nm y).toList t.toList = true) (hx : xs[k]? = some x) (hl : Op.bytesLess (nm x).toList t.toList = false) : pl nm xs t = k := by
  have hk : k < xs.length := (List.getElem?_eq_some_iff.1 hx).1
  have hxe : xs[k] = x := (List.getElem?_eq_some_iff.1 hx).2
  unfold pl
  rw [List.findIdx_eq hk]
  refine ⟨by rw [hxe, hl]; rfl, fun j hj => ?_⟩
  rw [h j _ hj (List.getElem?_eq_getElem (by omega))]
  rfl
theorem pl_end (h : ∀ (j : Nat) y, xs[j]? = some y → Op.bytesLess (nm y).toList t.toList = true) : pl nm xs t = xs.length := by
  unfold pl
  rw [List.findIdx_eq_length]
  intro x hx
  obtain ⟨j, hj, rfl⟩ := List.mem_iff_getElem.1 hx
  rw [h j _ (List.getElem?_eq_getElem hj)]
  rfl
theorem tl_inj {a b : ByteArray} (h : (a.toList == b.toList) = true) : a = b := by
  by_cases e : a = b
  · exact e
  · rw [tl_no e] at h; cases h
theorem hit_at (hr : RisBy nm xs) {j : Nat} {x : α} (hx : xs[j]? = some x) (hn : nm x = t) : pl nm xs t = j ∧ hit nm xs t = true := by
  have h : pl nm xs t = j := pl_at (fun i y hi hy => by rw [← hn]; exact hr.lt hi hy hx) hx (by rw [hn]; exact less_irr _)
  refine ⟨h, ?_⟩
  unfold hit
  rw [h, hx]
  exact tl_yes hn
theorem hit_no (h : ∀ (j : Nat) x, xs[j]? = some x → ¬ nm x = t) : hit nm xs t = false := by
  unfold hit
  split
  · next x hx => exact tl_no (h _ x hx)
  · rfl
theorem hit_yes (h : hit nm xs t = true) : ∃ x, xs[pl nm xs t]? = some x ∧ nm x = t := by
  unfold hit at h
  split at h
  · next x hx => exact ⟨x, hx, tl_inj h⟩
  · cases h
/-- No more than so many, all right, rising. -/
def RowOk (ok : α → Prop) (nm : α → ByteArray) (xs : List α) (most : Int) : Prop := (xs.length : Int) ≤ most ∧ (∀ (j : Nat) x, xs[j]? = some x → ok x) ∧ RisBy nm xs
end
theorem BoolB.yes {p : Prop} {w w' : World} {e : Ending} (h : BoolB p w e w') (hp : p) : e = .returned (.bool true) ∧ Below w.heap.size w w' := by
  obtain ⟨r, rfl, hr, hb⟩ := h
  exact ⟨by rw [hr.2 hp], hb⟩
theorem BoolB.no {p : Prop} {w w' : World} {e : Ending} (h : BoolB p w e w') (hp : ¬ p) : e = .returned (.bool false) ∧ Below w.heap.size w w' := by
  obtain ⟨r, rfl, hr, hb⟩ := h
  cases r
  · exact ⟨rfl, hb⟩
  · exact absurd (hr.1 rfl) hp
theorem BoolB.t {p : Prop} {w w' : World} (hp : p) (hb : Below w.heap.size w w') : BoolB p w (.returned (.bool true)) w' := ⟨true, rfl, ⟨fun _ => hp, fun _ => rfl⟩, hb⟩
theorem BoolB.f {p : Prop} {w w' : World} (hp : ¬ p) (hb : Below w.heap.size w w') : BoolB p w (.returned (.bool false)) w' := ⟨false, rfl, ⟨fun h => (by cases h), fun h => absurd h hp⟩, hb⟩
/-- What each kind must be. -/
def ndOk (x : Nd) : Prop := NodeOk x.n x.z x.c x.s x.u x.zs
def kdOk (x : Kd) : Prop := ClassOk x.n x.z
def vdOk (v : Vd) : Prop := VolOk v.n v.c v.z v.k v.x v.m v.y v.zs
def xdOk (x : Xd) : Prop := ClaimOk x.n x.z x.k x.v
def pdOk (x : Pd) : Prop := PodOk x.n x.c x.z x.zs x.d x.p

end Rc
end Go.Proofs.YtcljghpfclegmaaGreatDoor

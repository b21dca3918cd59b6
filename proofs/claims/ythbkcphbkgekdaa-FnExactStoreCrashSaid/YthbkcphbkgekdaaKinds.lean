/-
  What is right: a node, a class, a volume, a claim, a pod: of the program and of the specification.
-/
import Derived.Test.YthbkcphbkgekdaaStrs
namespace Go.Proofs.Ythbkcphbkgekdaa
open Go.RowKit

theorem retK {a b : Bool} (h : a = b) : Ending.returned (.bool a) = .returned (.bool b) := by rw [h]
def ZoneOk (s : ByteArray) : Prop := s = ⟨#[]⟩ ∨ NameOk s
def Inn (n a b : Int) : Prop := a ≤ n ∧ n ≤ b

set_option maxHeartbeats 400000 in
theorem kis_any (n a b : Int) (w : World) :
    Calls Try.prog 9 #[.int .i64 n, .int .i64 a, .int .i64 b] w (BoolAns (Inn n a b) w) := by
  go_enter Try.func9, Try.ntmps9
  go_wp2
  all_goals (go_ret; exact ⟨_, rfl, by unfold Inn; simp; omega, rfl⟩)

set_option maxHeartbeats 400000 in
theorem kwithin_any (n a b : Int) (w : World) :
    Calls Try.prog 14 #[.int .i64 n, .int .i64 a, .int .i64 b] w (BoolAns (Inn n a b) w) := by
  go_enter Try.func14, Try.ntmps14
  go_wp2
  all_goals (go_ret; exact ⟨_, rfl, by unfold Inn; simp; omega, rfl⟩)

theorem hidK {p : Prop} (h : p) : Hid p := h
theorem isE_no {s : ByteArray} (h : ¬ s = ⟨#[]⟩) : s.toList.isEmpty = false := by
  have := tl_no h
  rw [Lib.toList_data] at this ⊢
  cases e : s.data.toList with
  | nil => exact absurd (by cases s; simp at e; rw [e]) h
  | cons a l => rfl
theorem isE_yes : (⟨#[]⟩ : ByteArray).toList.isEmpty = true := by rw [Lib.toList_data]; rfl
/-- A block that was laid last, behind what a callee left: as it was. -/
theorem slotK {w w1 : World} {vs : Array Value} {T : TypeId} (hb : Below (w.alloc (.cells vs T)).heap.size (w.alloc (.cells vs T)) w1) :
    w1.heap[w.heap.size]? = some (.cells vs T (0, 0)) ∧ Below w.heap.size w w1 ∧ w.heap.size < w1.heap.size := by
  have hs : (w.alloc (.cells vs T)).heap.size = w.heap.size + 1 := by simp
  have h1 := hb.size
  refine ⟨?_, ?_, by omega⟩
  · rw [hb.block _ (by omega)]
    show (w.heap.push _)[w.heap.size]? = _
    simp
  · exact ((Below.refl w.heap.size w).alloc (Nat.le_refl _) _).trans (hb.mono (by omega))
theorem slotKd {w w1 : World} {vs : Array Value} {T : TypeId} (hb : Below (w.alloc (.cells vs T)).drew.heap.size (w.alloc (.cells vs T)).drew w1) :
    w1.heap[w.heap.size]? = some (.cells vs T (0, 0)) ∧ Below w.heap.size w w1 ∧ w.heap.size < w1.heap.size := slotK ⟨hb.os, hb.tape, hb.output, hb.size, hb.block⟩
theorem cellK {w : World} {b : Nat} {vs : Array Value} {T : TypeId} {f : Nat × Nat} (h : w.heap[b]? = some (.cells vs T f)) (i : Nat) : w.cell? ⟨b, i, none⟩ = vs[i]? := by simp [World.cell?, h]
theorem below1 (w : World) (o : Obj) : Below w.heap.size w (w.alloc o) := (Below.refl _ _).alloc (Nat.le_refl _) o

/-- A node: name, zone, cpu, slots, until, mounts. -/
def NodeOk (n z : ByteArray) (c s u : Int) (zs : List ByteArray) : Prop := NameOk n ∧ NameOk z ∧ Inn c 0 1000000 ∧ Inn s 0 8 ∧ Inn u 0 1000000 ∧ NamesOk zs 8
def nodeV (n z : ByteArray) (c s u : Int) (d : Bool) (a : Option Addr) (len cap : Nat) : Value := .agg #[.string n, .string z, .int .i64 c, .int .i64 s, .int .i64 u, .bool d, .slice a len cap]

/-- A class: name, zone. -/
def ClassOk (n z : ByteArray) : Prop := NameOk n ∧ ZoneOk z

/-- A claim: name, size, class, volume. -/
def ClaimOk (n : ByteArray) (z : Int) (k v : ByteArray) : Prop := NameOk n ∧ Inn z 1 1048576 ∧ NameOk k ∧ ZoneOk v

/-- A pod: name, cpu, zone, claims, node, phase. -/
def SuitsOk (d : ByteArray) (p : Int) : Prop := (p = 0 ∧ d = ⟨#[]⟩) ∨ ((p = 1 ∨ p = 2) ∧ NameOk d)
def PodOk (n : ByteArray) (c : Int) (z : ByteArray) (zs : List ByteArray) (d : ByteArray) (p : Int) : Prop := NameOk n ∧ Inn c 0 1000000 ∧ ZoneOk z ∧ NamesOk zs 3 ∧ SuitsOk d p
theorem suits_pend (d : ByteArray) : SuitsOk d 0 ↔ d = ⟨#[]⟩ := by unfold SuitsOk; simp
theorem suits_on {p : Int} (d : ByteArray) (h : p = 1 ∨ p = 2) : SuitsOk d p ↔ NameOk d := by
  unfold SuitsOk
  constructor
  · rintro (⟨h1, _⟩ | ⟨_, h1⟩)
    · omega
    · exact h1
  · exact fun h1 => Or.inr ⟨h, h1⟩
theorem suits_no {p : Int} {d : ByteArray} (h : p < 0 ∨ 2 < p) : ¬ SuitsOk d p := by
  unfold SuitsOk
  rintro (⟨h1, _⟩ | ⟨h1, _⟩) <;> omega
theorem isE_iff (s : ByteArray) : s.toList.isEmpty = true ↔ s = ⟨#[]⟩ := by
  constructor
  · intro h
    by_cases h0 : s = ⟨#[]⟩
    · exact h0
    · rw [isE_no h0] at h; cases h
  · rintro rfl
    exact isE_yes

/-- A volume: name, size, zone, class, single, claim, spent, on. -/
def VolOk (n : ByteArray) (c : Int) (z k : ByteArray) (x : Bool) (m : ByteArray) (y : Bool) (zs : List ByteArray) : Prop :=
  NameOk n ∧ Inn c 1 1048576 ∧ NameOk z ∧ NameOk k ∧ ZoneOk m ∧ (y = true → m = ⟨#[]⟩) ∧ NamesOk zs (if x = true then 1 else 6)

theorem names_six {zs : List ByteArray} {x : Bool} (h : NamesOk zs (if x = true then 1 else 6)) : NamesOk zs 6 := by
  refine ⟨?_, h.2⟩
  have := h.1
  split at this <;> omega

end Go.Proofs.Ythbkcphbkgekdaa

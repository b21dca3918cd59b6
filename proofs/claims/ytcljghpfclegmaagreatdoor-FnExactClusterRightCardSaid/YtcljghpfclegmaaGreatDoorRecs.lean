/-
  Lists of records in the world, whatever their kind: they lie there, they are owned, they are marked.
-/
import Derived.Test.YtcljghpfclegmaaGreatDoorMark
namespace Go.Proofs.YtcljghpfclegmaaGreatDoor
open Go.RowKit
namespace Rc
open Mk

/-- What a field says. -/
inductive Fv where
  | s (b : ByteArray)
  | i (n : Int)
  | b (x : Bool)
  | l (zs : List ByteArray)
/-- The value of a flat field. -/
def Fv.val : Fv → Option Value
  | .s t => some (.string t)
  | .i n => some (.int .i64 n)
  | .b x => some (.bool x)
  | .l _ => none
def Fv.fit : Fv → Prop
  | .s t => t.size ≤ 9223372036854775807
  | _ => True
/-- A cell holds what the field says. -/
def Fv.Is (w : World) : Fv → Value → Prop
  | .s t, v => v = .string t ∧ t.size ≤ 9223372036854775807
  | .i n, v => v = .int .i64 n
  | .b x, v => v = .bool x
  | .l zs, v => ∃ a len cap, v = .slice a len cap ∧ TxRow w a len cap zs
theorem Fv.Is.below {w w' : World} {f : Fv} {v : Value} (h : f.Is w v) (hb : Below w.heap.size w w') : f.Is w' v := by
  cases f with
  | l zs => obtain ⟨a, len, cap, h1, h2⟩ := h; exact ⟨a, len, cap, h1, h2.below hb⟩
  | _ => exact h
/-- A record lies at a place. -/
def RAt (w : World) (b o : Nat) (r : List Fv) : Prop := ∀ (i : Nat) f, r[i]? = some f → ∃ v, w.cell? ⟨b, o + i, none⟩ = some v ∧ f.Is w v
theorem RAt.below {w w' : World} {b o : Nat} {r : List Fv} (h : RAt w b o r) (hl : b < w.heap.size) (hb : Below w.heap.size w w') : RAt w' b o r := by
  intro i f hi
  obtain ⟨v, h1, h2⟩ := h i f hi
  exact ⟨v, (cell_below hb hl).trans h1, h2.below hb⟩
/-- A list of records of m cells lies in the world. -/
def RRow (w : World) (a : Option Addr) (len cap m : Nat) (rs : List (List Fv)) : Prop :=
  rs.length = len ∧ len ≤ cap ∧ cap ≤ 9223372036854775807 ∧ (rs = [] ∨ ∃ b o, a = some ⟨b, o, none⟩ ∧ b < w.heap.size ∧ ∀ (j : Nat) r, rs[j]? = some r → RAt w b (o + j * m) r)
theorem RRow.below {w w' : World} {a : Option Addr} {len cap m : Nat} {rs : List (List Fv)} (h : RRow w a len cap m rs) (hb : Below w.heap.size w w') : RRow w' a len cap m rs := by
  obtain ⟨h1, h2, h3, h5⟩ := h
  refine ⟨h1, h2, h3, ?_⟩
  rcases h5 with h5 | ⟨b, o, rfl, hlt, hc⟩
  · exact Or.inl h5
  · exact Or.inr ⟨b, o, rfl, Nat.lt_of_lt_of_le hlt hb.size, fun j v hv => (hc j v hv).below hlt hb⟩
theorem RRow.at {w : World} {a : Option Addr} {len cap m : Nat} {rs : List (List Fv)} (h : RRow w a len cap m rs) {j : Nat} (hj : j < len) :
    ∃ b o r, a = some ⟨b, o, none⟩ ∧ b < w.heap.size ∧ rs[j]? = some r ∧ RAt w b (o + j * m) r := by
  obtain ⟨h1, h2, h3, h5⟩ := h
  have hx : rs[j]? = some (rs[j]'(by omega)) := List.getElem?_eq_getElem _
  rcases h5 with h5 | ⟨b, o, rfl, hlt, hc⟩
  · subst h5; simp at h1; omega
  · exact ⟨b, o, _, rfl, hlt, hx, hc j _ hx⟩
theorem RRow.nil {w : World} (a : Option Addr) (cap m : Nat) (h : cap ≤ 9223372036854775807) : RRow w a 0 cap m [] := ⟨rfl, Nat.zero_le _, h, .inl rfl⟩

/-- All but some blocks stands. -/
structure KeptS (S : Nat → Prop) (w w' : World) : Prop where
  os : w'.os = w.os
  tape : w'.tape = w.tape
  output : w'.output = w.output
  size : w.heap.size ≤ w'.heap.size
  block : ∀ k, k < w.heap.size → ¬ S k → w'.heap[k]? = w.heap[k]?
theorem KeptS.refl (S : Nat → Prop) (w : World) : KeptS S w w := ⟨rfl, rfl, rfl, Nat.le_refl _, fun _ _ _ => rfl⟩
theorem KeptS.trans {S : Nat → Prop} {a b c : World} (h : KeptS S a b) (k : KeptS S b c) : KeptS S a c := ⟨k.os.trans h.os, k.tape.trans h.tape, k.output.trans h.output, Nat.le_trans h.size k.size, fun i hi hn => (k.block i (Nat.lt_of_lt_of_le hi h.size) hn).trans (h.block i hi hn)⟩
theorem KeptS.of_below {S : Nat → Prop} {w w' : World} (k : Below w.heap.size w w') : KeptS S w w' := ⟨k.os, k.tape, k.output, k.size, fun i hi _ => k.block i hi⟩
theorem KeptS.below {S : Nat → Prop} {a b c : World} (h : KeptS S a b) (k : Below b.heap.size b c) : KeptS S a c := h.trans (KeptS.of_below k)
theorem KeptS.mono {S S' : Nat → Prop} {w w' : World} (h : KeptS S w w') (hs : ∀ k, S k → S' k) : KeptS S' w w' := ⟨h.os, h.tape, h.output, h.size, fun k hk hn => h.block k hk (fun x => hn (hs k x))⟩
theorem KeptS.set {S : Nat → Prop} {g i : Nat} {w w' : World} {v : Value} (h : KeptS S w w') (h1 : S g) : KeptS S w (w'.setCell ⟨g, i, none⟩ v) :=
  ⟨h.os, h.tape, h.output, by simpa [World.setCell] using h.size, fun k hk hn => (Below.heap_setCell _ _ _ _ (show k ≠ g from fun e => hn (e ▸ h1))).trans (h.block k hk hn)⟩
theorem KeptS.kept {S : Nat → Prop} {g : Nat} {w w1 w2 : World} (h : KeptS S w w1) (h1 : S g) (k : Kept g w1 w2) : KeptS S w w2 :=
  h.trans ⟨k.os, k.tape, k.output, k.size, fun i hi hn => k.block i hi (fun e => hn (e ▸ h1))⟩
theorem KeptS.low {S : Nat → Prop} {X : Nat} {w w' : World} (h : KeptS S w w') (hX : X ≤ w.heap.size) (hS : ∀ k, S k → X ≤ k) : Below X w w' := ⟨h.os, h.tape, h.output, h.size, fun k hk => h.block k (Nat.lt_of_lt_of_le hk hX) (fun s => by have := hS k s; omega)⟩

/-- A cell with a list of texts in a block of its own. -/
def LOwn (w : World) (h : Nat) (S : Nat → Prop) (g : Nat) (zs : List ByteArray) (v : Value) : Prop :=
  ∃ a len cap, v = .slice a len cap ∧ zs.length = len ∧ len ≤ cap ∧ cap ≤ 9223372036854775807 ∧ (∀ (j : Nat) x, zs[j]? = some x → x.size ≤ 9223372036854775807) ∧
    (zs = [] ∨ (a = some ⟨h, 0, none⟩ ∧ S h ∧ ¬ h = g ∧ ∃ cu, w.heap[h]? = some (.cells cu 9 (0, 0)) ∧ ∀ (j : Nat) x, zs[j]? = some x → cu[j]? = some (.string x)))
theorem LOwn.row {w : World} {h : Nat} {S : Nat → Prop} {g : Nat} {zs : List ByteArray} {a : Option Addr} {len cap : Nat} (k : LOwn w h S g zs (.slice a len cap)) : TxRow w a len cap zs := by
  obtain ⟨a', l', c', h1, h2, h3, h4, h5, h6⟩ := k
  cases h1
  refine ⟨h2, h3, h4, h5, h6.imp id ?_⟩
  rintro ⟨q1, q2, q3, cu, q4, q5⟩
  exact ⟨h, 0, q1, lt_of_some q4, fun j x hx => by rw [Nat.zero_add, cellK q4]; exact q5 j x hx⟩
theorem LOwn.keep {w w' : World} {h : Nat} {S S' : Nat → Prop} {g : Nat} {zs : List ByteArray} {v : Value} (k : LOwn w h S g zs v) (hk : zs ≠ [] → S h → w'.heap[h]? = w.heap[h]?) (hs : ∀ k, S k → S' k) : LOwn w' h S' g zs v := by
  obtain ⟨a', l', c', h1, h2, h3, h4, h5, h6⟩ := k
  refine ⟨a', l', c', h1, h2, h3, h4, h5, ?_⟩
  by_cases hz : zs = []
  · exact .inl hz
  · rcases h6 with h6 | ⟨q1, q2, q3, cu, q4, q5⟩
    · exact .inl h6
    · exact .inr ⟨q1, hs _ q2, q3, cu, (hk hz q2).trans q4, q5⟩
def Fv.Own (w : World) (h : Nat) (S : Nat → Prop) (g : Nat) : Fv → Value → Prop
  | .s t, v => v = .string t ∧ t.size ≤ 9223372036854775807
  | .i n, v => v = .int .i64 n
  | .b x, v => v = .bool x
  | .l zs, v => LOwn w h S g zs v
theorem Fv.Own.is {w : World} {h : Nat} {S : Nat → Prop} {g : Nat} {f : Fv} {v : Value} (k : f.Own w h S g v) : f.Is w v := by
  cases f with
  | l zs =>
    obtain ⟨a, len, cap, h1, h2⟩ := k
    exact ⟨a, len, cap, h1, LOwn.row (h := h) (S := S) (g := g) (h1 ▸ ⟨a, len, cap, h1, h2⟩)⟩
  | _ => exact k
theorem Fv.Own.keep {w w' : World} {h : Nat} {S S' : Nat → Prop} {g : Nat} {f : Fv} {v : Value} (k : f.Own w h S g v) (hk : (∃ zs, f = .l zs ∧ zs ≠ []) → S h → w'.heap[h]? = w.heap[h]?) (hs : ∀ k, S k → S' k) : f.Own w' h S' g v := by
  cases f with
  | l zs => exact LOwn.keep k (fun hz => hk ⟨zs, rfl, hz⟩) hs
  | _ => exact k
theorem Fv.Own.of_val {w : World} {h : Nat} {S : Nat → Prop} {g : Nat} {f : Fv} {v : Value} (hv : f.val = some v) (hf : f.fit) : f.Own w h S g v := by
  cases f with
  | s t => cases hv; exact ⟨rfl, hf⟩
  | i n => cases hv; exact rfl
  | b x => cases hv; exact rfl
  | l zs => cases hv

/-- The block of a list of records that is owned, with the blocks of its lists. -/
structure ROwnAt (w : World) (g m : Nat) (T : TypeId) (rs : List (List Fv)) (S : Nat → Prop) (cur : Array Value) (H : Nat → Nat → Nat) : Prop where
  blk : w.heap[g]? = some (.cells cur T (0, 0))
  inS : S g
  len : ∀ (j : Nat) r, rs[j]? = some r → r.length = m
  cell : ∀ (j : Nat) r, rs[j]? = some r → ∀ (i : Nat) f, r[i]? = some f → ∃ v, cur[j * m + i]? = some v ∧ f.Own w (H j i) S g v
  inj : ∀ (j : Nat) r (i : Nat) zs (j' : Nat) r' (i' : Nat) zs', rs[j]? = some r → r[i]? = some (.l zs) → zs ≠ [] → rs[j']? = some r' → r'[i']? = some (.l zs') → zs' ≠ [] → H j i = H j' i' → j = j' ∧ i = i'
def ROwn (w : World) (a : Option Addr) (len cap m : Nat) (T : TypeId) (rs : List (List Fv)) (S : Nat → Prop) : Prop :=
  rs.length = len ∧ len ≤ cap ∧ cap ≤ 9223372036854775807 ∧ (rs = [] ∨ ∃ g cur H, a = some ⟨g, 0, none⟩ ∧ ROwnAt w g m T rs S cur H)
theorem ROwnAt.keep {w w' : World} {g m : Nat} {T : TypeId} {rs : List (List Fv)} {S S' : Nat → Prop} {cur : Array Value} {H : Nat → Nat → Nat} (h : ROwnAt w g m T rs S cur H) (hk : ∀ k, k < w.heap.size → S k → w'.heap[k]? = w.heap[k]?) (hs : ∀ k, k < w.heap.size → S k → S' k) : ROwnAt w' g m T rs S' cur H := by
  refine ⟨(hk g (lt_of_some h.blk) h.inS).trans h.blk, hs g (lt_of_some h.blk) h.inS, h.len, fun j r hj i f hi => ?_, h.inj⟩
  obtain ⟨v, h1, h2⟩ := h.cell j r hj i f hi
  refine ⟨v, h1, ?_⟩
  cases f with
  | l zs =>
    obtain ⟨a', l', c', h1, h2, h3, h4, h5, h6⟩ := h2
    refine ⟨a', l', c', h1, h2, h3, h4, h5, h6.imp id ?_⟩
    rintro ⟨q1, q2, q3, cu, q4, q5⟩
    exact ⟨q1, hs _ (lt_of_some q4) q2, q3, cu, (hk _ (lt_of_some q4) q2).trans q4, q5⟩
  | _ => exact h2
theorem ROwn.keep {w w' : World} {a : Option Addr} {len cap m : Nat} {T : TypeId} {rs : List (List Fv)} {S S' : Nat → Prop} (h : ROwn w a len cap m T rs S) (hk : ∀ k, k < w.heap.size → S k → w'.heap[k]? = w.heap[k]?) (hs : ∀ k, k < w.heap.size → S k → S' k) : ROwn w' a len cap m T rs S' := by
  obtain ⟨h1, h2, h3, h4⟩ := h
  refine ⟨h1, h2, h3, h4.imp id ?_⟩
  rintro ⟨g, cur, H, h5, h6⟩
  exact ⟨g, cur, H, h5, h6.keep hk hs⟩
theorem ROwn.below {w w' : World} {a : Option Addr} {len cap m : Nat} {T : TypeId} {rs : List (List Fv)} {S : Nat → Prop} (h : ROwn w a len cap m T rs S) (hb : Below w.heap.size w w') : ROwn w' a len cap m T rs S := h.keep (fun k hk _ => hb.block k hk) (fun _ _ s => s)
theorem ROwn.kept {w w' : World} {a : Option Addr} {len cap m : Nat} {T : TypeId} {rs : List (List Fv)} {S S' : Nat → Prop} (h : ROwn w a len cap m T rs S) (hb : KeptS S' w w') (hd : ∀ k, S k → ¬ S' k) : ROwn w' a len cap m T rs S := h.keep (fun k hk s => hb.block k hk (hd k s)) (fun _ _ s => s)
theorem ROwn.into {w : World} {a : Option Addr} {len cap m : Nat} {T : TypeId} {rs : List (List Fv)} {S S' : Nat → Prop} (h : ROwn w a len cap m T rs S) (hs : ∀ k, k < w.heap.size → S k → S' k) : ROwn w a len cap m T rs S' := h.keep (fun _ _ _ => rfl) hs
theorem ROwnAt.rat {w : World} {g m : Nat} {T : TypeId} {rs : List (List Fv)} {S : Nat → Prop} {cur : Array Value} {H : Nat → Nat → Nat} (h : ROwnAt w g m T rs S cur H) {j : Nat} {r : List Fv} (hj : rs[j]? = some r) : RAt w g (j * m) r := by
  intro i f hi
  obtain ⟨v, h1, h2⟩ := h.cell j r hj i f hi
  exact ⟨v, (cellK h.blk _).trans h1, h2.is⟩
theorem ROwn.row {w : World} {a : Option Addr} {len cap m : Nat} {T : TypeId} {rs : List (List Fv)} {S : Nat → Prop} (h : ROwn w a len cap m T rs S) : RRow w a len cap m rs := by
  obtain ⟨h1, h2, h3, h4⟩ := h
  refine ⟨h1, h2, h3, h4.imp id ?_⟩
  rintro ⟨g, cur, H, h5, h6⟩
  exact ⟨g, 0, h5, lt_of_some h6.blk, fun j r hj => by rw [Nat.zero_add]; exact h6.rat hj⟩
theorem ROwn.nil {w : World} (a : Option Addr) (cap m : Nat) (T : TypeId) (S : Nat → Prop) (h : cap ≤ 9223372036854775807) : ROwn w a 0 cap m T [] S := ⟨rfl, Nat.zero_le _, h, .inl rfl⟩

theorem idx_inj {m j i j' i' : Nat} (hi : i < m) (hi' : i' < m) (h : j * m + i = j' * m + i') : j = j' ∧ i = i' := by
  have hm : 0 < m := by omega
  have e1 : (j * m + i) / m = j := by rw [Nat.mul_comm, Nat.mul_add_div hm, Nat.div_eq_of_lt hi]; rfl
  have e2 : (j' * m + i') / m = j' := by rw [Nat.mul_comm, Nat.mul_add_div hm, Nat.div_eq_of_lt hi']; rfl
  have : j = j' := by rw [← e1, ← e2, h]
  subst this
  exact ⟨rfl, by omega⟩
theorem get_set {α : Type} {rs : List α} {j k : Nat} {r : α} (hj : j < rs.length) : (rs.set j r)[k]? = if j = k then some r else rs[k]? := by
  rw [List.getElem?_set]
  by_cases h : j = k
  · subst h; simp [hj]
  · simp [h]
/-- None of these blocks holds a list of the records. -/
def NoH (N : Nat → Prop) (rs : List (List Fv)) (H : Nat → Nat → Nat) : Prop := ∀ (j : Nat) r (i : Nat) zs, rs[j]? = some r → r[i]? = some (.l zs) → zs ≠ [] → ¬ N (H j i)
/-- A record of an owned list is being written. -/
structure StJ (g m : Nat) (T : TypeId) (S N : Nat → Prop) (w wr : World) (rs : List (List Fv)) (j : Nat) (r : List Fv) : Prop where
  own : ∃ cur H, ROwnAt wr g m T (rs.set j r) S cur H ∧ NoH N (rs.set j r) H
  kept : KeptS S w wr
  lt : j < rs.length
section
variable {g m : Nat} {T : TypeId} {S N : Nat → Prop} {w wr w2 : World} {rs : List (List Fv)} {j : Nat} {r : List Fv}
theorem StJ.below (h : StJ g m T S N w wr rs j r) (hb : Below wr.heap.size wr w2) : StJ g m T S N w w2 rs j r := by
  obtain ⟨⟨cur, H, h1, hN⟩, h2, h3⟩ := h
  exact ⟨⟨cur, H, h1.keep (fun k hk _ => hb.block k hk) (fun _ _ s => s), hN⟩, h2.below hb, h3⟩
/-- A block that came later holds no list of it. -/
theorem StJ.fresh (h : StJ g m T S N w wr rs j r) (hb : Below wr.heap.size wr w2) : StJ g m T S (fun k => wr.heap.size ≤ k) w w2 rs j r := by
  obtain ⟨⟨cur, H, h1, hN⟩, h2, h3⟩ := h
  refine ⟨⟨cur, H, h1.keep (fun k hk _ => hb.block k hk) (fun _ _ s => s), fun j' r' i' zs hj hi hz hk => ?_⟩, h2.below hb, h3⟩
  obtain ⟨v, h4, a, len, cap, rfl, h5, h6, h7, h8, h9⟩ := h1.cell j' r' hj i' _ hi
  rcases h9 with h9 | ⟨q1, q2, q3, cu, q4, q5⟩
  · exact hz h9
  · have := lt_of_some q4
    omega
theorem StJ.get (h : StJ g m T S N w wr rs j r) : (rs.set j r)[j]? = some r := by rw [get_set h.lt, if_pos rfl]
theorem StJ.cell (h : StJ g m T S N w wr rs j r) {i : Nat} {f : Fv} (hi : r[i]? = some f) : ∃ v, wr.cell? ⟨g, j * m + i, none⟩ = some v := by
  obtain ⟨⟨cur, H, h1, hN⟩, h2, h3⟩ := h
  obtain ⟨v, h4, h5⟩ := h1.cell j r (by rw [get_set h3, if_pos rfl]) i f hi
  exact ⟨v, (cellK h1.blk _).trans h4⟩
theorem StJ.fro (h : StJ g m T S N w wr rs j r) (i : Nat) : wr.frozen? ⟨g, i, none⟩ = false := by
  obtain ⟨⟨cur, H, h1, hN⟩, h2, h3⟩ := h
  exact froK h1.blk i
theorem StJ.slice (h : StJ g m T S N w wr rs j r) {i : Nat} {zs : List ByteArray} (hi : r[i]? = some (.l zs)) : ∃ a len cap, wr.cell? ⟨g, j * m + i, none⟩ = some (.slice a len cap) ∧ zs.length = len := by
  obtain ⟨⟨cur, H, h1, hN⟩, h2, h3⟩ := h
  obtain ⟨v, h4, a, len, cap, rfl, h5, -⟩ := h1.cell j r (by rw [get_set h3, if_pos rfl]) i _ hi
  exact ⟨a, len, cap, (cellK h1.blk _).trans h4, h5⟩
theorem set_len (hlt : j < rs.length) {f : Fv} {i : Nat} (hl : ∀ (j' : Nat) r', (rs.set j r)[j']? = some r' → r'.length = m) : ∀ (j' : Nat) r', (rs.set j (r.set i f))[j']? = some r' → r'.length = m := by
  intro j' r' hj'
  rw [get_set hlt] at hj'
  split at hj'
  · cases hj'; rw [List.length_set]; exact hl j r (by rw [get_set hlt, if_pos rfl])
  · exact hl j' r' (by rw [get_set hlt, if_neg (by assumption)]; exact hj')
/-- What stands at a place behind the writing of one field. -/
theorem set_at (hlt : j < rs.length) {f : Fv} {i : Nat} (hil : i < r.length) {j' : Nat} {r' : List Fv} {i' : Nat} {f' : Fv} (hj' : (rs.set j (r.set i f))[j']? = some r') (hi' : r'[i']? = some f') :
    (j' = j ∧ i' = i ∧ f' = f) ∨ (¬ (j' = j ∧ i' = i) ∧ ∃ r0, (rs.set j r)[j']? = some r0 ∧ r0[i']? = some f') := by
  rw [get_set hlt] at hj' ⊢
  split at hj'
  · next e =>
    cases hj'
    rw [if_pos e]
    rw [List.getElem?_set] at hi'
    split at hi'
    · next e2 =>
      try rw [if_pos hil] at hi'
      exact .inl ⟨e.symm, e2.symm, (Option.some.inj hi').symm⟩
    · next e2 => exact .inr ⟨fun q => e2 q.2.symm, r, rfl, hi'⟩
  · next e =>
    rw [if_neg e]
    exact .inr ⟨fun q => e q.1.symm, r', hj', hi'⟩
theorem Fv.Own.set_cell {k : Nat} {v : Value} {u : Fv} {z : Value} {h : Nat} (hu : u.Own wr h S g z) : u.Own (wr.setCell ⟨g, k, none⟩ v) h S g z := by
  cases u with
  | l zs =>
    obtain ⟨a', l', c', k1, k2, k3, k4, k5, k6⟩ := hu
    refine ⟨a', l', c', k1, k2, k3, k4, k5, k6.imp id ?_⟩
    rintro ⟨q1, q2, q3, cu, q4, q5⟩
    exact ⟨q1, q2, q3, cu, (Below.heap_setCell _ _ _ _ q3).trans q4, q5⟩
  | _ => exact hu
/-- A flat field is written. -/
theorem StJ.set (h : StJ g m T S N w wr rs j r) {i : Nat} {old : Fv} (hi : r[i]? = some old) (f : Fv) {v : Value} (hv : f.val = some v) (hf : f.fit) : StJ g m T S N w (wr.setCell ⟨g, j * m + i, none⟩ v) rs j (r.set i f) := by
  have hget := h.get
  obtain ⟨⟨cur, H, h1, hN⟩, h2, h3⟩ := h
  have hil : i < r.length := (List.getElem?_eq_some_iff.1 hi).1
  have hrm : r.length = m := h1.len j r hget
  obtain ⟨v0, hc0, -⟩ := h1.cell j r hget i _ hi
  have hin : j * m + i < cur.size := (Array.getElem?_eq_some_iff.1 hc0).1
  have hnl : ∀ zs, ¬ .l zs = f := fun zs e => by subst e; cases hv
  have back : ∀ (j' : Nat) r' (i' : Nat) zs', (rs.set j (r.set i f))[j']? = some r' → r'[i']? = some (.l zs') → ∃ r0, (rs.set j r)[j']? = some r0 ∧ r0[i']? = some (.l zs') := by
    intro j' r' i' zs' hj' hi'
    rcases set_at h3 hil hj' hi' with ⟨_, _, e⟩ | ⟨_, q⟩
    · exact absurd e (hnl _)
    · exact q
  refine ⟨⟨cur.setIfInBounds (j * m + i) v, H, ⟨block_set h1.blk v, h1.inS, set_len h3 h1.len, fun j' r' hj' i' f' hi' => ?_, fun j' r' i' zs' j2 r2 i2 zs2 hj' hi' hz' hj2 hi2 hz2 hH => ?_⟩, fun j' r' i' zs' hj' hi' hz' => ?_⟩, h2.set h1.inS, h3⟩
  · rcases set_at h3 hil hj' hi' with ⟨rfl, rfl, rfl⟩ | ⟨hne, r0, q1, q2⟩
    · exact ⟨v, by rw [Array.getElem?_setIfInBounds_self_of_lt hin], Fv.Own.of_val hv hf⟩
    · obtain ⟨v', k1, k2⟩ := h1.cell j' r0 q1 i' f' q2
      have hil' : i' < r0.length := (List.getElem?_eq_some_iff.1 q2).1
      have hrm' := h1.len j' r0 q1
      refine ⟨v', ?_, k2.set_cell⟩
      rw [Array.getElem?_setIfInBounds_ne (fun e2 => hne (by have := idx_inj (by omega) (by omega) e2; exact ⟨this.1.symm, this.2.symm⟩))]
      exact k1
  · obtain ⟨r0, b1, b2⟩ := back j' r' i' zs' hj' hi'
    obtain ⟨r3, b3, b4⟩ := back j2 r2 i2 zs2 hj2 hi2
    exact h1.inj j' r0 i' zs' j2 r3 i2 zs2 b1 b2 hz' b3 b4 hz2 hH
  · obtain ⟨r0, b1, b2⟩ := back j' r' i' zs' hj' hi'
    exact hN j' r0 i' zs' b1 b2 hz'
/-- A list in a block that held none is written. -/
theorem StJ.setL (h : StJ g m T S N w wr rs j r) {i : Nat} {old : Fv} (hi : r[i]? = some old) {b : Nat} (zs : List ByteArray) {len cap : Nat} (hb : zs ≠ [] → N b) (hv : LOwn wr b S g zs (.slice (some ⟨b, 0, none⟩) len cap)) :
    StJ g m T S (fun k => N k ∧ ¬ k = b) w (wr.setCell ⟨g, j * m + i, none⟩ (.slice (some ⟨b, 0, none⟩) len cap)) rs j (r.set i (.l zs)) := by
  have hget := h.get
  obtain ⟨⟨cur, H, h1, hN⟩, h2, h3⟩ := h
  have hil : i < r.length := (List.getElem?_eq_some_iff.1 hi).1
  have hrm : r.length = m := h1.len j r hget
  obtain ⟨v0, hc0, -⟩ := h1.cell j r hget i _ hi
  have hin : j * m + i < cur.size := (Array.getElem?_eq_some_iff.1 hc0).1
  have hH : ∀ j' i', ¬ (j' = j ∧ i' = i) → (if j' = j ∧ i' = i then b else H j' i') = H j' i' := fun j' i' hn => if_neg hn
  refine ⟨⟨cur.setIfInBounds (j * m + i) (.slice (some ⟨b, 0, none⟩) len cap), fun j' i' => if j' = j ∧ i' = i then b else H j' i', ⟨block_set h1.blk _, h1.inS, set_len h3 h1.len, fun j' r' hj' i' f' hi' => ?_, fun j' r' i' zs' j2 r2 i2 zs2 hj' hi' hz' hj2 hi2 hz2 hHH => ?_⟩, fun j' r' i' zs' hj' hi' hz' => ?_⟩, h2.set h1.inS, h3⟩
  · rcases set_at h3 hil hj' hi' with ⟨rfl, rfl, rfl⟩ | ⟨hne, r0, q1, q2⟩
    · refine ⟨_, by rw [Array.getElem?_setIfInBounds_self_of_lt hin], ?_⟩
      rw [if_pos ⟨rfl, rfl⟩]
      exact Fv.Own.set_cell (u := .l zs) hv
    · obtain ⟨v', k1, k2⟩ := h1.cell j' r0 q1 i' f' q2
      have hil' : i' < r0.length := (List.getElem?_eq_some_iff.1 q2).1
      have hrm' := h1.len j' r0 q1
      refine ⟨v', ?_, ?_⟩
      · rw [Array.getElem?_setIfInBounds_ne (fun e2 => hne (by have := idx_inj (by omega) (by omega) e2; exact ⟨this.1.symm, this.2.symm⟩))]
        exact k1
      · rw [if_neg hne]
        exact k2.set_cell
  · try simp only [] at hHH
    rcases set_at h3 hil hj' hi' with ⟨rfl, rfl, e1⟩ | ⟨hne, r0, q1, q2⟩
    · rcases set_at h3 hil hj2 hi2 with ⟨rfl, rfl, e2⟩ | ⟨hne2, r3, q3, q4⟩
      · exact ⟨rfl, rfl⟩
      · rw [if_pos ⟨rfl, rfl⟩, if_neg hne2] at hHH
        cases e1
        exact absurd (hHH ▸ hb hz') (hN _ _ _ _ q3 q4 hz2)
    · rcases set_at h3 hil hj2 hi2 with ⟨rfl, rfl, e2⟩ | ⟨hne2, r3, q3, q4⟩
      · rw [if_neg hne, if_pos ⟨rfl, rfl⟩] at hHH
        cases e2
        exact absurd (hHH ▸ hb hz2) (hN _ _ _ _ q1 q2 hz')
      · rw [if_neg hne, if_neg hne2] at hHH
        exact h1.inj _ _ _ _ _ _ _ _ q1 q2 hz' q3 q4 hz2 hHH
  · try simp only []
    rcases set_at h3 hil hj' hi' with ⟨rfl, rfl, e1⟩ | ⟨hne, r0, q1, q2⟩
    · rw [if_pos ⟨rfl, rfl⟩]
      exact fun q => q.2 rfl
    · rw [if_neg hne]
      exact fun q => hN _ _ _ _ q1 q2 hz' q.1
end

/-- Marks from a number on. -/
def marksU (u : Int) (l : Nat) : List ByteArray := (List.range l).map fun j => markT (u.toNat + j)
theorem marksU_length (u : Int) (l : Nat) : (marksU u l).length = l := by simp [marksU]
theorem marksU_at {u : Int} {l j : Nat} {y : ByteArray} (h : (marksU u l)[j]? = some y) : y = markT (u.toNat + j) ∧ j < l := by
  have hj : j < l := by have := (List.getElem?_eq_some_iff.1 h).1; rw [marksU_length] at this; exact this
  unfold marksU at h
  rw [List.getElem?_map, List.getElem?_range hj] at h
  simp at h
  exact ⟨h.symm, hj⟩
theorem set_same {α : Type} {l : List α} {i : Nat} {x : α} (h : l[i]? = some x) : l.set i x = l := by
  apply List.ext_getElem?
  intro k
  rw [List.getElem?_set]
  split
  · next e =>
    subst e
    rw [if_pos (List.getElem?_eq_some_iff.1 h).1, h]
  · rfl

theorem StJ.markL {g m : Nat} {T : TypeId} {S N : Nat → Prop} {w wr : World} {rs : List (List Fv)} {j : Nat} {r : List Fv} (h : StJ g m T S N w wr rs j r) {i : Nat} {zs : List ByteArray} (hi : r[i]? = some (.l zs)) {a : Option Addr} {l c : Nat} (hc : wr.cell? ⟨g, j * m + i, none⟩ = some (.slice a l c)) (u : Int) (hu0 : 0 < u) (hu1 : u + l ≤ 1152921504606846976) :
    Calls Tryz.prog 111 #[.slice a l c, .int .i64 u] wr fun e w' => e = .returned (.int .i64 (u + l)) ∧ StJ g m T S N w w' rs j (r.set i (.l (marksU u l))) := by
  have hget := h.get
  have hst := h
  obtain ⟨⟨cur, H, h1, hN⟩, h2, h3⟩ := h
  have hil : i < r.length := (List.getElem?_eq_some_iff.1 hi).1
  obtain ⟨v0, hc0, a', l', c', rfl, k2, k3, k4, k5, k6⟩ := h1.cell j r hget i _ hi
  rw [cellK h1.blk, hc0] at hc
  cases hc
  obtain ⟨n, rfl⟩ : ∃ n : Nat, u = n := ⟨u.toNat, by omega⟩
  by_cases hz : zs = []
  · subst hz
    obtain rfl : l = 0 := by simpa using k2.symm
    refine (markZn_any a c n wr).mono ?_
    rintro e w' ⟨rfl, hb⟩
    refine ⟨by simp, ?_⟩
    have : marksU (n : Int) 0 = [] := rfl
    rw [this, set_same hi]
    exact hst.below hb
  rcases k6 with k6 | ⟨q1, q2, q3, cu, q4, q5⟩
  · exact absurd k6 hz
  subst q1
  have hls : l ≤ cu.size := by
    rcases Nat.eq_zero_or_pos l with e | e
    · omega
    · have hx : zs[l - 1]? = some (zs[l - 1]'(by omega)) := List.getElem?_eq_getElem _
      have := (Array.getElem?_eq_some_iff.1 (q5 _ _ hx)).1
      omega
  refine (markS_any (H j i) l c n cu wr q4 hls (by omega) (by omega)).mono ?_
  rintro e w' ⟨rfl, hk, cu', hg', hm, hsz⟩
  refine ⟨by simp, ?_⟩
  have back : ∀ (j' : Nat) r' (i' : Nat) zs', (rs.set j (r.set i (.l (marksU (n : Int) l))))[j']? = some r' → r'[i']? = some (.l zs') → zs' ≠ [] → ∃ r0 zs0, (rs.set j r)[j']? = some r0 ∧ r0[i']? = some (.l zs0) ∧ zs0 ≠ [] := by
    intro j' r' i' zs' hj' hi' hz'
    rcases set_at h3 hil hj' hi' with ⟨rfl, rfl, e⟩ | ⟨_, r0, p1, p2⟩
    · exact ⟨r, zs, hget, hi, hz⟩
    · exact ⟨r0, zs', p1, p2, hz'⟩
  refine ⟨⟨cur, H, ⟨(hk.block _ (lt_of_some h1.blk) (fun e => q3 e.symm)).trans h1.blk, h1.inS, set_len h3 h1.len, fun j' r' hj' i' f' hi' => ?_, fun j' r' i' zs' j2 r2 i2 zs2 hj' hi' hz' hj2 hi2 hz2 hH => ?_⟩, fun j' r' i' zs' hj' hi' hz' => ?_⟩, h2.kept q2 hk, h3⟩
  · rcases set_at h3 hil hj' hi' with ⟨rfl, rfl, rfl⟩ | ⟨hne, r0, p1, p2⟩
    · refine ⟨_, hc0, _, _, _, rfl, marksU_length _ _, k3, k4, fun t x hx => ?_, .inr ⟨rfl, q2, q3, cu', hg', fun t x hx => ?_⟩⟩
      · obtain ⟨rfl, ht⟩ := marksU_at hx
        exact markT_size (by simp; omega)
      · obtain ⟨rfl, ht⟩ := marksU_at hx
        have := hm t ht
        simpa using this
    · obtain ⟨v', p3, p4⟩ := h1.cell j' r0 p1 i' f' p2
      refine ⟨v', p3, ?_⟩
      cases f' with
      | l zs' =>
        obtain ⟨a', l', c', e1, e2, e3, e4, e5, e6⟩ := p4
        refine ⟨a', l', c', e1, e2, e3, e4, e5, ?_⟩
        by_cases hz' : zs' = []
        · exact .inl hz'
        rcases e6 with e6 | ⟨z1, z2, z3, cz, z4, z5⟩
        · exact .inl e6
        · refine .inr ⟨z1, z2, z3, cz, (hk.block _ (lt_of_some z4) (fun e => hne (h1.inj _ _ _ _ _ _ _ _ p1 p2 hz' hget hi hz e))).trans z4, z5⟩
      | _ => exact p4
  · obtain ⟨r0, z0, b1, b2, b5⟩ := back j' r' i' zs' hj' hi' hz'
    obtain ⟨r3, z3, b3, b4, b6⟩ := back j2 r2 i2 zs2 hj2 hi2 hz2
    exact h1.inj j' r0 i' z0 j2 r3 i2 z3 b1 b2 b5 b3 b4 b6 hH
  · obtain ⟨r0, z0, b1, b2, b5⟩ := back j' r' i' zs' hj' hi' hz'
    exact hN j' r0 i' z0 b1 b2 b5

theorem StJ.setS {g m : Nat} {T : TypeId} {S N : Nat → Prop} {w wr : World} {rs : List (List Fv)} {j : Nat} {r : List Fv} (h : StJ g m T S N w wr rs j r) {i : Nat} {old : Fv} (hi : r[i]? = some old) (t : ByteArray) (hf : t.size ≤ 9223372036854775807) : StJ g m T S N w (wr.setCell ⟨g, j * m + i, none⟩ (.string t)) rs j (r.set i (.s t)) := h.set hi (.s t) rfl hf
theorem StJ.setI {g m : Nat} {T : TypeId} {S N : Nat → Prop} {w wr : World} {rs : List (List Fv)} {j : Nat} {r : List Fv} (h : StJ g m T S N w wr rs j r) {i : Nat} {old : Fv} (hi : r[i]? = some old) (t : Int) : StJ g m T S N w (wr.setCell ⟨g, j * m + i, none⟩ (.int .i64 t)) rs j (r.set i (.i t)) := h.set hi (.i t) rfl trivial
theorem StJ.setB {g m : Nat} {T : TypeId} {S N : Nat → Prop} {w wr : World} {rs : List (List Fv)} {j : Nat} {r : List Fv} (h : StJ g m T S N w wr rs j r) {i : Nat} {old : Fv} (hi : r[i]? = some old) (t : Bool) : StJ g m T S N w (wr.setCell ⟨g, j * m + i, none⟩ (.bool t)) rs j (r.set i (.b t)) := h.set hi (.b t) rfl trivial
/-- A record of an owned list, opened for writing. -/
theorem ROwn.st {w wr : World} {a : Option Addr} {len cap m : Nat} {T : TypeId} {rs : List (List Fv)} {S : Nat → Prop} (h : ROwn wr a len cap m T rs S) (hk : KeptS S w wr) {i : Nat} {r : List Fv} (hi : rs[i]? = some r) : ∃ g, a = some ⟨g, 0, none⟩ ∧ StJ g m T S (fun _ => False) w wr rs i r := by
  obtain ⟨h1, h2, h3, h4⟩ := h
  rcases h4 with h4 | ⟨g, cur, H, h5, h6⟩
  · subst h4; simp at hi
  · refine ⟨g, h5, ⟨cur, H, ?_, fun _ _ _ _ _ _ _ q => q⟩, hk, (List.getElem?_eq_some_iff.1 hi).1⟩
    rw [set_same hi]
    exact h6
theorem cell_set_ne {w : World} {g i j : Nat} {v : Value} (h : ¬ i = j) : (w.setCell ⟨g, i, none⟩ v).cell? ⟨g, j, none⟩ = w.cell? ⟨g, j, none⟩ := by
  cases hg : w.heap[g]? with
  | none =>
    have hs : (w.setCell ⟨g, i, none⟩ v).heap[g]? = none := by
      have h1 := Array.getElem?_eq_none_iff.1 hg
      exact Array.getElem?_eq_none_iff.2 (by simpa [World.setCell] using h1)
    simp [World.cell?, hg, hs]
  | some o =>
    cases o with
    | cells cs t fr =>
      have := block_set (i := i) hg v
      simp only [World.cell?, hg, this]
      simp [Array.getElem?_setIfInBounds_ne h]
    | _ => simp [World.cell?, World.setCell, Array.getElem?_modify, hg]

theorem markP (u : Int) (w : World) (h0 : 0 < u) (h1 : u ≤ 1152921504606846976) : Calls Tryz.prog 174 #[.int .i64 u] w fun e w' => e = .returned (.string (markT u.toNat)) ∧ Below w.heap.size w w' := by
  obtain ⟨n, rfl⟩ : ∃ n : Nat, u = n := ⟨u.toNat, by omega⟩
  exact markText_any n w (by omega) (by omega)

theorem heldP (a : Option Addr) (len cap : Nat) (u : Int) (w : World) (hr : TxRow w a len cap (marksU u len)) (h0 : 0 < u) (h1 : u + len ≤ 1152921504606846976) :
    Calls Tryz.prog 211 #[.slice a len cap, .int .i64 u] w fun e w' => e = .returned (.int .i64 (u + len)) ∧ Below w.heap.size w w' := by
  obtain ⟨n, rfl⟩ : ∃ n : Nat, u = n := ⟨u.toNat, by omega⟩
  refine (heldS_any a len cap n _ w hr (by omega) (by omega) (fun j x hx => ?_)).mono ?_
  · have := (marksU_at hx).1
    simpa using this
  · rintro e w' ⟨rfl, hb⟩
    exact ⟨by simp, hb⟩

/-- The mark of a field, and the number behind it. -/
def mkF (k : Int) : Fv → Fv
  | .s _ => .s (markT k.toNat)
  | .i _ => .i k
  | .b _ => .b (k % 3 == 0)
  | .l zs => .l (marksU k zs.length)
def mkN1 (k : Int) : Fv → Int
  | .l zs => k + zs.length
  | _ => k + 1
def mkR : Int → List Fv → List Fv
  | _, [] => []
  | k, f :: r => mkF k f :: mkR (mkN1 k f) r
def mkN : Int → List Fv → Int
  | k, [] => k
  | k, f :: r => mkN (mkN1 k f) r
def mkRs : Int → List (List Fv) → List (List Fv)
  | _, [] => []
  | k, r :: rs => mkR k r :: mkRs (mkN k r) rs
def mkNs : Int → List (List Fv) → Int
  | k, [] => k
  | k, r :: rs => mkNs (mkN k r) rs
theorem mkR_length : ∀ (r : List Fv) (k : Int), (mkR k r).length = r.length
  | [], _ => rfl
  | f :: r, k => by simp [mkR, mkR_length r]
theorem mkRs_length : ∀ (rs : List (List Fv)) (k : Int), (mkRs k rs).length = rs.length
  | [], _ => rfl
  | r :: rs, k => by simp [mkRs, mkRs_length rs]
theorem mkRs_at : ∀ (rs : List (List Fv)) (k : Int) (i : Nat), (mkRs k rs)[i]? = (rs[i]?).map (mkR (mkNs k (rs.take i)))
  | [], _, _ => by simp [mkRs]
  | r :: rs, k, 0 => by simp [mkRs, mkNs]
  | r :: rs, k, i + 1 => by simp [mkRs, mkNs, mkRs_at rs]
theorem mkNs_append : ∀ (rs ts : List (List Fv)) (k : Int), mkNs k (rs ++ ts) = mkNs (mkNs k rs) ts
  | [], _, _ => rfl
  | r :: rs, ts, k => by simp [mkNs, mkNs_append rs]
theorem mkNs_step {rs : List (List Fv)} {i : Nat} {r : List Fv} (h : rs[i]? = some r) (k : Int) : mkNs k (rs.take (i + 1)) = mkN (mkNs k (rs.take i)) r := by
  rw [List.take_add_one, h, mkNs_append]
  rfl
theorem mkN1_le (f : Fv) (k : Int) : k ≤ mkN1 k f := by
  cases f <;> simp [mkN1] <;> omega
theorem mkN_ge : ∀ (r : List Fv) (k : Int), k ≤ mkN k r
  | [], _ => Int.le_refl _
  | f :: r, k => Int.le_trans (mkN1_le f k) (mkN_ge r _)
theorem mkNs_ge : ∀ (rs : List (List Fv)) (k : Int), k ≤ mkNs k rs
  | [], _ => Int.le_refl _
  | r :: rs, k => Int.le_trans (mkN_ge r k) (mkNs_ge rs _)
theorem mkN_le {rs : List (List Fv)} {i : Nat} {r : List Fv} (h : rs[i]? = some r) (k : Int) : mkN (mkNs k (rs.take i)) r ≤ mkNs k rs := by
  rw [← mkNs_step h]
  have h2 := mkNs_append (rs.take (i + 1)) (rs.drop (i + 1)) k
  rw [List.take_append_drop] at h2
  rw [h2]
  exact mkNs_ge _ _
theorem take_drop_set {α : Type} {A B : List α} {i : Nat} {x : α} (hl : A.length = B.length) (hi : A[i]? = some x) : (A.take i ++ B.drop i).set i x = A.take (i + 1) ++ B.drop (i + 1) := by
  have hlt : i < A.length := (List.getElem?_eq_some_iff.1 hi).1
  have h1 : (A.take i).length = i := by rw [List.length_take]; omega
  have hd : B.drop i = B[i]'(by omega) :: B.drop (i + 1) := List.drop_eq_getElem_cons (by omega)
  rw [List.take_add_one, hi, hd]
  simp only [List.set_append, h1, Nat.lt_irrefl, if_false, Nat.sub_self, List.set_cons_zero, Option.toList_some, List.append_assoc, List.singleton_append]
theorem take_drop_at {α : Type} {A B : List α} {i : Nat} (hl : A.length = B.length) (hi : i ≤ A.length) : (A.take i ++ B.drop i)[i]? = B[i]? := by
  have h1 : (A.take i).length = i := by rw [List.length_take]; omega
  rw [List.getElem?_append_right (by omega), h1, Nat.sub_self, List.getElem?_drop, Nat.add_zero]
theorem take_drop_len {α : Type} {A B : List α} {i : Nat} (hl : A.length = B.length) (hi : i ≤ A.length) : (A.take i ++ B.drop i).length = B.length := by
  rw [List.length_append, List.length_take, List.length_drop]; omega
theorem ROwn.of_st {g len cap m : Nat} {T : TypeId} {S N : Nat → Prop} {w wr : World} {rs : List (List Fv)} {k : Int} {i : Nat} {r r' : List Fv} (h : StJ g m T S N w wr ((mkRs k rs).take i ++ rs.drop i) i r') (hl : rs.length = len) (hm : (mkRs k rs).length = rs.length) (hc : len ≤ cap) (hc2 : cap ≤ 9223372036854775807) (hi : rs[i]? = some r) (e : r' = mkR (mkNs k (rs.take i)) r) : ROwn wr (some ⟨g, 0, none⟩) len cap m T ((mkRs k rs).take (i + 1) ++ rs.drop (i + 1)) S := by
  subst e
  have hlt : i < rs.length := (List.getElem?_eq_some_iff.1 hi).1
  have h1 : (mkRs k rs)[i]? = some (mkR (mkNs k (rs.take i)) r) := by rw [mkRs_at, hi]; rfl
  obtain ⟨⟨cur, H, h2, -⟩, -, -⟩ := h
  rw [take_drop_set hm h1] at h2
  exact ⟨by rw [take_drop_len hm (by omega)]; exact hl, hc, hc2, .inr ⟨g, cur, H, rfl, h2⟩⟩

end Rc
end Go.Proofs.YtcljghpfclegmaaGreatDoor

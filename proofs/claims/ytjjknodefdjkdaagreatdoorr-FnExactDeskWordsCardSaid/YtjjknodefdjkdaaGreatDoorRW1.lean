import Derived.Lib.ItoaNum
import Derived.Test.YtjjknodefdjkdaaGreatDoorRRows
import Derived.WalkKit
import Derived.WalkSpells
import Derived.OwnWalk
import Derived.Outline
import Derived.Laws.Cover1
import Derived.Lib.BufferWrite
import Derived.Laws.CopyOwn
import Derived.Deep.QuietTactic
import Derived.BigQuiet
import Derived.WalkSmall
import Derived.Laws.IdiomStrings
import Derived.Laws.EntriesVeiled
import Derived.Laws.Tables
import Derived.Deep.RegionWith
import Derived.LaidEql
import Derived.Stop.Asserts
import Derived.RowKitTokens
import Derived.Stop.LaidErr
import Derived.ChangeVars
/-
  The mathematics of numbers in digits: what digits say, and that digits are got back.
-/
namespace Go.Proofs.YtjjknodefdjkdaaGreatDoorR

def val (l : List UInt8) : Nat := l.foldl (fun a b => 10 * a + (b.toNat - 48)) 0
theorem dig_toNat {k : Nat} (h : k < 10) : (UInt8.ofNat (48 + k)).toNat = 48 + k := by
  rw [UInt8.toNat_ofNat']; omega
theorem dec_len {u k : Nat} (h : u < 10 ^ (k + 1)) : (Lib.decDigits u).length ≤ k + 1 := by
  induction k generalizing u with
  | zero => rw [Lib.decDigits, dif_pos (by simpa using h)]; simp
  | succ k ih =>
    rw [Lib.decDigits]
    split
    · simp
    · rw [List.length_append]
      have := @ih (u / 10) (by rw [Nat.pow_succ] at h; omega)
      simp; omega
theorem dec_step (u : Nat) (h : 0 < u) (r : List UInt8) : (if u / 10 = 0 then [] else Lib.decDigits (u / 10)) ++ (UInt8.ofNat (48 + u % 10) :: r) = Lib.decDigits u ++ r := by
  conv => rhs; rw [Lib.decDigits]
  split
  · rename_i h1
    rw [dif_pos (by omega), Nat.mod_eq_of_lt (by omega)]; rfl
  · rename_i h1
    rw [dif_neg (by omega)]; simp

end Go.Proofs.YtjjknodefdjkdaaGreatDoorR

namespace Go.Proofs.YtjjknodefdjkdaaGreatDoorR
open Go.RowKit

def lowB (b : Int) : Bool := decide (97 ≤ b) && decide (b ≤ 122)
def digB (b : Int) : Bool := decide (48 ≤ b) && decide (b ≤ 57)
def nbB (b : Int) : Bool := lowB b || digB b || decide (b = 95)
def okB (i : Nat) (b : Int) : Bool := if i = 0 then lowB b else nbB b
def NameOk (s : ByteArray) : Prop := 1 ≤ s.size ∧ s.size ≤ 20 ∧ ∀ i (h : i < s.size), okB i ((s[i]'h).toNat : Int) = true
def BoolAns (p : Prop) (w : World) (e : Ending) (w' : World) : Prop := ∃ r : Bool, e = .returned (.bool r) ∧ (r = true ↔ p) ∧ w = w'

def TxRow (w : World) (a : Option Addr) (len cap : Nat) (zs : List ByteArray) : Prop :=
  zs.length = len ∧ len ≤ cap ∧ cap ≤ 9223372036854775807 ∧ (∀ (j : Nat) x, zs[j]? = some x → x.size ≤ 9223372036854775807) ∧
  (zs = [] ∨ ∃ b o, a = some ⟨b, o, none⟩ ∧ b < w.heap.size ∧ ∀ (j : Nat) x, zs[j]? = some x → w.cell? ⟨b, o + j, none⟩ = some (.string x))
theorem cell_below {w w' : World} (hb : Below w.heap.size w w') {b o : Nat} (h : b < w.heap.size) : w'.cell? ⟨b, o, none⟩ = w.cell? ⟨b, o, none⟩ := by
  simp [World.cell?, hb.block b h]
theorem TxRow.below {w w' : World} {a : Option Addr} {len cap : Nat} {zs : List ByteArray} (h : TxRow w a len cap zs) (hb : Below w.heap.size w w') : TxRow w' a len cap zs := by
  obtain ⟨h1, h2, h3, h4, h5⟩ := h
  refine ⟨h1, h2, h3, h4, ?_⟩
  rcases h5 with h5 | ⟨b, o, rfl, hlt, hc⟩
  · exact Or.inl h5
  · exact Or.inr ⟨b, o, rfl, Nat.lt_of_lt_of_le hlt hb.size, fun j x hx => by rw [cell_below hb hlt]; exact hc j x hx⟩
theorem TxRow.at {w : World} {a : Option Addr} {len cap : Nat} {zs : List ByteArray} (h : TxRow w a len cap zs) {k : Nat} (hk : k < len) :
    ∃ b o x, a = some ⟨b, o, none⟩ ∧ b < w.heap.size ∧ zs[k]? = some x ∧ w.cell? ⟨b, o + k, none⟩ = some (.string x) ∧ x.size ≤ 9223372036854775807 := by
  obtain ⟨h1, h2, h3, h4, h5⟩ := h
  have hx : zs[k]? = some (zs[k]'(by omega)) := List.getElem?_eq_getElem _
  rcases h5 with h5 | ⟨b, o, rfl, hlt, hc⟩
  · subst h5; simp at h1; omega
  · exact ⟨b, o, _, rfl, hlt, hx, hc k _ hx, h4 k _ hx⟩

theorem infoStr : (Tryz.prog.info? 9).map (fun i => (i.zero, i.size, i.bytes)) = some (some (.string ⟨#[]⟩), 1, 16) := by kernel_rfl
theorem block_set {w : World} {g i : Nat} {cs : Array Value} {t : TypeId} {fr : Nat × Nat} (h : w.heap[g]? = some (.cells cs t fr)) (v : Value) : (w.setCell ⟨g, i, none⟩ v).heap[g]? = some (.cells (cs.setIfInBounds i v) t fr) := by
  obtain ⟨hl, hh⟩ := Array.getElem?_eq_some_iff.1 h
  unfold World.setCell
  simp [Array.getElem?_modify, h]
theorem tl_no {a b : ByteArray} (h : ¬ a = b) : (a.toList == b.toList) = false := by
  rw [beq_eq_false_iff_ne]
  intro e
  rw [Lib.toList_data, Lib.toList_data] at e
  exact h (by cases a; cases b; simp at e; rw [e])
def BoolB (p : Prop) (w : World) (e : Ending) (w' : World) : Prop := ∃ r : Bool, e = .returned (.bool r) ∧ (r = true ↔ p) ∧ Below w.heap.size w w'

set_option maxHeartbeats 1600000 in
theorem eqS_any (a a' : Option Addr) (len len' cap cap' : Nat) (zs zs' : List ByteArray) (w : World) (hr : TxRow w a len cap zs) (hr' : TxRow w a' len' cap' zs') :
    Calls Tryz.prog 6 #[.slice a len cap, .slice a' len' cap'] w (BoolB (zs = zs') w) := by
  have HR : Hid (TxRow w a len cap zs) := hr
  have HR' : Hid (TxRow w a' len' cap' zs') := hr'
  have hlc : len ≤ 9223372036854775807 := Nat.le_trans hr.2.1 hr.2.2.1
  have hlc' : len' ≤ 9223372036854775807 := Nat.le_trans hr'.2.1 hr'.2.2.1
  have hzl : zs.length = len := hr.1
  have hzl' : zs'.length = len' := hr'.1
  clear hr hr'
  by_cases hne : len = len'
  · subst hne
    go_enter Tryz.func6, Tryz.ntmps6
    go_wp2
    go_loopw [5] (fun i wr => ∃ k : Nat, k ≤ len ∧ i = .int .i64 k ∧ Hid (∀ j, j < k → zs[j]? = zs'[j]?) ∧ Hid (Below w.heap.size w wr)) (fun i _ => len - (intOf i).toNat)
    case atStart => exact ⟨0, by omega, rfl, fun j hj => by omega, Below.refl _ _⟩
    case round =>
      obtain ⟨k, hk, rfl, HE, HB⟩ := hrel
      by_cases hlt : k < len
      · obtain ⟨b, o, x, rfl, hb, hx, hc, hsz⟩ := (HR.out.below HB.out).at hlt
        obtain ⟨b', o', x', rfl, hb', hx', hc', hsz'⟩ := (HR'.out.below HB.out).at hlt
        by_cases hxx : x = x'
        · have hq : (x.toList == x'.toList) = true := by rw [hxx]; simp
          go_wp2
          go_quiet (fail)
          go_wp2
          refine ⟨⟨k + 1, by omega, by go_num, fun j hj => ?_, below_drewN HB.out _⟩, by simp [intOf]; omega⟩
          by_cases e : j = k
          · subst e; rw [hx, hx', hxx]
          · exact HE.out j (by omega)
        · have hq : (x.toList == x'.toList) = false := tl_no hxx
          go_wp2
          go_quiet (fail)
          go_wp2
          go_ret
          refine ⟨false, rfl, ⟨fun h => (by cases h), fun h => ?_⟩, below_drewN HB.out _⟩
          subst h
          rw [hx] at hx'
          exact absurd (Option.some.inj hx') hxx
      · obtain rfl : k = len := by omega
        go_wp2
        go_ret
        refine ⟨true, rfl, ⟨fun _ => List.ext_getElem? fun j => ?_, fun _ => rfl⟩, HB.out⟩
        by_cases hj : j < zs.length
        · exact HE.out j (by omega)
        · rw [List.getElem?_eq_none (by omega), List.getElem?_eq_none (by omega)]
  · have hne' : ¬ (len : Int) = len' := by omega
    go_enter Tryz.func6, Tryz.ntmps6
    go_wp2
    go_ret
    exact ⟨false, rfl, ⟨fun h => (by cases h), fun h => absurd (congrArg List.length h) (by omega)⟩, Below.refl _ _⟩

def Rising (zs : List ByteArray) : Prop := ∀ (i : Nat) x, zs[i]? = some x → NameOk x ∧ ∀ y, 0 < i → zs[i - 1]? = some y → Op.bytesLess y.toList x.toList = true
theorem BoolAns.yes {p : Prop} {w w' : World} {e : Ending} (h : BoolAns p w e w') (hp : p) : e = .returned (.bool true) ∧ w' = w := by
  obtain ⟨r, rfl, hr, rfl⟩ := h
  exact ⟨by rw [hr.2 hp], rfl⟩
theorem BoolAns.no {p : Prop} {w w' : World} {e : Ending} (h : BoolAns p w e w') (hp : ¬ p) : e = .returned (.bool false) ∧ w' = w := by
  obtain ⟨r, rfl, hr, rfl⟩ := h
  cases r
  · exact ⟨rfl, rfl⟩
  · exact absurd (hr.1 rfl) hp

theorem hidK {p : Prop} (h : p) : Hid p := h
theorem cellK {w : World} {b : Nat} {vs : Array Value} {T : TypeId} {f : Nat × Nat} (h : w.heap[b]? = some (.cells vs T f)) (i : Nat) : w.cell? ⟨b, i, none⟩ = vs[i]? := by simp [World.cell?, h]
theorem below1 (w : World) (o : Obj) : Below w.heap.size w (w.alloc o) := (Below.refl _ _).alloc (Nat.le_refl _) o

theorem lt_of_some {w : World} {b : Nat} {o : Obj} (h : w.heap[b]? = some o) : b < w.heap.size := by
  rcases Nat.lt_or_ge b w.heap.size with h1 | h1
  · exact h1
  · rw [Array.getElem?_eq_none h1] at h; cases h
theorem upK {w w' : World} {k : Nat} {o : Obj} (h : Hid (w.heap[k]? = some o)) (hb : Below w.heap.size w w') : Hid (w'.heap[k]? = some o) := (hb.block _ (lt_of_some h)).trans h
theorem upB {w w1 w2 : World} (h : Hid (Below w.heap.size w w1)) (hb : Below w1.heap.size w1 w2) : Hid (Below w.heap.size w w2) := Below.trans h (hb.mono (Below.size h))
theorem heap2_1 (w : World) (o p : Obj) : ((w.alloc o).alloc p).heap[w.heap.size + 1]? = some p := by
  have h : w.heap.size + 1 = (w.alloc o).heap.size := by simp
  rw [h]
  exact Array.getElem?_push_size
theorem below2 (w : World) (o p : Obj) : Below w.heap.size w ((w.alloc o).alloc p) := (below1 w o).alloc (by simp) p

def Wd (W : World) : Type := { x : World // Below W.heap.size W x }
def Wd.w {W : World} (i : Wd W) : World := i.1
theorem Wd.b {W : World} (i : Wd W) : Below W.heap.size W i.w := i.2
theorem Wd.ne (W : World) : Nonempty (Wd W) := ⟨⟨W, Below.refl _ _⟩⟩
theorem Wd.cell {W : World} (i : Wd W) {b o : Nat} (h : b < W.heap.size) : i.w.cell? ⟨b, o, none⟩ = W.cell? ⟨b, o, none⟩ := cell_below i.b h
theorem Wd.heap {W : World} (i : Wd W) {b : Nat} (h : b < W.heap.size) : i.w.heap[b]? = W.heap[b]? := i.b.block b h
theorem Wd.slot {W : World} (i : Wd W) {b o : Nat} {vs : Array Value} {T : TypeId} {f : Nat × Nat} {v : Value} (h : W.heap[b]? = some (.cells vs T f)) (hv : vs[o]? = some v) : i.w.cell? ⟨b, o, none⟩ = some v := by
  have hb : b < W.heap.size := by
    rcases Nat.lt_or_ge b W.heap.size with h1 | h1
    · exact h1
    · rw [Array.getElem?_eq_none h1] at h; cases h
  rw [i.cell hb, cellK h, hv]

theorem wp_region_wide {P : Program} {id : Nat} {Q : Exit → Act → World → Prop} {a : Act} {w : World} {l : List Oper} (hm : P.follows .mixedOrders = true) (hB : Region.lexB .any l.toArray = true)
    (h : wpQuiet P l.toArray (fun w' => ∃ i : Wd w, w' = i.w) (fun a' => ∀ w', (∃ i : Wd w, w' = i.w) → Q .normal a' w') l a) : (Code.region id l.toArray true).wp P Q a w :=
  wp_region_quiet (C := fun w' => ∃ i : Wd w, w' = i.w) hm hB ⟨⟨_, (Below.refl w.heap.size w).drew⟩, rfl⟩ (by simpa using h)

theorem Calls.wide {P : Program} {f : FuncId} {args : Array Value} {W : World} {i : Wd W} {v : Value} (h : Calls P f args i.w fun e w' => e = .returned v ∧ Below i.w.heap.size i.w w') : Calls P f args i.w fun e w'' => e = .returned v ∧ ∃ j : Wd W, w'' = j.w :=
  h.mono fun _ w' ⟨he, hb⟩ => ⟨he, ⟨w', i.b.trans (hb.mono i.b.size)⟩, rfl⟩
namespace Mk

def DecAt (u n : Nat) (r : ByteArray) : Prop := n ≤ u ∧ (if n = 0 then [] else Lib.decDigits n) ++ r.data.toList = Lib.decDigits u

def dgB (n : Nat) : UInt8 := UInt8.ofNat (48 + n % 10)
theorem DecAt.len {u n : Nat} {r : ByteArray} (h : DecAt u n r) (h1 : u ≤ 9223372036854775807) : r.size ≤ 19 := by
  have h2 := congrArg List.length h.2
  have h3 := dec_len (u := u) (k := 18) (by omega)
  rw [List.length_append] at h2
  rw [Lib.size_eq]; omega
theorem DecAt.step {u n : Nat} {r : ByteArray} (h : DecAt u n r) (hn : ¬ n = 0) : DecAt u (n / 10) (⟨#[dgB n]⟩ ++ r) := by
  obtain ⟨h1, h2⟩ := h
  refine ⟨by omega, ?_⟩
  rw [if_neg hn] at h2
  rw [← h2, ← dec_step n (by omega)]
  simp [dgB]

theorem conv_one (w : World) (n : Nat) : (convert 36 9 (.slice (some ⟨w.heap.size, 0, none⟩) 1 1)).run Tryz.prog (w.alloc (.cells #[.int .u8 (48 + (n : Int) % 10)] 5)) = .ok (.string ⟨#[dgB n]⟩) (w.alloc (.cells #[.int .u8 (48 + (n : Int) % 10)] 5)) :=
  run_convert_bytes_back (P := Tryz.prog) _ 36 9 5 ⟨w.heap.size, 0, none⟩ 1 [UInt8.ofNat (48 + n % 10)] Tryz.underlying36 Tryz.underlying5 Tryz.underlying9 (fun j hj => by
    simp at hj
    subst hj
    simp [Addr.add]
    have := dig_toNat (k := n % 10) (by omega)
    omega)

def markT (u : Nat) : ByteArray := ⟨#[109]⟩ ++ ⟨(Lib.decDigits u).toArray⟩

set_option maxRecDepth 100000 in
set_option maxHeartbeats 1600000 in
theorem markText_any (u : Nat) (w : World) (h0 : 0 < u) (h1 : u ≤ 1152921504606846976) :
    Calls Tryz.prog 10 #[.int .i64 u] w fun e w' => e = .returned (.string (markT u)) ∧ Below w.heap.size w w' := by
  have hn0 : decide ((u : Int) ≤ 0) = false := by simp; omega
  go_enter Tryz.func10, Tryz.ntmps10
  go_wp2
  go_loopw [0, 3] (fun vn vr wr => ∃ (n : Nat) (r : ByteArray), vn = .int .i64 n ∧ vr = .string r ∧ DecAt u n r ∧ Below w.heap.size w wr) (fun vn _ _ => (intOf vn).toNat)
  case atStart => exact ⟨u, _, rfl, rfl, ⟨Nat.le_refl _, by rw [if_neg (by omega)]; simp⟩, Below.refl _ _⟩
  case round =>
    obtain ⟨n, r, rfl, rfl, hd, hb⟩ := hrel
    have hle : n ≤ 1152921504606846976 := Nat.le_trans hd.1 h1
    have hr := hd.len (by omega)
    have hr2 : (⟨#[dgB n]⟩ : ByteArray).size + r.size ≤ 9223372036854775807 := by rw [show (⟨#[dgB n]⟩ : ByteArray).size = 1 from rfl]; omega
    have HD : Hid (DecAt u n r) := hd
    clear hd h1 hn0
    by_cases hn : n = 0
    · have hn1 : ¬ (0 : Int) < n := by omega
      have hr3 : (⟨#[109]⟩ : ByteArray).size + r.size ≤ 9223372036854775807 := by rw [show (⟨#[109]⟩ : ByteArray).size = 1 from rfl]; omega
      go_wp2
      go_ret
      refine ⟨?_, hb⟩
      have := HD.out.2
      rw [if_pos hn] at this
      unfold markT
      rw [← this]; rfl
    · have hn1 : (0 : Int) < n := by omega
      have hcv := conv_one wr n
      have hmd : (0 : Int) ≤ (n : Int) % 10 := by omega
      have hmd2 : (n : Int) % 10 < 10 := by omega
      go_wp2
      go_roundw
      case rel =>
        refine ⟨n / 10, _, by go_num, rfl, HD.out.step hn, ?_⟩
        exact hb.alloc (by have := hb.size; omega) _
      case measure => simp [intOf]; omega

structure Kept (g : Nat) (w w' : World) : Prop where
  os : w'.os = w.os
  tape : w'.tape = w.tape
  output : w'.output = w.output
  size : w.heap.size ≤ w'.heap.size
  block : ∀ k, k < w.heap.size → ¬ k = g → w'.heap[k]? = w.heap[k]?
theorem Kept.of_below {g : Nat} {w w' : World} (h : Below w.heap.size w w') : Kept g w w' := ⟨h.os, h.tape, h.output, h.size, fun k hk _ => h.block k hk⟩
theorem Kept.trans {g : Nat} {a b c : World} (h : Kept g a b) (k : Kept g b c) : Kept g a c := ⟨k.os.trans h.os, k.tape.trans h.tape, k.output.trans h.output, Nat.le_trans h.size k.size, fun i hi hn => (k.block i (Nat.lt_of_lt_of_le hi h.size) hn).trans (h.block i hi hn)⟩
theorem Kept.set {g i : Nat} {w w' : World} {v : Value} (h : Kept g w w') : Kept g w (w'.setCell ⟨g, i, none⟩ v) :=
  ⟨h.os, h.tape, h.output, by simpa [World.setCell] using h.size, fun k hk hn => (Below.heap_setCell _ _ _ _ hn).trans (h.block k hk hn)⟩
theorem Kept.below {g B : Nat} {w w1 w2 : World} (h : Kept g w1 w2) (hb : Below B w w1) (hB : B ≤ w1.heap.size) (hg : B ≤ g) : Below B w w2 :=
  ⟨h.os.trans hb.os, h.tape.trans hb.tape, h.output.trans hb.output, Nat.le_trans hb.size h.size, fun k hk => (h.block k (Nat.lt_of_lt_of_le hk hB) (by omega)).trans (hb.block k hk)⟩
def MarkAt (k n : Nat) (cur : Array Value) : Prop := ∀ j, j < n → cur[j]? = some (.string (markT (k + j)))
def MarkAns (g k len n : Nat) (w : World) (e : Ending) (w' : World) : Prop :=
  e = .returned (.int .i64 ((k + len : Nat) : Int)) ∧ Kept g w w' ∧ ∃ cur, w'.heap[g]? = some (.cells cur 9 (0, 0)) ∧ MarkAt k len cur ∧ cur.size = n

theorem markI (k i : Nat) (h0 : 0 < k) (h1 : k + i ≤ 1152921504606846976) (w : World) : Calls Tryz.prog 10 #[.int .i64 ((k : Int) + (i : Int))] w fun e w' => e = .returned (.string (markT (k + i))) ∧ Below w.heap.size w w' := by
  have h := markText_any (k + i) w (by omega) h1
  rw [Int.natCast_add] at h
  exact h

set_option maxHeartbeats 3200000 in
theorem markS_any (g len cap k : Nat) (cur : Array Value) (w : World) (hg : w.heap[g]? = some (.cells cur 9 (0, 0))) (hl : len ≤ cur.size) (hk : 0 < k) (hk2 : k + len ≤ 1152921504606846976) :
    Calls Tryz.prog 7 #[.slice (some ⟨g, 0, none⟩) len cap, .int .i64 k] w (MarkAns g k len cur.size w) := by
  have HG := hidK hg
  clear hg
  go_enter Tryz.func7, Tryz.ntmps7
  go_wp2
  go_loopw [1, 5] (fun vk vi wr => ∃ (i : Nat) (cu : Array Value), i ≤ len ∧ vk = .int .i64 ((k + i : Nat) : Int) ∧ vi = .int .i64 i ∧ cu.size = cur.size ∧ Hid (wr.heap[g]? = some (.cells cu 9 (0, 0))) ∧ Hid (MarkAt k i cu) ∧ Hid (Kept g w wr)) (fun _ vi _ => len - (intOf vi).toNat)
  case atStart => exact ⟨0, cur, by omega, by simp, rfl, rfl, HG, fun j hj => by omega, Kept.of_below (Below.refl _ _)⟩
  case round =>
    obtain ⟨i, cu, hi, rfl, rfl, hcs, HC, HM, HK⟩ := hrel
    by_cases hlt : i < len
    · have HT := hidK (markI k i (by omega) (by omega))
      go_wp2_with fail
      refine (HT.out _).mono ?_
      rintro e w2 ⟨rfl, hb2⟩
      have g2 := (hb2.block g (lt_of_some HC.out)).trans HC.out
      have hcl : w2.cell? ⟨g, i, none⟩ = some (cu[i]'(by omega)) := by rw [cellK g2]; exact Array.getElem?_eq_getElem _
      have hfr : w2.frozen? ⟨g, i, none⟩ = false := by simp [World.frozen?, g2]
      have HG2 := hidK g2
      have HK2 := hidK (HK.out.trans (Kept.of_below (g := g) hb2))
      clear hb2 g2
      go_wp2_with fail
      refine ⟨⟨i + 1, cu.setIfInBounds i (.string (markT (k + i))), by omega, by go_num, by go_num, by simp [hcs], ?_, ?_, HK2.out.set⟩, by simp [intOf]; omega⟩
      · exact block_set HG2.out _
      · intro j hj
        rw [Array.getElem?_setIfInBounds]
        by_cases e : i = j
        · subst e
          rw [if_pos rfl, if_pos (by omega)]
        · rw [if_neg e]
          exact HM.out j (by omega)
    · obtain rfl : i = len := by omega
      go_wp2
      go_ret
      exact ⟨rfl, HK.out, cu, HC.out, HM.out, hcs⟩

set_option maxHeartbeats 3200000 in
theorem heldS_any (a : Option Addr) (len cap k : Nat) (zs : List ByteArray) (w : World) (hr : TxRow w a len cap zs) (hk : 0 < k) (hk2 : k + len ≤ 1152921504606846976) (hz : ∀ (j : Nat) x, zs[j]? = some x → x = markT (k + j)) :
    Calls Tryz.prog 8 #[.slice a len cap, .int .i64 k] w fun e w' => e = .returned (.int .i64 ((k + len : Nat) : Int)) ∧ Below w.heap.size w w' := by
  have HR := hidK hr
  have HZ := hidK hz
  clear hr hz
  go_enter Tryz.func8, Tryz.ntmps8
  go_wp2
  go_loopw [1, 5] (fun vk vi wr => ∃ (i : Nat), i ≤ len ∧ vk = .int .i64 ((k + i : Nat) : Int) ∧ vi = .int .i64 i ∧ Hid (Below w.heap.size w wr)) (fun _ vi _ => len - (intOf vi).toNat)
  case atStart => exact ⟨0, by omega, by simp, rfl, Below.refl _ _⟩
  case round =>
    obtain ⟨i, hi, rfl, rfl, HB⟩ := hrel
    by_cases hlt : i < len
    · obtain ⟨b, o, x, rfl, hb, hx, hc, -⟩ := (HR.out.below HB.out).at hlt
      obtain rfl := HZ.out i x hx
      have HT := hidK (markI k i (by omega) (by omega))
      have hb' := hidK hb
      go_wp2_with fail
      have hne := Wd.ne wr
      have cc : ∀ q : Wd wr, q.w.cell? ⟨b, o + i, none⟩ = some (.string (markT (k + i))) := fun q => (q.cell hb'.out).trans hc
      refine wp_region_wide (by kernel_rfl) (by kernel_rfl) ?_
      repeat (go_big_quiet_step (first | (go_at_call 10; exact Calls.wide (HT.out _)) | fail))
      refine wpQuiet_nil ?_
      rintro _ ⟨q, rfl⟩
      have hqs : ((markT (k + i)).toList == (markT (k + i)).toList) = true := by simp
      go_wp2_with fail
      exact ⟨⟨i + 1, by omega, by go_num, by go_num, HB.out.trans (q.b.mono HB.out.size)⟩, by simp [intOf]; omega⟩
    · obtain rfl : i = len := by omega
      go_wp2
      go_ret
      exact ⟨rfl, HB.out⟩

set_option maxHeartbeats 1600000 in
theorem markZn_any (a : Option Addr) (cap : Nat) (u : Int) (w : World) :
    Calls Tryz.prog 7 #[.slice a 0 cap, .int .i64 u] w fun e w' => e = .returned (.int .i64 u) ∧ Below w.heap.size w w' := by
  go_enter Tryz.func7, Tryz.ntmps7
  go_wp2
  go_loopw [1, 5] (fun vk vi wr => vk = .int .i64 u ∧ vi = .int .i64 0 ∧ wr = w) (fun _ vi _ => (intOf vi).toNat)
  case atStart => exact ⟨rfl, rfl, rfl⟩
  case round =>
    obtain ⟨rfl, rfl, rfl⟩ := hrel
    go_wp2
    go_ret
    exact ⟨rfl, Below.refl _ _⟩

theorem markT_size {u : Nat} (h : u ≤ 1152921504606846976) : (markT u).size ≤ 9223372036854775807 := by
  have h3 := dec_len (u := u) (k := 18) (by omega)
  unfold markT
  rw [ByteArray.size_append]
  have : (⟨(Lib.decDigits u).toArray⟩ : ByteArray).size = (Lib.decDigits u).length := by simp [ByteArray.size]
  rw [this, show (⟨#[109]⟩ : ByteArray).size = 1 from rfl]
  omega
end Mk
end Go.Proofs.YtjjknodefdjkdaaGreatDoorR

namespace Go.Proofs.YtjjknodefdjkdaaGreatDoorR
open Go.RowKit
namespace Rc
open Mk

inductive Fv where
  | s (b : ByteArray)
  | i (n : Int)
  | b (x : Bool)
  | l (zs : List ByteArray)
def Fv.val : Fv → Option Value
  | .s t => some (.string t)
  | .i n => some (.int .i64 n)
  | .b x => some (.bool x)
  | .l _ => none
def Fv.fit : Fv → Prop
  | .s t => t.size ≤ 9223372036854775807
  | _ => True
def Fv.Is (w : World) : Fv → Value → Prop
  | .s t, v => v = .string t ∧ t.size ≤ 9223372036854775807
  | .i n, v => v = .int .i64 n
  | .b x, v => v = .bool x
  | .l zs, v => ∃ a len cap, v = .slice a len cap ∧ TxRow w a len cap zs
theorem Fv.Is.below {w w' : World} {f : Fv} {v : Value} (h : f.Is w v) (hb : Below w.heap.size w w') : f.Is w' v := by
  cases f with
  | l zs => obtain ⟨a, len, cap, h1, h2⟩ := h; exact ⟨a, len, cap, h1, h2.below hb⟩
  | _ => exact h
def RAt (w : World) (b o : Nat) (r : List Fv) : Prop := ∀ (i : Nat) f, r[i]? = some f → ∃ v, w.cell? ⟨b, o + i, none⟩ = some v ∧ f.Is w v
theorem RAt.below {w w' : World} {b o : Nat} {r : List Fv} (h : RAt w b o r) (hl : b < w.heap.size) (hb : Below w.heap.size w w') : RAt w' b o r := by
  intro i f hi
  obtain ⟨v, h1, h2⟩ := h i f hi
  exact ⟨v, (cell_below hb hl).trans h1, h2.below hb⟩
def RRow (w : World) (a : Option Addr) (len cap m : Nat) (rs : List (List Fv)) : Prop :=
  rs.length = len ∧ len ≤ cap ∧ cap ≤ 9223372036854775807 ∧ (rs = [] ∨ ∃ b o, a = some ⟨b, o, none⟩ ∧ b < w.heap.size ∧ ∀ (j : Nat) r, rs[j]? = some r → RAt w b (o + j * m) r)
theorem RRow.below {w w' : World} {a : Option Addr} {len cap m : Nat} {rs : List (List Fv)} (h : RRow w a len cap m rs) (hb : Below w.heap.size w w') : RRow w' a len cap m rs := by
  obtain ⟨h1, h2, h3, h5⟩ := h
  refine ⟨h1, h2, h3, ?_⟩
  rcases h5 with h5 | ⟨b, o, rfl, hlt, hc⟩
  · exact Or.inl h5
  · exact Or.inr ⟨b, o, rfl, Nat.lt_of_lt_of_le hlt hb.size, fun j v hv => (hc j v hv).below hlt hb⟩
theorem RRow.at {w : World} {a : Option Addr} {len cap m : Nat} {rs : List (List Fv)} (h : RRow w a len cap m rs) {j : Nat} (hj : j < len) :
    ∃ b o r, a = some ⟨b, o, none⟩ ∧ b < w.heap.size ∧ rs[j]? = some r ∧ RAt w b (o + j * m) r := by
  obtain ⟨h1, h2, h3, h5⟩ := h
  have hx : rs[j]? = some (rs[j]'(by omega)) := List.getElem?_eq_getElem _
  rcases h5 with h5 | ⟨b, o, rfl, hlt, hc⟩
  · subst h5; simp at h1; omega
  · exact ⟨b, o, _, rfl, hlt, hx, hc j _ hx⟩
theorem RRow.nil {w : World} (a : Option Addr) (cap m : Nat) (h : cap ≤ 9223372036854775807) : RRow w a 0 cap m [] := ⟨rfl, Nat.zero_le _, h, .inl rfl⟩

structure KeptS (S : Nat → Prop) (w w' : World) : Prop where
  os : w'.os = w.os
  tape : w'.tape = w.tape
  output : w'.output = w.output
  size : w.heap.size ≤ w'.heap.size
  block : ∀ k, k < w.heap.size → ¬ S k → w'.heap[k]? = w.heap[k]?
theorem KeptS.refl (S : Nat → Prop) (w : World) : KeptS S w w := ⟨rfl, rfl, rfl, Nat.le_refl _, fun _ _ _ => rfl⟩
theorem KeptS.trans {S : Nat → Prop} {a b c : World} (h : KeptS S a b) (k : KeptS S b c) : KeptS S a c := ⟨k.os.trans h.os, k.tape.trans h.tape, k.output.trans h.output, Nat.le_trans h.size k.size, fun i hi hn => (k.block i (Nat.lt_of_lt_of_le hi h.size) hn).trans (h.block i hi hn)⟩
theorem KeptS.of_below {S : Nat → Prop} {w w' : World} (k : Below w.heap.size w w') : KeptS S w w' := ⟨k.os, k.tape, k.output, k.size, fun i hi _ => k.block i hi⟩
theorem KeptS.below {S : Nat → Prop} {a b c : World} (h : KeptS S a b) (k : Below b.heap.size b c) : KeptS S a c := h.trans (KeptS.of_below k)
theorem KeptS.mono {S S' : Nat → Prop} {w w' : World} (h : KeptS S w w') (hs : ∀ k, S k → S' k) : KeptS S' w w' := ⟨h.os, h.tape, h.output, h.size, fun k hk hn => h.block k hk (fun x => hn (hs k x))⟩
theorem KeptS.set {S : Nat → Prop} {g i : Nat} {w w' : World} {v : Value} (h : KeptS S w w') (h1 : S g) : KeptS S w (w'.setCell ⟨g, i, none⟩ v) :=
  ⟨h.os, h.tape, h.output, by simpa [World.setCell] using h.size, fun k hk hn => (Below.heap_setCell _ _ _ _ (show k ≠ g from fun e => hn (e ▸ h1))).trans (h.block k hk hn)⟩
theorem KeptS.kept {S : Nat → Prop} {g : Nat} {w w1 w2 : World} (h : KeptS S w w1) (h1 : S g) (k : Kept g w1 w2) : KeptS S w w2 :=
  h.trans ⟨k.os, k.tape, k.output, k.size, fun i hi hn => k.block i hi (fun e => hn (e ▸ h1))⟩
theorem KeptS.low {S : Nat → Prop} {X : Nat} {w w' : World} (h : KeptS S w w') (hX : X ≤ w.heap.size) (hS : ∀ k, S k → X ≤ k) : Below X w w' := ⟨h.os, h.tape, h.output, h.size, fun k hk => h.block k (Nat.lt_of_lt_of_le hk hX) (fun s => by have := hS k s; omega)⟩

def LOwn (w : World) (h : Nat) (S : Nat → Prop) (g : Nat) (zs : List ByteArray) (v : Value) : Prop :=
  ∃ a len cap, v = .slice a len cap ∧ zs.length = len ∧ len ≤ cap ∧ cap ≤ 9223372036854775807 ∧ (∀ (j : Nat) x, zs[j]? = some x → x.size ≤ 9223372036854775807) ∧
    (zs = [] ∨ (a = some ⟨h, 0, none⟩ ∧ S h ∧ ¬ h = g ∧ ∃ cu, w.heap[h]? = some (.cells cu 9 (0, 0)) ∧ ∀ (j : Nat) x, zs[j]? = some x → cu[j]? = some (.string x)))
theorem LOwn.row {w : World} {h : Nat} {S : Nat → Prop} {g : Nat} {zs : List ByteArray} {a : Option Addr} {len cap : Nat} (k : LOwn w h S g zs (.slice a len cap)) : TxRow w a len cap zs := by
  obtain ⟨a', l', c', h1, h2, h3, h4, h5, h6⟩ := k
  cases h1
  refine ⟨h2, h3, h4, h5, h6.imp id ?_⟩
  rintro ⟨q1, q2, q3, cu, q4, q5⟩
  exact ⟨h, 0, q1, lt_of_some q4, fun j x hx => by rw [Nat.zero_add, cellK q4]; exact q5 j x hx⟩
theorem LOwn.keep {w w' : World} {h : Nat} {S S' : Nat → Prop} {g : Nat} {zs : List ByteArray} {v : Value} (k : LOwn w h S g zs v) (hk : zs ≠ [] → S h → w'.heap[h]? = w.heap[h]?) (hs : ∀ k, S k → S' k) : LOwn w' h S' g zs v := by
  obtain ⟨a', l', c', h1, h2, h3, h4, h5, h6⟩ := k
  refine ⟨a', l', c', h1, h2, h3, h4, h5, ?_⟩
  by_cases hz : zs = []
  · exact .inl hz
  · rcases h6 with h6 | ⟨q1, q2, q3, cu, q4, q5⟩
    · exact .inl h6
    · exact .inr ⟨q1, hs _ q2, q3, cu, (hk hz q2).trans q4, q5⟩
def Fv.Own (w : World) (h : Nat) (S : Nat → Prop) (g : Nat) : Fv → Value → Prop
  | .s t, v => v = .string t ∧ t.size ≤ 9223372036854775807
  | .i n, v => v = .int .i64 n
  | .b x, v => v = .bool x
  | .l zs, v => LOwn w h S g zs v
theorem Fv.Own.is {w : World} {h : Nat} {S : Nat → Prop} {g : Nat} {f : Fv} {v : Value} (k : f.Own w h S g v) : f.Is w v := by
  cases f with
  | l zs =>
    obtain ⟨a, len, cap, h1, h2⟩ := k
    exact ⟨a, len, cap, h1, LOwn.row (h := h) (S := S) (g := g) (h1 ▸ ⟨a, len, cap, h1, h2⟩)⟩
  | _ => exact k
theorem Fv.Own.keep {w w' : World} {h : Nat} {S S' : Nat → Prop} {g : Nat} {f : Fv} {v : Value} (k : f.Own w h S g v) (hk : (∃ zs, f = .l zs ∧ zs ≠ []) → S h → w'.heap[h]? = w.heap[h]?) (hs : ∀ k, S k → S' k) : f.Own w' h S' g v := by
  cases f with
  | l zs => exact LOwn.keep k (fun hz => hk ⟨zs, rfl, hz⟩) hs
  | _ => exact k
theorem Fv.Own.of_val {w : World} {h : Nat} {S : Nat → Prop} {g : Nat} {f : Fv} {v : Value} (hv : f.val = some v) (hf : f.fit) : f.Own w h S g v := by
  cases f with
  | s t => cases hv; exact ⟨rfl, hf⟩
  | i n => cases hv; exact rfl
  | b x => cases hv; exact rfl
  | l zs => cases hv

structure ROwnAt (w : World) (g m : Nat) (T : TypeId) (rs : List (List Fv)) (S : Nat → Prop) (cur : Array Value) (H : Nat → Nat → Nat) : Prop where
  blk : w.heap[g]? = some (.cells cur T (0, 0))
  inS : S g
  len : ∀ (j : Nat) r, rs[j]? = some r → r.length = m
  cell : ∀ (j : Nat) r, rs[j]? = some r → ∀ (i : Nat) f, r[i]? = some f → ∃ v, cur[j * m + i]? = some v ∧ f.Own w (H j i) S g v
  inj : ∀ (j : Nat) r (i : Nat) zs (j' : Nat) r' (i' : Nat) zs', rs[j]? = some r → r[i]? = some (.l zs) → zs ≠ [] → rs[j']? = some r' → r'[i']? = some (.l zs') → zs' ≠ [] → H j i = H j' i' → j = j' ∧ i = i'
def ROwn (w : World) (a : Option Addr) (len cap m : Nat) (T : TypeId) (rs : List (List Fv)) (S : Nat → Prop) : Prop :=
  rs.length = len ∧ len ≤ cap ∧ cap ≤ 9223372036854775807 ∧ (rs = [] ∨ ∃ g cur H, a = some ⟨g, 0, none⟩ ∧ ROwnAt w g m T rs S cur H)
theorem ROwnAt.keep {w w' : World} {g m : Nat} {T : TypeId} {rs : List (List Fv)} {S S' : Nat → Prop} {cur : Array Value} {H : Nat → Nat → Nat} (h : ROwnAt w g m T rs S cur H) (hk : ∀ k, k < w.heap.size → S k → w'.heap[k]? = w.heap[k]?) (hs : ∀ k, k < w.heap.size → S k → S' k) : ROwnAt w' g m T rs S' cur H := by
  refine ⟨(hk g (lt_of_some h.blk) h.inS).trans h.blk, hs g (lt_of_some h.blk) h.inS, h.len, fun j r hj i f hi => ?_, h.inj⟩
  obtain ⟨v, h1, h2⟩ := h.cell j r hj i f hi
  refine ⟨v, h1, ?_⟩
  cases f with
  | l zs =>
    obtain ⟨a', l', c', h1, h2, h3, h4, h5, h6⟩ := h2
    refine ⟨a', l', c', h1, h2, h3, h4, h5, h6.imp id ?_⟩
    rintro ⟨q1, q2, q3, cu, q4, q5⟩
    exact ⟨q1, hs _ (lt_of_some q4) q2, q3, cu, (hk _ (lt_of_some q4) q2).trans q4, q5⟩
  | _ => exact h2
theorem ROwn.keep {w w' : World} {a : Option Addr} {len cap m : Nat} {T : TypeId} {rs : List (List Fv)} {S S' : Nat → Prop} (h : ROwn w a len cap m T rs S) (hk : ∀ k, k < w.heap.size → S k → w'.heap[k]? = w.heap[k]?) (hs : ∀ k, k < w.heap.size → S k → S' k) : ROwn w' a len cap m T rs S' := by
  obtain ⟨h1, h2, h3, h4⟩ := h
  refine ⟨h1, h2, h3, h4.imp id ?_⟩
  rintro ⟨g, cur, H, h5, h6⟩
  exact ⟨g, cur, H, h5, h6.keep hk hs⟩
theorem ROwn.below {w w' : World} {a : Option Addr} {len cap m : Nat} {T : TypeId} {rs : List (List Fv)} {S : Nat → Prop} (h : ROwn w a len cap m T rs S) (hb : Below w.heap.size w w') : ROwn w' a len cap m T rs S := h.keep (fun k hk _ => hb.block k hk) (fun _ _ s => s)
theorem ROwn.into {w : World} {a : Option Addr} {len cap m : Nat} {T : TypeId} {rs : List (List Fv)} {S S' : Nat → Prop} (h : ROwn w a len cap m T rs S) (hs : ∀ k, k < w.heap.size → S k → S' k) : ROwn w a len cap m T rs S' := h.keep (fun _ _ _ => rfl) hs
theorem ROwnAt.rat {w : World} {g m : Nat} {T : TypeId} {rs : List (List Fv)} {S : Nat → Prop} {cur : Array Value} {H : Nat → Nat → Nat} (h : ROwnAt w g m T rs S cur H) {j : Nat} {r : List Fv} (hj : rs[j]? = some r) : RAt w g (j * m) r := by
  intro i f hi
  obtain ⟨v, h1, h2⟩ := h.cell j r hj i f hi
  exact ⟨v, (cellK h.blk _).trans h1, h2.is⟩
theorem ROwn.row {w : World} {a : Option Addr} {len cap m : Nat} {T : TypeId} {rs : List (List Fv)} {S : Nat → Prop} (h : ROwn w a len cap m T rs S) : RRow w a len cap m rs := by
  obtain ⟨h1, h2, h3, h4⟩ := h
  refine ⟨h1, h2, h3, h4.imp id ?_⟩
  rintro ⟨g, cur, H, h5, h6⟩
  exact ⟨g, 0, h5, lt_of_some h6.blk, fun j r hj => by rw [Nat.zero_add]; exact h6.rat hj⟩
theorem ROwn.nil {w : World} (a : Option Addr) (cap m : Nat) (T : TypeId) (S : Nat → Prop) (h : cap ≤ 9223372036854775807) : ROwn w a 0 cap m T [] S := ⟨rfl, Nat.zero_le _, h, .inl rfl⟩

theorem idx_inj {m j i j' i' : Nat} (hi : i < m) (hi' : i' < m) (h : j * m + i = j' * m + i') : j = j' ∧ i = i' := by
  have hm : 0 < m := by omega
  have e1 : (j * m + i) / m = j := by rw [Nat.mul_comm, Nat.mul_add_div hm, Nat.div_eq_of_lt hi]; rfl
  have e2 : (j' * m + i') / m = j' := by rw [Nat.mul_comm, Nat.mul_add_div hm, Nat.div_eq_of_lt hi']; rfl
  have : j = j' := by rw [← e1, ← e2, h]
  subst this
  exact ⟨rfl, by omega⟩
theorem get_set {α : Type} {rs : List α} {j k : Nat} {r : α} (hj : j < rs.length) : (rs.set j r)[k]? = if j = k then some r else rs[k]? := by
  rw [List.getElem?_set]
  by_cases h : j = k
  · subst h; simp [hj]
  · simp [h]
def NoH (N : Nat → Prop) (rs : List (List Fv)) (H : Nat → Nat → Nat) : Prop := ∀ (j : Nat) r (i : Nat) zs, rs[j]? = some r → r[i]? = some (.l zs) → zs ≠ [] → ¬ N (H j i)
structure StJ (g m : Nat) (T : TypeId) (S N : Nat → Prop) (w wr : World) (rs : List (List Fv)) (j : Nat) (r : List Fv) : Prop where
  own : ∃ cur H, ROwnAt wr g m T (rs.set j r) S cur H ∧ NoH N (rs.set j r) H
  kept : KeptS S w wr
  lt : j < rs.length
section
variable {g m : Nat} {T : TypeId} {S N : Nat → Prop} {w wr w2 : World} {rs : List (List Fv)} {j : Nat} {r : List Fv}
theorem StJ.below (h : StJ g m T S N w wr rs j r) (hb : Below wr.heap.size wr w2) : StJ g m T S N w w2 rs j r := by
  obtain ⟨⟨cur, H, h1, hN⟩, h2, h3⟩ := h
  exact ⟨⟨cur, H, h1.keep (fun k hk _ => hb.block k hk) (fun _ _ s => s), hN⟩, h2.below hb, h3⟩
theorem StJ.get (h : StJ g m T S N w wr rs j r) : (rs.set j r)[j]? = some r := by rw [get_set h.lt, if_pos rfl]
theorem StJ.cell (h : StJ g m T S N w wr rs j r) {i : Nat} {f : Fv} (hi : r[i]? = some f) : ∃ v, wr.cell? ⟨g, j * m + i, none⟩ = some v := by
  obtain ⟨⟨cur, H, h1, hN⟩, h2, h3⟩ := h
  obtain ⟨v, h4, h5⟩ := h1.cell j r (by rw [get_set h3, if_pos rfl]) i f hi
  exact ⟨v, (cellK h1.blk _).trans h4⟩
theorem StJ.slice (h : StJ g m T S N w wr rs j r) {i : Nat} {zs : List ByteArray} (hi : r[i]? = some (.l zs)) : ∃ a len cap, wr.cell? ⟨g, j * m + i, none⟩ = some (.slice a len cap) ∧ zs.length = len := by
  obtain ⟨⟨cur, H, h1, hN⟩, h2, h3⟩ := h
  obtain ⟨v, h4, a, len, cap, rfl, h5, -⟩ := h1.cell j r (by rw [get_set h3, if_pos rfl]) i _ hi
  exact ⟨a, len, cap, (cellK h1.blk _).trans h4, h5⟩
theorem set_len (hlt : j < rs.length) {f : Fv} {i : Nat} (hl : ∀ (j' : Nat) r', (rs.set j r)[j']? = some r' → r'.length = m) : ∀ (j' : Nat) r', (rs.set j (r.set i f))[j']? = some r' → r'.length = m := by
  intro j' r' hj'
  rw [get_set hlt] at hj'
  split at hj'
  · cases hj'; rw [List.length_set]; exact hl j r (by rw [get_set hlt, if_pos rfl])
  · exact hl j' r' (by rw [get_set hlt, if_neg (by assumption)]; exact hj')
theorem set_at (hlt : j < rs.length) {f : Fv} {i : Nat} (hil : i < r.length) {j' : Nat} {r' : List Fv} {i' : Nat} {f' : Fv} (hj' : (rs.set j (r.set i f))[j']? = some r') (hi' : r'[i']? = some f') :
    (j' = j ∧ i' = i ∧ f' = f) ∨ (¬ (j' = j ∧ i' = i) ∧ ∃ r0, (rs.set j r)[j']? = some r0 ∧ r0[i']? = some f') := by
  rw [get_set hlt] at hj' ⊢
  split at hj'
  · next e =>
    cases hj'
    rw [if_pos e]
    rw [List.getElem?_set] at hi'
    split at hi'
    · next e2 =>
      try rw [if_pos hil] at hi'
      exact .inl ⟨e.symm, e2.symm, (Option.some.inj hi').symm⟩
    · next e2 => exact .inr ⟨fun q => e2 q.2.symm, r, rfl, hi'⟩
  · next e =>
    rw [if_neg e]
    exact .inr ⟨fun q => e q.1.symm, r', hj', hi'⟩
theorem Fv.Own.set_cell {k : Nat} {v : Value} {u : Fv} {z : Value} {h : Nat} (hu : u.Own wr h S g z) : u.Own (wr.setCell ⟨g, k, none⟩ v) h S g z := by
  cases u with
  | l zs =>
    obtain ⟨a', l', c', k1, k2, k3, k4, k5, k6⟩ := hu
    refine ⟨a', l', c', k1, k2, k3, k4, k5, k6.imp id ?_⟩
    rintro ⟨q1, q2, q3, cu, q4, q5⟩
    exact ⟨q1, q2, q3, cu, (Below.heap_setCell _ _ _ _ q3).trans q4, q5⟩
  | _ => exact hu
theorem StJ.set (h : StJ g m T S N w wr rs j r) {i : Nat} {old : Fv} (hi : r[i]? = some old) (f : Fv) {v : Value} (hv : f.val = some v) (hf : f.fit) : StJ g m T S N w (wr.setCell ⟨g, j * m + i, none⟩ v) rs j (r.set i f) := by
  have hget := h.get
  obtain ⟨⟨cur, H, h1, hN⟩, h2, h3⟩ := h
  have hil : i < r.length := (List.getElem?_eq_some_iff.1 hi).1
  have hrm : r.length = m := h1.len j r hget
  obtain ⟨v0, hc0, -⟩ := h1.cell j r hget i _ hi
  have hin : j * m + i < cur.size := (Array.getElem?_eq_some_iff.1 hc0).1
  have hnl : ∀ zs, ¬ .l zs = f := fun zs e => by subst e; cases hv
  have back : ∀ (j' : Nat) r' (i' : Nat) zs', (rs.set j (r.set i f))[j']? = some r' → r'[i']? = some (.l zs') → ∃ r0, (rs.set j r)[j']? = some r0 ∧ r0[i']? = some (.l zs') := by
    intro j' r' i' zs' hj' hi'
    rcases set_at h3 hil hj' hi' with ⟨_, _, e⟩ | ⟨_, q⟩
    · exact absurd e (hnl _)
    · exact q
  refine ⟨⟨cur.setIfInBounds (j * m + i) v, H, ⟨block_set h1.blk v, h1.inS, set_len h3 h1.len, fun j' r' hj' i' f' hi' => ?_, fun j' r' i' zs' j2 r2 i2 zs2 hj' hi' hz' hj2 hi2 hz2 hH => ?_⟩, fun j' r' i' zs' hj' hi' hz' => ?_⟩, h2.set h1.inS, h3⟩
  · rcases set_at h3 hil hj' hi' with ⟨rfl, rfl, rfl⟩ | ⟨hne, r0, q1, q2⟩
    · exact ⟨v, by rw [Array.getElem?_setIfInBounds_self_of_lt hin], Fv.Own.of_val hv hf⟩
    · obtain ⟨v', k1, k2⟩ := h1.cell j' r0 q1 i' f' q2
      have hil' : i' < r0.length := (List.getElem?_eq_some_iff.1 q2).1
      have hrm' := h1.len j' r0 q1
      refine ⟨v', ?_, k2.set_cell⟩
      rw [Array.getElem?_setIfInBounds_ne (fun e2 => hne (by have := idx_inj (by omega) (by omega) e2; exact ⟨this.1.symm, this.2.symm⟩))]
      exact k1
  · obtain ⟨r0, b1, b2⟩ := back j' r' i' zs' hj' hi'
    obtain ⟨r3, b3, b4⟩ := back j2 r2 i2 zs2 hj2 hi2
    exact h1.inj j' r0 i' zs' j2 r3 i2 zs2 b1 b2 hz' b3 b4 hz2 hH
  · obtain ⟨r0, b1, b2⟩ := back j' r' i' zs' hj' hi'
    exact hN j' r0 i' zs' b1 b2 hz'
end

def marksU (u : Int) (l : Nat) : List ByteArray := (List.range l).map fun j => markT (u.toNat + j)
theorem marksU_length (u : Int) (l : Nat) : (marksU u l).length = l := by simp [marksU]
theorem marksU_at {u : Int} {l j : Nat} {y : ByteArray} (h : (marksU u l)[j]? = some y) : y = markT (u.toNat + j) ∧ j < l := by
  have hj : j < l := by have := (List.getElem?_eq_some_iff.1 h).1; rw [marksU_length] at this; exact this
  unfold marksU at h
  rw [List.getElem?_map, List.getElem?_range hj] at h
  simp at h
  exact ⟨h.symm, hj⟩
theorem heldP (a : Option Addr) (len cap : Nat) (u : Int) (w : World) (hr : TxRow w a len cap (marksU u len)) (h0 : 0 < u) (h1 : u + len ≤ 1152921504606846976) :
    Calls Tryz.prog 8 #[.slice a len cap, .int .i64 u] w fun e w' => e = .returned (.int .i64 (u + len)) ∧ Below w.heap.size w w' := by
  obtain ⟨n, rfl⟩ : ∃ n : Nat, u = n := ⟨u.toNat, by omega⟩
  refine (heldS_any a len cap n _ w hr (by omega) (by omega) (fun j x hx => ?_)).mono ?_
  · have := (marksU_at hx).1
    simpa using this
  · rintro e w' ⟨rfl, hb⟩
    exact ⟨by simp, hb⟩

def TOwn (w : World) (a : Option Addr) (l c : Nat) (zs : List ByteArray) (S : Nat → Prop) : Prop :=
  TxRow w a l c zs ∧ (zs = [] ∨ ∃ g cur, a = some ⟨g, 0, none⟩ ∧ S g ∧ w.heap[g]? = some (.cells cur 9 (0, 0)))
theorem TOwn.keep {w w' : World} {a : Option Addr} {l c : Nat} {zs : List ByteArray} {S S' : Nat → Prop} (h : TOwn w a l c zs S) (hk : ∀ k, k < w.heap.size → S k → w'.heap[k]? = w.heap[k]?) (hs : ∀ k, k < w.heap.size → S k → S' k) : TOwn w' a l c zs S' := by
  obtain ⟨⟨h1, h2, h3, h4, h5⟩, h6⟩ := h
  rcases h6 with rfl | ⟨g, cur, rfl, hS, hg⟩
  · exact ⟨⟨h1, h2, h3, h4, .inl rfl⟩, .inl rfl⟩
  · have hg' := (hk g (lt_of_some hg) hS).trans hg
    refine ⟨⟨h1, h2, h3, h4, h5.imp id ?_⟩, .inr ⟨g, cur, rfl, hs g (lt_of_some hg) hS, hg'⟩⟩
    rintro ⟨b, o, e, hlt, hc⟩
    cases e
    exact ⟨g, 0, rfl, lt_of_some hg', fun j x hx => by have := hc j x hx; rw [cellK hg] at this; rw [cellK hg']; exact this⟩
theorem TOwn.below {w w' : World} {a : Option Addr} {l c : Nat} {zs : List ByteArray} {S : Nat → Prop} (h : TOwn w a l c zs S) (hb : Below w.heap.size w w') : TOwn w' a l c zs S := h.keep (fun k hk _ => hb.block k hk) (fun _ _ s => s)
theorem TOwn.into {w : World} {a : Option Addr} {l c : Nat} {zs : List ByteArray} {S S' : Nat → Prop} (h : TOwn w a l c zs S) (hs : ∀ k, k < w.heap.size → S k → S' k) : TOwn w a l c zs S' := h.keep (fun _ _ _ => rfl) hs
theorem TOwn.row {w : World} {a : Option Addr} {l c : Nat} {zs : List ByteArray} {S : Nat → Prop} (h : TOwn w a l c zs S) : TxRow w a l c zs := h.1
theorem markTexts {w : World} {a : Option Addr} {l c : Nat} {zs : List ByteArray} {S : Nat → Prop} (h : TOwn w a l c zs S) (hl : l ≤ 1048576) :
    Calls Tryz.prog 7 #[.slice a l c, .int .i64 1] w fun e w' => e = .returned (.int .i64 (1 + l)) ∧ TOwn w' a l c (marksU 1 l) S ∧ KeptS S w w' := by
  obtain ⟨⟨h1, h2, h3, h4, h5⟩, h6⟩ := h
  by_cases hz : zs = []
  · subst hz
    obtain rfl : l = 0 := by simpa using h1.symm
    refine (markZn_any a c 1 w).mono ?_
    rintro e w' ⟨rfl, hb⟩
    exact ⟨by simp, ⟨⟨rfl, h2, h3, fun j x hx => by simp [marksU] at hx, .inl rfl⟩, .inl rfl⟩, KeptS.of_below hb⟩
  rcases h6 with h6 | ⟨g, cur, rfl, hS, hg⟩
  · exact absurd h6 hz
  rcases h5 with h5 | ⟨b, o, e, hlt, hc⟩
  · exact absurd h5 hz
  cases e
  have hls : l ≤ cur.size := by
    rcases Nat.eq_zero_or_pos l with e | e
    · omega
    · have hx : zs[l - 1]? = some (zs[l - 1]'(by omega)) := List.getElem?_eq_getElem _
      have h7 := hc _ _ hx
      rw [cellK hg] at h7
      have := (Array.getElem?_eq_some_iff.1 h7).1
      omega
  refine (markS_any g l c 1 cur w hg hls (by omega) (by omega)).mono ?_
  rintro e w' ⟨rfl, hk, cu', hg', hm, hsz⟩
  refine ⟨by simp, ⟨⟨marksU_length _ _, h2, h3, fun t x hx => ?_, .inr ⟨g, 0, rfl, lt_of_some hg', fun t x hx => ?_⟩⟩, .inr ⟨g, cu', rfl, hS, hg'⟩⟩, (KeptS.refl S w).kept hS hk⟩
  · obtain ⟨rfl, ht⟩ := marksU_at hx
    exact markT_size (by simp; omega)
  · obtain ⟨rfl, ht⟩ := marksU_at hx
    rw [cellK hg', Nat.zero_add]
    have := hm t ht
    simpa using this
theorem heldTexts {w : World} {a : Option Addr} {l c : Nat} (hr : TxRow w a l c (marksU 1 l)) (hl : l ≤ 1048576) :
    Calls Tryz.prog 8 #[.slice a l c, .int .i64 1] w fun e w' => e = .returned (.int .i64 (1 + l)) ∧ Below w.heap.size w w' := heldP a l c 1 w hr (by omega) (by omega)
theorem eqTexts {w : World} {a a' : Option Addr} {l c l' c' : Nat} {zs : List ByteArray} (hr : TxRow w a l c zs) (hr' : TxRow w a' l' c' zs) :
    Calls Tryz.prog 6 #[.slice a l c, .slice a' l' c'] w fun e w' => e = .returned (.bool true) ∧ Below w.heap.size w w' := by
  refine (eqS_any a a' l l' c c' zs zs w hr hr').mono ?_
  intro e w' h
  obtain ⟨r, rfl, hr, hb⟩ := h
  exact ⟨by rw [hr.2 rfl], hb⟩

theorem TOwn.of_row {w : World} {base n : Nat} {v : Value} {zs : List ByteArray} (h : w.ownsRow base 9 1 v n (zs.map Value.string)) (hs : ∀ (j : Nat) x, zs[j]? = some x → x.size ≤ 9223372036854775807) : ∃ a c, v = .slice a n c ∧ TOwn w a n c zs (fun k => base ≤ k) := by
  obtain ⟨hl, h⟩ := h
  have hl' : zs.length = n := by simpa using hl
  rcases h with ⟨rfl, rfl⟩ | ⟨g, cap, cur, rfl, hbg, hg, hnc, hcm, hsz, htk⟩
  · obtain rfl : zs = [] := List.eq_nil_of_length_eq_zero hl'
    exact ⟨none, 0, rfl, ⟨rfl, Nat.le_refl _, by omega, fun j x hx => by simp at hx, .inl rfl⟩, .inl rfl⟩
  · refine ⟨some ⟨g, 0, none⟩, cap, rfl, ⟨hl', hnc, by unfold maxLen at hcm; omega, hs, .inr ⟨g, 0, rfl, lt_of_some hg, fun j x hx => ?_⟩⟩, .inr ⟨g, cur, rfl, hbg, hg⟩⟩
    rw [Nat.zero_add, cellK hg]
    have hj : j < n := by have := (List.getElem?_eq_some_iff.1 hx).1; omega
    have e1 : (cur.toList.take (n * 1))[j]? = some (.string x) := by rw [htk]; simp [hx]
    rw [List.getElem?_take, if_pos (by omega)] at e1
    simpa using e1

def deskW : List ByteArray := [⟨#[97, 108, 108]⟩, ⟨#[99, 114, 97, 115, 104]⟩, ⟨#[100, 105, 115, 107, 115]⟩, ⟨#[100, 111]⟩, ⟨#[112, 111, 100, 115]⟩]
theorem deskW_size (j : Nat) (x : ByteArray) (h : deskW[j]? = some x) : x.size ≤ 9223372036854775807 := by
  rcases j with _ | _ | _ | _ | _ | j <;> simp [deskW] at h <;> subst h <;> decide

theorem infoLw : (Tryz.prog.info? 31).map (·.size) = some 15 := by kernel_rfl

set_option maxRecDepth 100000 in
set_option maxHeartbeats 3200000 in
theorem ilw_any (w : World) : Calls Tryz.prog 9 #[] w fun e w' => (∃ f0 f1 f2 f3 f4 f5 f6 f7 f8 f9, e = .returned (.agg #[.string ⟨#[97, 108, 108]⟩, .func f0 #[] #[], .func f1 #[] #[], .string ⟨#[99, 114, 97, 115, 104]⟩, .func f2 #[] #[], .func f3 #[] #[], .string ⟨#[100, 105, 115, 107, 115]⟩, .func f4 #[] #[], .func f5 #[] #[], .string ⟨#[100, 111]⟩, .func f6 #[] #[], .func f7 #[] #[], .string ⟨#[112, 111, 100, 115]⟩, .func f8 #[] #[], .func f9 #[] #[]])) ∧ Below w.heap.size w w' := by
  go_enter Tryz.func9, Tryz.ntmps9
  go_wp2
  exact bodyPost_ret (v := .agg #[.string ⟨#[97, 108, 108]⟩, .func _ #[] #[], .func _ #[] #[], .string ⟨#[99, 114, 97, 115, 104]⟩, .func _ #[] #[], .func _ #[] #[], .string ⟨#[100, 105, 115, 107, 115]⟩, .func _ #[] #[], .func _ #[] #[], .string ⟨#[100, 111]⟩, .func _ #[] #[], .func _ #[] #[], .string ⟨#[112, 111, 100, 115]⟩, .func _ #[] #[], .func _ #[] #[]]) (results_cell_row rfl _ _ w.heap.size _ _ (0, 0) _ rfl (heap_alloc_new w _) Tryz.underlying31 rfl infoLw) rfl ⟨⟨_, _, _, _, _, _, _, _, _, _, rfl⟩, below1 _ _⟩

set_option maxRecDepth 100000 in
set_option maxHeartbeats 3200000 in
theorem swd_any (w : World) : Calls Tryz.prog 4 #[] w fun e w' => ∃ a c, e = .returned (.slice a 5 c) ∧ TxRow w' a 5 c deskW ∧ Below w.heap.size w w' := by
  go_enter Tryz.func4, Tryz.ntmps4
  go_wp2
  go_ret
  refine ⟨_, _, rfl, ⟨rfl, Nat.le_refl _, by omega, deskW_size, .inr ⟨w.heap.size, 0, rfl, by simp, fun j x hx => ?_⟩⟩, below1 _ _⟩
  rcases j with _ | _ | _ | _ | _ | j <;> simp [deskW] at hx <;> subst hx <;> exact cellK (w := w.alloc _) (heap_alloc_new w _) _

theorem lwIx0 (f0 f1 f2 f3 f4 f5 f6 f7 f8 f9 : Fn) (W : World) : (Instr.index 31 (.agg #[.string ⟨#[97, 108, 108]⟩, .func f0 #[] #[], .func f1 #[] #[], .string ⟨#[99, 114, 97, 115, 104]⟩, .func f2 #[] #[], .func f3 #[] #[], .string ⟨#[100, 105, 115, 107, 115]⟩, .func f4 #[] #[], .func f5 #[] #[], .string ⟨#[100, 111]⟩, .func f6 #[] #[], .func f7 #[] #[], .string ⟨#[112, 111, 100, 115]⟩, .func f8 #[] #[], .func f9 #[] #[]]) (.int .i64 0)).run Tryz.prog W = .ok (.agg #[.string ⟨#[97, 108, 108]⟩, .func f0 #[] #[], .func f1 #[] #[]]) W := by kernel_rfl
theorem lwIx1 (f0 f1 f2 f3 f4 f5 f6 f7 f8 f9 : Fn) (W : World) : (Instr.index 31 (.agg #[.string ⟨#[97, 108, 108]⟩, .func f0 #[] #[], .func f1 #[] #[], .string ⟨#[99, 114, 97, 115, 104]⟩, .func f2 #[] #[], .func f3 #[] #[], .string ⟨#[100, 105, 115, 107, 115]⟩, .func f4 #[] #[], .func f5 #[] #[], .string ⟨#[100, 111]⟩, .func f6 #[] #[], .func f7 #[] #[], .string ⟨#[112, 111, 100, 115]⟩, .func f8 #[] #[], .func f9 #[] #[]]) (.int .i64 1)).run Tryz.prog W = .ok (.agg #[.string ⟨#[99, 114, 97, 115, 104]⟩, .func f2 #[] #[], .func f3 #[] #[]]) W := by kernel_rfl
theorem lwIx2 (f0 f1 f2 f3 f4 f5 f6 f7 f8 f9 : Fn) (W : World) : (Instr.index 31 (.agg #[.string ⟨#[97, 108, 108]⟩, .func f0 #[] #[], .func f1 #[] #[], .string ⟨#[99, 114, 97, 115, 104]⟩, .func f2 #[] #[], .func f3 #[] #[], .string ⟨#[100, 105, 115, 107, 115]⟩, .func f4 #[] #[], .func f5 #[] #[], .string ⟨#[100, 111]⟩, .func f6 #[] #[], .func f7 #[] #[], .string ⟨#[112, 111, 100, 115]⟩, .func f8 #[] #[], .func f9 #[] #[]]) (.int .i64 2)).run Tryz.prog W = .ok (.agg #[.string ⟨#[100, 105, 115, 107, 115]⟩, .func f4 #[] #[], .func f5 #[] #[]]) W := by kernel_rfl
theorem lwIx3 (f0 f1 f2 f3 f4 f5 f6 f7 f8 f9 : Fn) (W : World) : (Instr.index 31 (.agg #[.string ⟨#[97, 108, 108]⟩, .func f0 #[] #[], .func f1 #[] #[], .string ⟨#[99, 114, 97, 115, 104]⟩, .func f2 #[] #[], .func f3 #[] #[], .string ⟨#[100, 105, 115, 107, 115]⟩, .func f4 #[] #[], .func f5 #[] #[], .string ⟨#[100, 111]⟩, .func f6 #[] #[], .func f7 #[] #[], .string ⟨#[112, 111, 100, 115]⟩, .func f8 #[] #[], .func f9 #[] #[]]) (.int .i64 3)).run Tryz.prog W = .ok (.agg #[.string ⟨#[100, 111]⟩, .func f6 #[] #[], .func f7 #[] #[]]) W := by kernel_rfl
theorem lwIx4 (f0 f1 f2 f3 f4 f5 f6 f7 f8 f9 : Fn) (W : World) : (Instr.index 31 (.agg #[.string ⟨#[97, 108, 108]⟩, .func f0 #[] #[], .func f1 #[] #[], .string ⟨#[99, 114, 97, 115, 104]⟩, .func f2 #[] #[], .func f3 #[] #[], .string ⟨#[100, 105, 115, 107, 115]⟩, .func f4 #[] #[], .func f5 #[] #[], .string ⟨#[100, 111]⟩, .func f6 #[] #[], .func f7 #[] #[], .string ⟨#[112, 111, 100, 115]⟩, .func f8 #[] #[], .func f9 #[] #[]]) (.int .i64 4)).run Tryz.prog W = .ok (.agg #[.string ⟨#[112, 111, 100, 115]⟩, .func f8 #[] #[], .func f9 #[] #[]]) W := by kernel_rfl
set_option maxRecDepth 100000 in
set_option maxHeartbeats 3200000 in
theorem iwd_any (w : World) : Calls Tryz.prog 5 #[] w fun e w' => ∃ a c, e = .returned (.slice a 5 c) ∧ TOwn w' a 5 c deskW (fun k => w.heap.size ≤ k) ∧ Below w.heap.size w w' := by
  have HB := hidK (Below.refl w.heap.size w)
  obtain ⟨i0, hi, hz0, hz1, hz2⟩ := info_parts infoStr
  have HI0 := hidK (And.intro hi (And.intro hz0 (And.intro hz1 hz2)))
  clear hi hz0 hz1 hz2
  go_enter Tryz.func5, Tryz.ntmps5
  go_wp2_with fail
  refine (ilw_any w).mono ?_
  rintro e w1 ⟨⟨f0, f1, f2, f3, f4, f5, f6, f7, f8, f9, rfl⟩, hb⟩
  replace HB := upB HB hb
  clear hb
  go_wp2
  go_loopw [1, 5] (fun vo vi wr => ∃ k : Nat, k ≤ 5 ∧ vi = .int .i64 k ∧ Hid (wr.ownsRow w.heap.size 9 1 vo k ((deskW.take k).map Value.string)) ∧ Hid (Below w.heap.size w wr)) (fun _ vi _ => 5 - (intOf vi).toNat)
  case atStart => exact ⟨0, by omega, rfl, World.ownsRow_nil _ _ _ _, HB⟩
  case round =>
    obtain ⟨k, hk, rfl, HO, HB⟩ := hrel
    have hBs := HB.out.size
    by_cases e0 : k = 0
    · subst e0
      have hix := lwIx0 f0 f1 f2 f3 f4 f5 f6 f7 f8 f9
      go_wp2_with (first | (at_builtin; refine wpList_append_own _ rfl _ _ 22 rfl w.heap.size 9 i0 (.string ⟨#[]⟩) 1 16 Tryz.underlying22 HI0.out.1 HI0.out.2.1 HI0.out.2.2.1 HI0.out.2.2.2 rfl (by decide) _ _ _ rfl ((HO.out.alloc _).alloc _) ⟨wr.heap.size + 1, 0, none⟩ 1 1 [.string ⟨#[97, 108, 108]⟩] rfl rfl ?c1 ?c2 ?c3 ?c4 ?c5 ?_))
      case c1 =>
        intro j u hu
        cases j with
        | zero =>
          simp only [List.getElem?_cons_zero, Option.some.injEq] at hu
          subst hu
          rw [Addr.add_lit]
          exact cellK (heap2_1 _ _ _) 0
        | succ j => simp at hu
      case c2 => intro u hu; rw [List.mem_singleton.1 hu]; rfl
      case c3 => unfold maxLen; omega
      case c4 => omega
      case c5 => simp; omega
      rintro v' w3 hown3 hgrow -
      have HB3 := hidK ((HB.out.trans ((below2 _ _ _ ).mono hBs)).grown hgrow (by simp; omega) (fun g hg => by have := (HO.out.lt g hg).1; omega))
      have HO3 := hidK hown3
      clear hown3 hgrow
      go_wp2
      exact ⟨⟨1, by omega, by go_num, HO3.out, HB3.out⟩, by simp [intOf]⟩
    by_cases e1 : k = 1
    · subst e1
      have hix := lwIx1 f0 f1 f2 f3 f4 f5 f6 f7 f8 f9
      go_wp2_with (first | (at_builtin; refine wpList_append_own _ rfl _ _ 22 rfl w.heap.size 9 i0 (.string ⟨#[]⟩) 1 16 Tryz.underlying22 HI0.out.1 HI0.out.2.1 HI0.out.2.2.1 HI0.out.2.2.2 rfl (by decide) _ _ _ rfl ((HO.out.alloc _).alloc _) ⟨wr.heap.size + 1, 0, none⟩ 1 1 [.string ⟨#[99, 114, 97, 115, 104]⟩] rfl rfl ?c1 ?c2 ?c3 ?c4 ?c5 ?_))
      case c1 =>
        intro j u hu
        cases j with
        | zero =>
          simp only [List.getElem?_cons_zero, Option.some.injEq] at hu
          subst hu
          rw [Addr.add_lit]
          exact cellK (heap2_1 _ _ _) 0
        | succ j => simp at hu
      case c2 => intro u hu; rw [List.mem_singleton.1 hu]; rfl
      case c3 => unfold maxLen; omega
      case c4 => omega
      case c5 => simp; omega
      rintro v' w3 hown3 hgrow -
      have HB3 := hidK ((HB.out.trans ((below2 _ _ _ ).mono hBs)).grown hgrow (by simp; omega) (fun g hg => by have := (HO.out.lt g hg).1; omega))
      have HO3 := hidK hown3
      clear hown3 hgrow
      go_wp2
      exact ⟨⟨2, by omega, by go_num, HO3.out, HB3.out⟩, by simp [intOf]⟩
    by_cases e2 : k = 2
    · subst e2
      have hix := lwIx2 f0 f1 f2 f3 f4 f5 f6 f7 f8 f9
      go_wp2_with (first | (at_builtin; refine wpList_append_own _ rfl _ _ 22 rfl w.heap.size 9 i0 (.string ⟨#[]⟩) 1 16 Tryz.underlying22 HI0.out.1 HI0.out.2.1 HI0.out.2.2.1 HI0.out.2.2.2 rfl (by decide) _ _ _ rfl ((HO.out.alloc _).alloc _) ⟨wr.heap.size + 1, 0, none⟩ 1 1 [.string ⟨#[100, 105, 115, 107, 115]⟩] rfl rfl ?c1 ?c2 ?c3 ?c4 ?c5 ?_))
      case c1 =>
        intro j u hu
        cases j with
        | zero =>
          simp only [List.getElem?_cons_zero, Option.some.injEq] at hu
          subst hu
          rw [Addr.add_lit]
          exact cellK (heap2_1 _ _ _) 0
        | succ j => simp at hu
      case c2 => intro u hu; rw [List.mem_singleton.1 hu]; rfl
      case c3 => unfold maxLen; omega
      case c4 => omega
      case c5 => simp; omega
      rintro v' w3 hown3 hgrow -
      have HB3 := hidK ((HB.out.trans ((below2 _ _ _ ).mono hBs)).grown hgrow (by simp; omega) (fun g hg => by have := (HO.out.lt g hg).1; omega))
      have HO3 := hidK hown3
      clear hown3 hgrow
      go_wp2
      exact ⟨⟨3, by omega, by go_num, HO3.out, HB3.out⟩, by simp [intOf]⟩
    by_cases e3 : k = 3
    · subst e3
      have hix := lwIx3 f0 f1 f2 f3 f4 f5 f6 f7 f8 f9
      go_wp2_with (first | (at_builtin; refine wpList_append_own _ rfl _ _ 22 rfl w.heap.size 9 i0 (.string ⟨#[]⟩) 1 16 Tryz.underlying22 HI0.out.1 HI0.out.2.1 HI0.out.2.2.1 HI0.out.2.2.2 rfl (by decide) _ _ _ rfl ((HO.out.alloc _).alloc _) ⟨wr.heap.size + 1, 0, none⟩ 1 1 [.string ⟨#[100, 111]⟩] rfl rfl ?c1 ?c2 ?c3 ?c4 ?c5 ?_))
      case c1 =>
        intro j u hu
        cases j with
        | zero =>
          simp only [List.getElem?_cons_zero, Option.some.injEq] at hu
          subst hu
          rw [Addr.add_lit]
          exact cellK (heap2_1 _ _ _) 0
        | succ j => simp at hu
      case c2 => intro u hu; rw [List.mem_singleton.1 hu]; rfl
      case c3 => unfold maxLen; omega
      case c4 => omega
      case c5 => simp; omega
      rintro v' w3 hown3 hgrow -
      have HB3 := hidK ((HB.out.trans ((below2 _ _ _ ).mono hBs)).grown hgrow (by simp; omega) (fun g hg => by have := (HO.out.lt g hg).1; omega))
      have HO3 := hidK hown3
      clear hown3 hgrow
      go_wp2
      exact ⟨⟨4, by omega, by go_num, HO3.out, HB3.out⟩, by simp [intOf]⟩
    by_cases e4 : k = 4
    · subst e4
      have hix := lwIx4 f0 f1 f2 f3 f4 f5 f6 f7 f8 f9
      go_wp2_with (first | (at_builtin; refine wpList_append_own _ rfl _ _ 22 rfl w.heap.size 9 i0 (.string ⟨#[]⟩) 1 16 Tryz.underlying22 HI0.out.1 HI0.out.2.1 HI0.out.2.2.1 HI0.out.2.2.2 rfl (by decide) _ _ _ rfl ((HO.out.alloc _).alloc _) ⟨wr.heap.size + 1, 0, none⟩ 1 1 [.string ⟨#[112, 111, 100, 115]⟩] rfl rfl ?c1 ?c2 ?c3 ?c4 ?c5 ?_))
      case c1 =>
        intro j u hu
        cases j with
        | zero =>
          simp only [List.getElem?_cons_zero, Option.some.injEq] at hu
          subst hu
          rw [Addr.add_lit]
          exact cellK (heap2_1 _ _ _) 0
        | succ j => simp at hu
      case c2 => intro u hu; rw [List.mem_singleton.1 hu]; rfl
      case c3 => unfold maxLen; omega
      case c4 => omega
      case c5 => simp; omega
      rintro v' w3 hown3 hgrow -
      have HB3 := hidK ((HB.out.trans ((below2 _ _ _ ).mono hBs)).grown hgrow (by simp; omega) (fun g hg => by have := (HO.out.lt g hg).1; omega))
      have HO3 := hidK hown3
      clear hown3 hgrow
      go_wp2
      exact ⟨⟨5, by omega, by go_num, HO3.out, HB3.out⟩, by simp [intOf]⟩
    obtain rfl : k = 5 := by omega
    go_wp2
    go_ret
    obtain ⟨a, c, rfl, ho⟩ := TOwn.of_row (zs := deskW) HO.out deskW_size
    exact ⟨a, c, rfl, ho, HB.out⟩

end Rc
end Go.Proofs.YtjjknodefdjkdaaGreatDoorR

namespace Go.Proofs.YtjjknodefdjkdaaGreatDoorR
open Go.RowKit Rc Mk

set_option maxRecDepth 10000 in
set_option maxHeartbeats 3200000 in
theorem fnExactDeskWords_walk (w : World) :
    Calls Tryz.prog 3 #[] w fun e w' => e = .returned (.bool true) ∧ Below w.heap.size w w' := by
  go_enter Tryz.func3, Tryz.ntmps3
  go_wp2_with fail
  refine (swd_any _).mono ?_
  rintro e w1 ⟨a0, c0, rfl, hr, hb⟩
  have HR0 := hidK hr
  have HB1 := hidK hb
  clear hr hb
  go_wp2_with fail
  refine (iwd_any _).mono ?_
  rintro e w2 ⟨a1, c1, rfl, ho, hb⟩
  have HO := hidK ho
  have HD := hidK hb
  clear ho hb
  go_wp2_with fail
  refine (eqTexts HO.out.row (HR0.out.below HD.out)).mono ?_
  rintro e w3 ⟨rfl, hb⟩
  replace HO := hidK (HO.out.below hb)
  replace HD := upB HD hb
  clear hb
  go_wp2_with fail
  refine (markTexts HO.out (by omega)).mono ?_
  rintro e w4 ⟨rfl, ho, hk⟩
  have HO4 := hidK ho
  replace HD := hidK (HD.out.trans (hk.low HD.out.size (fun k s => s)))
  clear ho hk HO
  go_wp2_with fail
  refine (heldTexts HO4.out.row (by omega)).mono ?_
  rintro e w5 ⟨rfl, hb⟩
  replace HO4 := hidK (HO4.out.below hb)
  replace HD := upB HD hb
  clear hb
  go_wp2_with fail
  refine (iwd_any _).mono ?_
  rintro e w6 ⟨a2, c2, rfl, ho, hb⟩
  have HO6 := hidK ho
  replace HO4 := hidK (HO4.out.below hb)
  replace HD := upB HD hb
  clear ho hb
  go_wp2_with fail
  refine (eqTexts HO6.out.row (HR0.out.below HD.out)).mono ?_
  rintro e w7 ⟨rfl, hb⟩
  replace HO4 := hidK (HO4.out.below hb)
  replace HD := upB HD hb
  clear hb HO6
  go_wp2_with fail
  refine (heldTexts HO4.out.row (by omega)).mono ?_
  rintro e w8 ⟨rfl, hb⟩
  replace HD := upB HD hb
  clear hb HO4
  go_wp2
  go_ret
  exact ⟨rfl, HB1.out.trans (HD.out.mono HB1.out.size)⟩

end Go.Proofs.YtjjknodefdjkdaaGreatDoorR

namespace Go.Proofs.YtjjknodefdjkdaaGreatDoorR
open Go.RowKit

abbrev Fact := Value → World → Prop
def slotFact (a0 : Act) (known : List (Tmp × Fact)) (a : Act) (w : World) (t : Tmp) : Prop :=
  match known.lookup t with
  | some φ => φ (a.tmps.getD t undef) w
  | none => a.tmps.getD t undef = a0.tmps.getD t undef

def Obl (P : Program) (ops : Array Oper) (Q : Exit → Act → World → Prop) (W : World) (a0 : Act) (known : List (Tmp × Fact)) (o : Oper) (φ : Fact) : Prop :=
  ∀ (a : Act) (w : World) (K : Act → World → Prop), a.tmps.size = a0.tmps.size → Below W.heap.size W w → (∀ t ∈ o.looksAt ops, slotFact a0 known a w t) →
    (∀ v w', Below w.heap.size w w' → φ v w' → K (a.put o.dst v) w') → if Region.wanted o (yielded ops a.tmps) = true then o.wp P a w K Q else K (a.put o.dst undef) w

def looksOf (o : Oper) : List Tmp := o.op.operands.toList.filterMap fun | .tmp t => some t | _ => none
theorem Obl.plain {P : Program} {ops : Array Oper} {Q : Exit → Act → World → Prop} {W : World} {a0 : Act} {known : List (Tmp × Fact)} {o : Oper} {φ : Fact} (hg : o.guard = none)
    (h : ∀ (a : Act) (w : World) (K : Act → World → Prop), a.tmps.size = a0.tmps.size → Below W.heap.size W w → (∀ t ∈ looksOf o, slotFact a0 known a w t) → (∀ v w', Below w.heap.size w w' → φ v w' → K (a.put o.dst v) w') → o.wp P a w K Q) : Obl P ops Q W a0 known o φ := by
  intro a w K h1 h2 h3 h4
  have hw : Region.wanted o (yielded ops a.tmps) = true := by simp [Region.wanted, hg]
  rw [if_pos hw]
  exact h a w K h1 h2 (fun t ht => h3 t (by unfold Oper.looksAt; exact List.mem_append_left _ ht)) h4

def lastStep (P : Program) (ops : Array Oper) (Q : Exit → Act → World → Prop) (back : Option Oper) (a : Act) (w : World) : Prop :=
  match back with
  | none => Q .normal a w
  | some o => ∀ K : Act → World → Prop, (∀ a w, Q .normal a w → K a w) → if Region.wanted o (yielded ops a.tmps) = true then o.wp P a w K Q else K (a.put o.dst undef) w

def putsAll (a0 : Act) (known : List (Tmp × Fact)) (x : Tmp → Value) : Act := known.foldr (fun p b => b.put (some p.1) (x p.1)) a0
def Fin (P : Program) (ops : Array Oper) (Q : Exit → Act → World → Prop) (W : World) (a0 : Act) (back : Option Oper) (known : List (Tmp × Fact)) : Prop :=
  ∀ (x : Tmp → Value) (w : World), Below W.heap.size W w → (∀ p ∈ known, p.2 (x p.1) w) → lastStep P ops Q back (putsAll a0 known x) w

def kn (d : Option Tmp) (φ : Fact) (known : List (Tmp × Fact)) : List (Tmp × Fact) := match d with | some t => (t, φ) :: known | none => known

section
variable {P : Program} {ops : Array Oper} {Q : Exit → Act → World → Prop} {W : World} {a0 : Act} {back : Option Oper}

def knAll : List (Tmp × Fact) → List Oper → List Fact → List (Tmp × Fact)
  | known, o :: l, φ :: φs => knAll (kn o.dst φ known) l φs
  | known, _, _ => known
theorem knAll_nil (known : List (Tmp × Fact)) (φs : List Fact) : knAll known [] φs = known := by cases φs <;> rfl

theorem lookup_kn (d : Option Tmp) (φ : Fact) (known : List (Tmp × Fact)) (t : Tmp) : (kn d φ known).lookup t = if d = some t then some φ else known.lookup t := by
  cases d with
  | none => simp [kn]
  | some d =>
    simp only [kn, Option.some.injEq, List.lookup_cons]
    by_cases h : d = t
    · subst h; simp
    · rw [if_neg h]
      have : (t == d) = false := by simpa using fun e => h e.symm
      rw [this]

theorem lookup_none : ∀ (l : List Oper) (φs : List Fact) (known : List (Tmp × Fact)) {t : Tmp}, (knAll known l φs).lookup t = none →
    known.lookup t = none ∧ ∀ (i : Nat) (o : Oper) (φ : Fact), l[i]? = some o → φs[i]? = some φ → o.dst ≠ some t
  | [], φs, known, t, h => by rw [knAll_nil] at h; exact ⟨h, fun i o φ h => by simp at h⟩
  | o :: l, [], known, t, h => ⟨h, fun i o φ _ h => by simp at h⟩
  | o :: l, ψ :: φs, known, t, h => by
    obtain ⟨h1, h2⟩ := lookup_none l φs (kn o.dst ψ known) h
    rw [lookup_kn] at h1
    by_cases hd : o.dst = some t
    · rw [if_pos hd] at h1; cases h1
    · rw [if_neg hd] at h1
      refine ⟨h1, fun i o' φ h3 h4 => ?_⟩
      cases i with
      | zero => simp only [List.getElem?_cons_zero, Option.some.injEq] at h3; subst h3; exact hd
      | succ i => exact h2 i o' φ (by simpa using h3) (by simpa using h4)
theorem mem_knAll : ∀ (l : List Oper) (φs : List Fact) (known : List (Tmp × Fact)) {p : Tmp × Fact}, p ∈ knAll known l φs →
    (∃ (i : Nat) (o : Oper), l[i]? = some o ∧ o.dst = some p.1 ∧ φs[i]? = some p.2) ∨ p ∈ known
  | [], φs, known, p, h => by rw [knAll_nil] at h; exact .inr h
  | o :: l, [], known, p, h => .inr h
  | o :: l, ψ :: φs, known, p, h => by
    rcases mem_knAll l φs (kn o.dst ψ known) h with ⟨i, o', h1, h2, h3⟩ | h
    · exact .inl ⟨i + 1, o', by simpa using h1, h2, by simpa using h3⟩
    · cases hd : o.dst with
      | none => rw [hd] at h; exact .inr h
      | some d =>
        rw [hd] at h
        simp only [kn, List.mem_cons] at h
        rcases h with rfl | h
        · exact .inl ⟨0, o, rfl, hd, rfl⟩
        · exact .inr h

theorem getD_put (a : Act) (d t : Tmp) (v : Value) : (a.put (some d) v).tmps.getD t undef = if d = t ∧ t < a.tmps.size then v else a.tmps.getD t undef := by
  simp only [Act.put, Array.getD_eq_getD_getElem?, Array.getElem?_setIfInBounds]
  by_cases h : d = t
  · subst h
    by_cases h2 : d < a.tmps.size
    · simp [h2]
    · simp [h2]
  · simp [h]
theorem size_put (a : Act) (d : Option Tmp) (v : Value) : (a.put d v).tmps.size = a.tmps.size := by cases d <;> simp [Act.put]
theorem defers_put (a : Act) (d : Option Tmp) (v : Value) : (a.put d v).defers = a.defers := by cases d <;> simp [Act.put]
theorem putsAll_size (a0 : Act) (x : Tmp → Value) : ∀ known, (putsAll a0 known x).tmps.size = a0.tmps.size
  | [] => rfl
  | p :: l => by unfold putsAll; rw [List.foldr_cons, size_put]; exact putsAll_size a0 x l
theorem putsAll_defers (a0 : Act) (x : Tmp → Value) : ∀ known, (putsAll a0 known x).defers = a0.defers
  | [] => rfl
  | p :: l => by unfold putsAll; rw [List.foldr_cons, defers_put]; exact putsAll_defers a0 x l
theorem putsAll_getD (a0 a : Act) (known : List (Tmp × Fact)) (hk : ∀ p ∈ known, p.1 < a0.tmps.size) (t : Tmp) (h : (∀ p ∈ known, p.1 ≠ t) → a.tmps.getD t undef = a0.tmps.getD t undef) :
    (putsAll a0 known (fun t => a.tmps.getD t undef)).tmps.getD t undef = a.tmps.getD t undef := by
  induction known with
  | nil => exact (h (fun p hp => by simp at hp)).symm
  | cons p l ih =>
    have e : putsAll a0 (p :: l) (fun t => a.tmps.getD t undef) = (putsAll a0 l (fun t => a.tmps.getD t undef)).put (some p.1) (a.tmps.getD p.1 undef) := rfl
    rw [e, getD_put, putsAll_size]
    by_cases hp : p.1 = t
    · subst hp
      rw [if_pos ⟨rfl, hk p (by simp)⟩]
    · rw [if_neg (fun h => hp h.1)]
      exact ih (fun q hq => hk q (by simp [hq])) (fun hn => h (fun q hq => by
        rcases List.mem_cons.1 hq with rfl | hq
        · exact hp
        · exact hn q hq))
theorem act_ext {a b : Act} (hs : a.tmps.size = b.tmps.size) (hd : a.defers = b.defers) (h : ∀ t, a.tmps.getD t undef = b.tmps.getD t undef) : a = b := by
  cases a with | mk at_ ad => cases b with | mk bt bd =>
  simp only at hs hd h
  subst hd
  congr 1
  apply Array.ext hs
  intro i h1 h2
  have := h i
  simpa [Array.getD, h1, h2] using this

structure At (front : List Oper) (φs : List Fact) (W : World) (a0 : Act) (listed : Array Bool) (a : Act) (w : World) : Prop where
  size : a.tmps.size = a0.tmps.size
  defers : a.defers = a0.defers
  below : Below W.heap.size W w
  known : ∀ (i : Nat) (o : Oper) (φ : Fact), front[i]? = some o → φs[i]? = some φ → ∀ t, o.dst = some t → listed.getD i false = true → φ (a.tmps.getD t undef) w
  other : ∀ t, (∀ (i : Nat) (o : Oper), front[i]? = some o → o.dst = some t → listed.getD i false = false) → a.tmps.getD t undef = a0.tmps.getD t undef

theorem Fin.last {front : List Oper} {φs : List Fact} {listed : Array Bool} {a : Act} {w : World} (hf : Fin P ops Q W a0 back (knAll [] front φs)) (hlen : φs.length = front.length) (hin : ∀ o ∈ front, ∀ t, o.dst = some t → t < a0.tmps.size)
    (h : At front φs W a0 listed a w) (hall : ∀ i, i < front.length → listed.getD i false = true) : lastStep P ops Q back a w := by
  have h1 := hf (fun t => a.tmps.getD t undef) w h.below (fun p hp => by
    rcases mem_knAll front φs [] hp with ⟨i, o, h1, h2, h3⟩ | h1
    · exact h.known i o p.2 h1 h3 p.1 h2 (hall i (List.getElem?_eq_some_iff.1 h1).1)
    · simp at h1)
  have e : putsAll a0 (knAll [] front φs) (fun t => a.tmps.getD t undef) = a := by
    refine act_ext ((putsAll_size _ _ _).trans h.size.symm) ((putsAll_defers _ _ _).trans h.defers.symm) (fun t => putsAll_getD a0 a _ (fun p hp => ?_) t (fun hn => ?_))
    · rcases mem_knAll front φs [] hp with ⟨i, o, h1, h2, h3⟩ | h1
      · exact hin o (List.mem_of_getElem? h1) _ h2
      · simp at h1
    · refine h.other t (fun i o ho hd => ?_)
      exfalso
      have hi := (List.getElem?_eq_some_iff.1 ho).1
      have hφ : φs[i]? = some (φs[i]'(by omega)) := List.getElem?_eq_getElem _
      cases hk : (knAll [] front φs).lookup t with
      | none => exact (lookup_none front φs [] hk).2 i o _ ho hφ hd
      | some φ =>
        have : ∃ p ∈ knAll [] front φs, p.1 = t := by
          revert hk
          generalize knAll [] front φs = l
          intro hk
          induction l with
          | nil => simp at hk
          | cons p l ih =>
            rw [List.lookup_cons] at hk
            cases hb : t == p.1 with
            | true => exact ⟨p, by simp, (by simpa using hb : t = p.1).symm⟩
            | false =>
              rw [hb] at hk
              obtain ⟨q, hq, he⟩ := ih hk
              exact ⟨q, by simp [hq], he⟩
        obtain ⟨p, hp, he⟩ := this
        exact hn p hp he
  rw [e] at h1
  exact h1

end

structure Vd where
  n : ByteArray
  c : Int
  z : ByteArray
  k : ByteArray
  x : Bool
  m : ByteArray
  y : Bool
  zs : List ByteArray
def Vd.Fit (v : Vd) : Prop := v.n.size ≤ 9223372036854775807 ∧ v.z.size ≤ 9223372036854775807 ∧ v.k.size ≤ 9223372036854775807 ∧ v.m.size ≤ 9223372036854775807
def Vd.At (v : Vd) (w : World) (b o : Nat) : Prop := v.Fit ∧ ∃ a len cap, TxRow w a len cap v.zs ∧
  w.cell? ⟨b, o, none⟩ = some (.string v.n) ∧ w.cell? ⟨b, o + 1, none⟩ = some (.int .i64 v.c) ∧ w.cell? ⟨b, o + 2, none⟩ = some (.string v.z) ∧ w.cell? ⟨b, o + 3, none⟩ = some (.string v.k) ∧
  w.cell? ⟨b, o + 4, none⟩ = some (.bool v.x) ∧ w.cell? ⟨b, o + 5, none⟩ = some (.string v.m) ∧ w.cell? ⟨b, o + 6, none⟩ = some (.bool v.y) ∧ w.cell? ⟨b, o + 7, none⟩ = some (.slice a len cap)
theorem Vd.At.below {v : Vd} {w w' : World} {b o : Nat} (h : v.At w b o) (hl : b < w.heap.size) (hb : Below w.heap.size w w') : v.At w' b o := by
  obtain ⟨hf, a, len, cap, hr, h0, h1, h2, h3, h4, h5, h6, h7⟩ := h
  exact ⟨hf, a, len, cap, hr.below hb, (cell_below hb hl).trans h0, (cell_below hb hl).trans h1, (cell_below hb hl).trans h2, (cell_below hb hl).trans h3, (cell_below hb hl).trans h4, (cell_below hb hl).trans h5, (cell_below hb hl).trans h6, (cell_below hb hl).trans h7⟩
def VsRow (w : World) (a : Option Addr) (len cap : Nat) (vs : List Vd) : Prop :=
  vs.length = len ∧ len ≤ cap ∧ cap ≤ 9223372036854775807 ∧
  (vs = [] ∨ ∃ b o, a = some ⟨b, o, none⟩ ∧ b < w.heap.size ∧ ∀ (j : Nat) v, vs[j]? = some v → v.At w b (o + j * 8))
theorem VsRow.below {w w' : World} {a : Option Addr} {len cap : Nat} {vs : List Vd} (h : VsRow w a len cap vs) (hb : Below w.heap.size w w') : VsRow w' a len cap vs := by
  obtain ⟨h1, h2, h3, h5⟩ := h
  refine ⟨h1, h2, h3, ?_⟩
  rcases h5 with h5 | ⟨b, o, rfl, hlt, hc⟩
  · exact Or.inl h5
  · exact Or.inr ⟨b, o, rfl, Nat.lt_of_lt_of_le hlt hb.size, fun j v hv => (hc j v hv).below hlt hb⟩
theorem VsRow.at {w : World} {a : Option Addr} {len cap : Nat} {vs : List Vd} (h : VsRow w a len cap vs) {j : Nat} (hj : j < len) :
    ∃ b o v, a = some ⟨b, o, none⟩ ∧ b < w.heap.size ∧ vs[j]? = some v ∧ v.At w b (o + j * 8) := by
  obtain ⟨h1, h2, h3, h5⟩ := h
  have hx : vs[j]? = some (vs[j]'(by omega)) := List.getElem?_eq_getElem _
  rcases h5 with h5 | ⟨b, o, rfl, hlt, hc⟩
  · subst h5; simp at h1; omega
  · exact ⟨b, o, _, rfl, hlt, hx, hc j _ hx⟩

def VsOwn (w : World) (g len X Y : Nat) : Prop :=
  X ≤ g ∧ g < Y ∧ ∃ cur : Array Value, w.heap[g]? = some (.cells cur 55 (0, 0)) ∧ cur.size = len * 8 ∧
    ∀ j, j < len → ∃ a l c, cur[j * 8 + 7]? = some (.slice a l c) ∧ l ≤ 1048576 ∧ (l = 0 ∨ ∃ h cu, a = some ⟨h, 0, none⟩ ∧ X ≤ h ∧ h < Y ∧ ¬ h = g ∧ w.heap[h]? = some (.cells cu 9 (0, 0)) ∧ l ≤ cu.size)
theorem VsOwn.below {w w' : World} {g len X Y : Nat} (h : VsOwn w g len X Y) (hY : Y ≤ w.heap.size) (hb : Below w.heap.size w w') : VsOwn w' g len X Y := by
  obtain ⟨h1, h2, cur, h3, h4, h5⟩ := h
  refine ⟨h1, h2, cur, (hb.block _ (Nat.lt_of_lt_of_le h2 hY)).trans h3, h4, fun j hj => ?_⟩
  obtain ⟨a, l, c, h6, h7, h8⟩ := h5 j hj
  refine ⟨a, l, c, h6, h7, h8.imp id ?_⟩
  rintro ⟨h, cu, h9, h10, h11, h12, h13, h14⟩
  exact ⟨h, cu, h9, h10, h11, h12, (hb.block _ (Nat.lt_of_lt_of_le h11 hY)).trans h13, h14⟩

end Go.Proofs.YtjjknodefdjkdaaGreatDoorR

namespace Go.Proofs.YtjjknodefdjkdaaGreatDoorR
open Go.RowKit
namespace Rc
open Mk

structure Nd where
  n : ByteArray
  z : ByteArray
  c : Int
  s : Int
  u : Int
  d : Bool
  zs : List ByteArray

structure Kd where
  n : ByteArray
  x : Bool
  y : Bool
  z : ByteArray

structure Xd where
  n : ByteArray
  z : Int
  k : ByteArray
  x : Bool
  v : ByteArray

structure Pd where
  n : ByteArray
  c : Int
  z : ByteArray
  zs : List ByteArray
  d : ByteArray
  p : Int

structure Cl where
  ns : List Nd
  ks : List Kd
  vs : List Vd
  xs : List Xd
  ps : List Pd
  now : Int
structure Cr where
  n : List (List Fv)
  k : List (List Fv)
  v : List (List Fv)
  x : List (List Fv)
  p : List (List Fv)
structure Ad where
  a1 : Option Addr
  l1 : Nat
  c1 : Nat
  a2 : Option Addr
  l2 : Nat
  c2 : Nat
  a3 : Option Addr
  l3 : Nat
  c3 : Nat
  a4 : Option Addr
  l4 : Nat
  c4 : Nat
  a5 : Option Addr
  l5 : Nat
  c5 : Nat
structure ClRow (w : World) (d : Ad) (c : Cr) : Prop where
  n : RRow w d.a1 d.l1 d.c1 7 c.n
  k : RRow w d.a2 d.l2 d.c2 4 c.k
  v : RRow w d.a3 d.l3 d.c3 8 c.v
  x : RRow w d.a4 d.l4 d.c4 5 c.x
  p : RRow w d.a5 d.l5 d.c5 6 c.p
theorem ClRow.below {w w' : World} {d : Ad} {c : Cr} (h : ClRow w d c) (hb : Below w.heap.size w w') : ClRow w' d c := ⟨h.n.below hb, h.k.below hb, h.v.below hb, h.x.below hb, h.p.below hb⟩
structure ClOwnP (w : World) (d : Ad) (c : Cr) (S : Nat → Prop) (P : Nat → Nat) : Prop where
  n : ROwn w d.a1 d.l1 d.c1 7 108 c.n (fun k => S k ∧ P k = 1)
  k : ROwn w d.a2 d.l2 d.c2 4 161 c.k (fun k => S k ∧ P k = 2)
  v : ROwn w d.a3 d.l3 d.c3 8 55 c.v (fun k => S k ∧ P k = 3)
  x : ROwn w d.a4 d.l4 d.c4 5 129 c.x (fun k => S k ∧ P k = 4)
  p : ROwn w d.a5 d.l5 d.c5 6 63 c.p (fun k => S k ∧ P k = 5)
def ClOwn (w : World) (d : Ad) (c : Cr) (S : Nat → Prop) : Prop := ∃ P, ClOwnP w d c S P
theorem ClOwnP.row {w : World} {d : Ad} {c : Cr} {S : Nat → Prop} {P : Nat → Nat} (h : ClOwnP w d c S P) : ClRow w d c := ⟨h.n.row, h.k.row, h.v.row, h.x.row, h.p.row⟩
theorem ClOwn.row {w : World} {d : Ad} {c : Cr} {S : Nat → Prop} (h : ClOwn w d c S) : ClRow w d c := by obtain ⟨P, h⟩ := h; exact h.row
theorem ClOwnP.keep {w w' : World} {d : Ad} {c : Cr} {S S' : Nat → Prop} {P : Nat → Nat} (h : ClOwnP w d c S P) (hk : ∀ k, k < w.heap.size → S k → w'.heap[k]? = w.heap[k]?) (hs : ∀ k, k < w.heap.size → S k → S' k) : ClOwnP w' d c S' P :=
  ⟨h.n.keep (fun k hl s => hk k hl s.1) (fun k hl s => ⟨hs k hl s.1, s.2⟩), h.k.keep (fun k hl s => hk k hl s.1) (fun k hl s => ⟨hs k hl s.1, s.2⟩), h.v.keep (fun k hl s => hk k hl s.1) (fun k hl s => ⟨hs k hl s.1, s.2⟩), h.x.keep (fun k hl s => hk k hl s.1) (fun k hl s => ⟨hs k hl s.1, s.2⟩), h.p.keep (fun k hl s => hk k hl s.1) (fun k hl s => ⟨hs k hl s.1, s.2⟩)⟩
theorem ClOwn.below {w w' : World} {d : Ad} {c : Cr} {S : Nat → Prop} (h : ClOwn w d c S) (hb : Below w.heap.size w w') : ClOwn w' d c S := by
  obtain ⟨P, h⟩ := h
  exact ⟨P, h.keep (fun k hk _ => hb.block k hk) (fun _ _ s => s)⟩
theorem ClOwn.into {w : World} {d : Ad} {c : Cr} {S S' : Nat → Prop} (h : ClOwn w d c S) (hs : ∀ k, k < w.heap.size → S k → S' k) : ClOwn w d c S' := by
  obtain ⟨P, h⟩ := h
  exact ⟨P, h.keep (fun _ _ _ => rfl) hs⟩
end Rc
end Go.Proofs.YtjjknodefdjkdaaGreatDoorR

namespace Go.Proofs.YtjjknodefdjkdaaGreatDoorR
open Go.RowKit
namespace Rc

theorem less_irr : ∀ x : List UInt8, Op.bytesLess x x = false
  | [] => rfl
  | a :: x => by simp [Op.bytesLess, less_irr x]
theorem less_trans : ∀ x y z : List UInt8, Op.bytesLess x y = true → Op.bytesLess y z = true → Op.bytesLess x z = true
  | _, [], _, h, _ => by cases ‹List UInt8› <;> simp [Op.bytesLess] at h
  | _, _ :: _, [], _, h => by simp [Op.bytesLess] at h
  | [], _ :: _, _ :: _, _, _ => rfl
  | a :: x, b :: y, c :: z, h, k => by
    simp only [Op.bytesLess, Bool.or_eq_true, decide_eq_true_eq, Bool.and_eq_true, beq_iff_eq] at h k ⊢
    rcases h with h | ⟨rfl, h⟩
    · rcases k with k | ⟨rfl, k⟩
      · exact .inl (UInt8.lt_trans h k)
      · exact .inl h
    · rcases k with k | ⟨rfl, k⟩
      · exact .inl k
      · exact .inr ⟨rfl, less_trans x y z h k⟩
section
variable {α : Type} {nm : α → ByteArray} {xs : List α} {t : ByteArray}
def RisBy (nm : α → ByteArray) (xs : List α) : Prop := ∀ (j : Nat) x y, xs[j + 1]? = some x → xs[j]? = some y → Op.bytesLess (nm y).toList (nm x).toList = true
theorem RisBy.lt (h : RisBy nm xs) {i j : Nat} {x y : α} (hij : i < j) (hi : xs[i]? = some x) (hj : xs[j]? = some y) : Op.bytesLess (nm x).toList (nm y).toList = true := by
  induction j generalizing y with
  | zero => omega
  | succ j ih =>
    by_cases e : i = j
    · subst e; exact h i y x hj hi
    · have hl : j < xs.length := by have := (List.getElem?_eq_some_iff.1 hj).1; omega
      have hz : xs[j]? = some (xs[j]'hl) := List.getElem?_eq_getElem _
      exact less_trans _ _ _ (ih (by omega) hz) (h j y _ hj hz)
theorem RisBy.inj (h : RisBy nm xs) {i j : Nat} {x y : α} (hi : xs[i]? = some x) (hj : xs[j]? = some y) (e : nm x = nm y) : i = j ∧ x = y := by
  have hij : i = j := by
    rcases Nat.lt_trichotomy i j with k | k | k
    · have := h.lt k hi hj; rw [e, less_irr] at this; cases this
    · exact k
    · have := h.lt k hj hi; rw [e, less_irr] at this; cases this
  subst hij
  rw [hi] at hj
  exact ⟨rfl, Option.some.inj hj⟩
end
theorem BoolB.yes {p : Prop} {w w' : World} {e : Ending} (h : BoolB p w e w') (hp : p) : e = .returned (.bool true) ∧ Below w.heap.size w w' := by
  obtain ⟨r, rfl, hr, hb⟩ := h
  exact ⟨by rw [hr.2 hp], hb⟩
theorem BoolB.no {p : Prop} {w w' : World} {e : Ending} (h : BoolB p w e w') (hp : ¬ p) : e = .returned (.bool false) ∧ Below w.heap.size w w' := by
  obtain ⟨r, rfl, hr, hb⟩ := h
  cases r
  · exact ⟨rfl, hb⟩
  · exact absurd (hr.1 rfl) hp
theorem BoolB.t {p : Prop} {w w' : World} (hp : p) (hb : Below w.heap.size w w') : BoolB p w (.returned (.bool true)) w' := ⟨true, rfl, ⟨fun _ => hp, fun _ => rfl⟩, hb⟩
theorem BoolB.f {p : Prop} {w w' : World} (hp : ¬ p) (hb : Below w.heap.size w w') : BoolB p w (.returned (.bool false)) w' := ⟨false, rfl, ⟨fun h => (by cases h), fun h => absurd h hp⟩, hb⟩
end Rc
end Go.Proofs.YtjjknodefdjkdaaGreatDoorR

namespace Go.Proofs.YtjjknodefdjkdaaGreatDoorR
open Go.RowKit

end Go.Proofs.YtjjknodefdjkdaaGreatDoorR

namespace Go.Proofs.YtjjknodefdjkdaaGreatDoorR
open Go.RowKit
namespace Rc
open Mk

def ens (w : World) : Prop := ∃ T v, w.cell? ⟨4, 0, none⟩ = some (.iface T v)
theorem ens.lt {w : World} (h : ens w) : 4 < w.heap.size := by
  obtain ⟨T, v, h⟩ := h
  rcases Nat.lt_or_ge (4) w.heap.size with h1 | h1
  · exact h1
  · simp [World.cell?, Array.getElem?_eq_none h1] at h
theorem ens.below {w w' : World} (h : ens w) (hb : Below w.heap.size w w') : ens w' := by
  have hl := h.lt
  obtain ⟨T, v, h⟩ := h
  exact ⟨T, v, (cell_below hb hl).trans h⟩
end Rc
end Go.Proofs.YtjjknodefdjkdaaGreatDoorR

namespace Go.Proofs.YtjjknodefdjkdaaGreatDoorR
open Go.RowKit Go.Extern.Stop Go.Stop Go.Extern
namespace Rc

structure Ers (w : World) (E : Nat → Addr) : Prop where
  v0 : w.cell? ⟨0, 0, none⟩ = some (.iface 388 (.pointer (some (E 0))))
  v1 : w.cell? ⟨1, 0, none⟩ = some (.iface 388 (.pointer (some (E 1))))
  v2 : w.cell? ⟨4, 0, none⟩ = some (.iface 388 (.pointer (some (E 2))))
  v3 : w.cell? ⟨5, 0, none⟩ = some (.iface 388 (.pointer (some (E 3))))
  v4 : w.cell? ⟨2, 0, none⟩ = some (.iface 388 (.pointer (some (E 4))))
  v5 : w.cell? ⟨7, 0, none⟩ = some (.iface 388 (.pointer (some (E 5))))
  v6 : w.cell? ⟨6, 0, none⟩ = some (.iface 388 (.pointer (some (E 6))))
  v7 : w.cell? ⟨8, 0, none⟩ = some (.iface 388 (.pointer (some (E 7))))
  v8 : w.cell? ⟨9, 0, none⟩ = some (.iface 388 (.pointer (some (E 8))))
  v9 : w.cell? ⟨3, 0, none⟩ = some (.iface 388 (.pointer (some (E 9))))
  blk : ∀ i, i < 10 → ∃ cs T, w.heap[(E i).block]? = some (.cells cs T (0, 0))
  inj : ∀ i j, i < 10 → j < 10 → E i = E j → i = j
theorem cell_lt {w : World} {b o : Nat} {v : Value} (h : w.cell? ⟨b, o, none⟩ = some v) : b < w.heap.size := World.block_lt_of_cell? w _ h
theorem Ers.below {w w' : World} {E : Nat → Addr} (h : Ers w E) (hb : Below w.heap.size w w') : Ers w' E :=
  ⟨(cell_below hb (cell_lt h.v0)).trans h.v0, (cell_below hb (cell_lt h.v1)).trans h.v1, (cell_below hb (cell_lt h.v2)).trans h.v2, (cell_below hb (cell_lt h.v3)).trans h.v3, (cell_below hb (cell_lt h.v4)).trans h.v4, (cell_below hb (cell_lt h.v5)).trans h.v5, (cell_below hb (cell_lt h.v6)).trans h.v6, (cell_below hb (cell_lt h.v7)).trans h.v7, (cell_below hb (cell_lt h.v8)).trans h.v8, (cell_below hb (cell_lt h.v9)).trans h.v9, fun i hi => by
    obtain ⟨cs, T, h1⟩ := h.blk i hi
    exact ⟨cs, T, (hb.block _ (lt_of_some h1)).trans h1⟩, h.inj⟩
theorem Ers.ens {w : World} {E : Nat → Addr} (h : Ers w E) : ens w := ⟨_, _, h.v2⟩

end Rc
end Go.Proofs.YtjjknodefdjkdaaGreatDoorR

namespace Go.Proofs.YtjjknodefdjkdaaGreatDoorR
open Go.RowKit
namespace Rc

theorem vars_length {H : Type} {enc : TypeId × Value → H} {P : Program} {w : World} {sp : Nat → Bool} : ∀ (ns : List String) (gs : List (DataW H)) (ps : List MemPlace), DataW.TrodVars enc P w sp ns gs ps → gs.length = ns.length
  | [], [], _, _ => rfl
  | [], _ :: _, _, h => h.elim
  | _ :: _, [], _, h => h.elim
  | _ :: ns, _ :: gs, _, h => by
    obtain ⟨_, _, _, _, _, q, _, _, _, _, h1, _⟩ := h
    simp [vars_length ns gs q h1]
theorem len10 {α : Type} : ∀ {l : List α}, l.length = 10 → ∃ a b c d e f g h i j, l = [a, b, c, d, e, f, g, h, i, j]
  | [a, b, c, d, e, f, g, h, i, j], _ => ⟨a, b, c, d, e, f, g, h, i, j, rfl⟩

end Rc
end Go.Proofs.YtjjknodefdjkdaaGreatDoorR

/-
  The iterator over those volumes of a list that serve: its contract.
-/
import Derived.RangeFuncNested
import Derived.RangeFuncBound
import Derived.RangeFuncCalls
import Derived.RangeFuncLeaves
import Derived.Shelf.Abstract
import Derived.Shelf.RegionOpen
import Derived.WalkKit
import Derived.OwnWalkIn
import Derived.TacticsInMore
import Derived.LoopNIn
import Derived.LoopIn
import Derived.Test.YtjkgpkgbaapdmaaBestI
namespace Go.Proofs.Ytjkgpkgbaapdmaa
open Go.RowKit Go.Shelf

attribute [local go_sem] Oper.semAt_some

/-- A volume and where its list lies. -/
structure Vx where
  v : Vd
  a : Option Addr
  len : Nat
  cap : Nat
def Vx.val (x : Vx) : Value := .agg #[.string x.v.n, .int .i64 x.v.c, .string x.v.z, .string x.v.k, .bool x.v.x, .string x.v.m, .bool x.v.y, .slice x.a x.len x.cap]
/-- What a round keeps: all blocks below n₀ but two. -/
def KpB (h n₀ : Nat) (W W' : World) : Prop := W.heap.size ≤ W'.heap.size ∧ ∀ k, k < n₀ → ¬ k = h → ¬ k = h + 1 → W'.heap[k]? = W.heap[k]?
theorem KpB.refl (h n₀ : Nat) (W : World) : KpB h n₀ W W := ⟨Nat.le_refl _, fun _ _ _ _ => rfl⟩
theorem KpB.trans {h n₀ : Nat} {A B C : World} (p : KpB h n₀ A B) (q : KpB h n₀ B C) : KpB h n₀ A C := ⟨Nat.le_trans p.1 q.1, fun k h1 h2 h3 => (q.2 k h1 h2 h3).trans (p.2 k h1 h2 h3)⟩
theorem KpB.below {h n₀ : Nat} {A B : World} (q : Below A.heap.size A B) (hn : n₀ ≤ A.heap.size) : KpB h n₀ A B := ⟨q.size, fun k h1 _ _ => q.block k (by omega)⟩
theorem KpB.put {h n₀ : Nat} {w : World} (hn : n₀ ≤ w.heap.size) (W : World) (l : Nat) (o o' : Obj) (hl : w.heap.size ≤ l) (_ : W.heap[l]? = some o) (_ : o.isCells = false) (_ : o.isWalk = false) : KpB h n₀ W (W.putObj l o') :=
  ⟨by simp, fun k h1 _ _ => World.putObj_heap_other (fun e => by omega)⟩
theorem grown_of_below {w w' : World} (h : Below w.heap.size w w') : w.grownBy w' none := ⟨h.os, h.tape, h.output, h.size, fun k hk _ => h.block k hk⟩
/-- What the iterator reads. -/
structure ItAt (W : World) (a : Option Addr) (h lb fb cb zb b o len cap : Nat) (xl : List Vx) (n' : ByteArray) (c' : Int) (k' : ByteArray) (x' : Bool) (v' : ByteArray) (t : ByteArray) : Prop where
  l0 : W.heap[lb]? = some (.cells #[.slice a len cap] 23 (0, 0))
  f0 : W.heap[fb]? = some (.cells #[.func (.func 79) #[] #[.pointer (some ⟨cb, 0, none⟩), .pointer (some ⟨zb, 0, none⟩)]] 46 (0, 0))
  held : SvHeld W cb zb n' c' k' x' v' t
  ll : xl.length = len
  ha : xl = [] ∨ a = some ⟨b, o, none⟩
  bl : b < W.heap.size
  ne : ¬ lb = h ∧ ¬ lb = h + 1 ∧ ¬ fb = h ∧ ¬ fb = h + 1 ∧ ¬ cb = h ∧ ¬ cb = h + 1 ∧ ¬ zb = h ∧ ¬ zb = h + 1 ∧ ¬ b = h ∧ ¬ b = h + 1
  cell : ∀ (j : Nat) x, xl[j]? = some x → W.cell? ⟨b, o + j * 8, none⟩ = some (.string x.v.n) ∧ W.cell? ⟨b, o + j * 8 + 1, none⟩ = some (.int .i64 x.v.c) ∧ W.cell? ⟨b, o + j * 8 + 2, none⟩ = some (.string x.v.z) ∧ W.cell? ⟨b, o + j * 8 + 3, none⟩ = some (.string x.v.k) ∧
    W.cell? ⟨b, o + j * 8 + 4, none⟩ = some (.bool x.v.x) ∧ W.cell? ⟨b, o + j * 8 + 5, none⟩ = some (.string x.v.m) ∧ W.cell? ⟨b, o + j * 8 + 6, none⟩ = some (.bool x.v.y) ∧ W.cell? ⟨b, o + j * 8 + 7, none⟩ = some (.slice x.a x.len x.cap)
theorem ItAt.kept {W W' : World} {a : Option Addr} {h lb fb cb zb b o len cap n₀ : Nat} {xl : List Vx} {n' : ByteArray} {c' : Int} {k' : ByteArray} {x' : Bool} {v' t : ByteArray} (i : ItAt W a h lb fb cb zb b o len cap xl n' c' k' x' v' t) (hn : lb < n₀ ∧ fb < n₀ ∧ cb < n₀ ∧ zb < n₀ ∧ b < n₀) (k : KpB h n₀ W W') :
    ItAt W' a h lb fb cb zb b o len cap xl n' c' k' x' v' t := by
  obtain ⟨e1, e2, e3, e4, e5, e6, e7, e8, e9, e10⟩ := i.ne
  have hc : ∀ j, W'.cell? ⟨b, j, none⟩ = W.cell? ⟨b, j, none⟩ := fun j => by simp [World.cell?, k.2 b hn.2.2.2.2 e9 e10]
  refine ⟨(k.2 _ hn.1 e1 e2).trans i.l0, (k.2 _ hn.2.1 e3 e4).trans i.f0, ⟨(k.2 _ hn.2.2.1 e5 e6).trans i.held.1, (k.2 _ hn.2.2.2.1 e7 e8).trans i.held.2⟩, i.ll, i.ha, Nat.lt_of_lt_of_le i.bl k.1, i.ne, fun j x hx => ?_⟩
  simp only [hc]
  exact i.cell j x hx

set_option maxRecDepth 100000 in
set_option maxHeartbeats 2000000 in
theorem pick_stops (n : Nat) (hn1 : 1 ≤ n) (a : Option Addr) (h lb fb cb zb b o len cap n₀ : Nat) (xl : List Vx) (n' : ByteArray) (c' : Int) (k' : ByteArray) (x' : Bool) (v' : ByteArray) (t : ByteArray) (w : World) (hlen : len ≤ 1000) (hi : ItAt w a h lb fb cb zb b o len cap xl n' c' k' x' v' t) (hw : n₀ = w.heap.size) (hn : lb < n₀ ∧ fb < n₀ ∧ cb < n₀ ∧ zb < n₀ ∧ b < n₀) :
    SeqStopsK Fence.wide n Try.prog 78 #[.pointer (some ⟨lb, 0, none⟩), .pointer (some ⟨fb, 0, none⟩)] (fun x : Vx => #[x.val]) (KpB h n₀) (fun xs => xs = xl.filter fun x => svV c' k' x' t x.v) (fun _ => True) len w := fun l J Jx W hW hJ hJx hY h0 => by
  have hiW := hi.kept hn (KpB.below hW (by omega))
  have hz : n₀ ≤ W.heap.size := by have := hW.size; omega
  clear hi hW
  have HI := hidK hiW
  have HAJ := hidK hJ
  have HY := hidK hY
  clear hJ hJx hY
  have c0 := cellK hiW.l0 0
  simp only [List.getElem?_toArray, List.getElem?_cons_zero] at c0
  clear hiW
  refine callsIn_of_wp Try.func78 rfl trivial ?_ rfl
  simp only [Try.ntmps78, List.size_toArray, List.length_cons, List.length_nil, Nat.reduceAdd, Nat.reduceSub, Array.replicate_succ, Array.replicate_zero, List.push_toArray, List.append_toArray, List.nil_append, List.cons_append]
  gi_wp2
  gi_loopw [8] (fun p wr => ∃ i : Nat, i ≤ len ∧ p = .int .i64 i ∧ Hid (KpB h n₀ W wr) ∧ Hid (J ((xl.take i).filter fun x => svV c' k' x' t x.v) wr)) (fun p _ => len - (intOf p).toNat)
  case atStart => exact ⟨0, by omega, rfl, KpB.refl _ _ _, h0⟩
  case round =>
    obtain ⟨i, hi, rfl, HK, HJ⟩ := hrel
    have hI := HI.out.kept hn HK.out
    have hzr : n₀ ≤ wr.heap.size := Nat.le_trans hz HK.out.1
    by_cases hlt : i < len
    case neg =>
      obtain rfl : i = len := by omega
      have HE : Hid (J (xl.filter fun x => svV c' k' x' t x.v) wr) := by have := HJ.out; rw [List.take_of_length_le (by have := hI.ll; omega)] at this; exact this
      clear hI c0
      gi_wp2
      go_end0
      exact ⟨⟨_, rfl⟩, .inl ⟨_, rfl, HE.out⟩⟩
    have hxl := hI.ll
    obtain rfl : a = some ⟨b, o, none⟩ := by
      rcases hI.ha with h | h
      · rw [h] at hxl; simp at hxl; omega
      · exact h
    obtain ⟨x, hx⟩ : ∃ x, xl[i]? = some x := ⟨_, List.getElem?_eq_getElem (by omega)⟩
    obtain ⟨p0, p1, p2, p3, p4, p5, p6, p7⟩ := hI.cell i x hx
    have hbf := below1 wr (.cells #[.string x.v.n, .int .i64 x.v.c, .string x.v.z, .string x.v.k, .bool x.v.x, .string x.v.m, .bool x.v.y, .slice x.a x.len x.cap] 30)
    have f0 := (cell_below hbf (lt_of_some hI.f0)).trans (cellK hI.f0 0)
    simp only [List.getElem?_toArray, List.getElem?_cons_zero] at f0
    have HH := hidK hI.held
    have HX := hidK hx
    have hlt' : (i : Int) < len := by omega
    clear hI hx hbf c0
    gi_wp2_with fail
    refine ⟨trivial, (callsIn_wide.2 (clo_any x.v.n x.v.c x.v.z x.v.k x.v.x x.v.m x.v.y x.a x.len x.cap cb zb n' c' k' x' v' t _ (HH.out.below (below1 _ _)))).mono ?_⟩
    rintro e w2 ⟨rfl, hb2⟩
    obtain ⟨gv, hb3, -⟩ := slotK hb2
    have y0 : w2.cell? ⟨wr.heap.size, 0, none⟩ = some (.string x.v.n) := cellK gv 0
    have y1 : w2.cell? ⟨wr.heap.size, 1, none⟩ = some (.int .i64 x.v.c) := cellK gv 1
    have y2 : w2.cell? ⟨wr.heap.size, 2, none⟩ = some (.string x.v.z) := cellK gv 2
    have y3 : w2.cell? ⟨wr.heap.size, 3, none⟩ = some (.string x.v.k) := cellK gv 3
    have y4 : w2.cell? ⟨wr.heap.size, 4, none⟩ = some (.bool x.v.x) := cellK gv 4
    have y5 : w2.cell? ⟨wr.heap.size, 5, none⟩ = some (.string x.v.m) := cellK gv 5
    have y6 : w2.cell? ⟨wr.heap.size, 6, none⟩ = some (.bool x.v.y) := cellK gv 6
    have y7 : w2.cell? ⟨wr.heap.size, 7, none⟩ = some (.slice x.a x.len x.cap) := cellK gv 7
    have HK2 := hidK (HK.out.trans (KpB.below (h := h) hb3 hzr))
    have HJ2 := hidK (HAJ.out _ _ _ _ HJ.out (grown_of_below hb3) (fun r e => by cases e))
    clear gv hb2 hb3 HK HJ p0 p1 p2 p3 p4 p5 p6 p7 f0
    have hsv : svB x.v.c x.v.z x.v.k x.v.x x.v.m x.v.y c' k' x' t = svV c' k' x' t x.v := rfl
    rw [hsv]
    clear hsv
    cases hs : svV c' k' x' t x.v
    · have he : J ((xl.take (i + 1)).filter fun x => svV c' k' x' t x.v) w2 := by have := HJ2.out; rw [List.take_add_one, HX.out, List.filter_append]; simpa [hs] using this
      have HE := hidK he
      clear hs he
      gi_wp2
      refine ⟨fun _ h => (by cases h), ?_⟩
      gi_wp2
      go_roundw
      case rel => exact ⟨i + 1, by omega, by go_num, HK2, HE⟩
      case measure => simp [intOf]; omega
    have hfl : ((xl.take i).filter fun x => svV c' k' x' t x.v).length < len := by
      have h1 := List.length_filter_le (fun x : Vx => svV c' k' x' t x.v) (xl.take i)
      have h2 : (xl.take i).length ≤ i := List.length_take_le _ _
      omega
    obtain ⟨fn, tmps, assign, body, hy, hR⟩ := HY.out _ x w2 HJ2.out hfl
    dsimp only [Vx.val] at hy
    have HS := hidK hs
    clear hs
    gi_wp2
    refine hR.mono ?_
    rintro e W3 (⟨rfl, hJ3, hk3⟩ | ⟨rfl, hJx3⟩)
    · have he : J ((xl.take (i + 1)).filter fun x => svV c' k' x' t x.v) W3 := by rw [List.take_add_one, HX.out, List.filter_append]; simpa [HS.out] using hJ3
      have HE := hidK he
      clear he
      have HK3 := hidK (HK2.out.trans hk3)
      clear hJ3 hk3 hR hy y0 y1 y2 y3 y4 y5 y6 y7
      gi_wp2
      go_roundw
      case rel => exact ⟨i + 1, by omega, by go_num, HK3, HE⟩
      case measure => simp [intOf]; omega
    · have HE := hidK hJx3
      clear hJx3 hR hy y0 y1 y2 y3 y4 y5 y6 y7
      gi_wp2
      refine bodyPost_ret (results_none rfl _ _ _) rfl ?_
      exact ⟨⟨_, rfl⟩, .inr ⟨_, trivial, HE.out⟩⟩

end Go.Proofs.Ytjkgpkgbaapdmaa

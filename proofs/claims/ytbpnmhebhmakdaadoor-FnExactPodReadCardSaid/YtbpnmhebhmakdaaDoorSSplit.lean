/-
  strings.Split and strings.Clone, laid off the shelf at this program; the words of a text.
-/
import Derived.Test.YtbpnmhebhmakdaaDoorKinds
import Derived.Shelf.Strings.SplitShaped
import Derived.Shelf.Strconv.Clone
import Derived.Test.YtbpnmhebhmakdaaDoorSMath
import Derived.Laws.AppendOwn
namespace Go.Proofs.YtbpnmhebhmakdaaDoor
open Go.RowKit

def lays146_ren : Go.Shelf.Ren := ⟨fun | 146 => 24 | 221 => 41 | 268 => 53 | 138 => 54 | 143 => 55 | 195 => 64 | 197 => 65 | 218 => 66 | 219 => 67 | 260 => 72 | 217 => 73 | 225 => 74 | 224 => 75 | 267 => 76 | 266 => 83 | 314 => 84 | n => n, fun | 9 => 9 | 31 => 22 | 3 => 3 | 4 => 4 | 0 => 0 | 105 => 81 | 21 => 21 | 5 => 5 | 46 => 86 | 119 => 96 | 139 => 99 | 138 => 98 | 146 => 101 | 51 => 100 | n => n, fun | 1 => 0 | 3 => 1 | 4 => 2 | n => n⟩

theorem lays146 : Go.Proofs.LaysM.n146 Tryd.prog lays146_ren := {
  mixed := by kernel_rfl
  f138 := Tryd.func54.trans (congrArg some (by kernel_rfl))
  f143 := Tryd.func55.trans (congrArg some (by kernel_rfl))
  f146 := Tryd.func24.trans (congrArg some (by kernel_rfl))
  f195 := Tryd.func64.trans (congrArg some (by kernel_rfl))
  f197 := Tryd.func65.trans (congrArg some (by kernel_rfl))
  f217 := Tryd.func73.trans (congrArg some (by kernel_rfl))
  f218 := Tryd.func66.trans (congrArg some (by kernel_rfl))
  f219 := Tryd.func67.trans (congrArg some (by kernel_rfl))
  f221 := Tryd.func41.trans (congrArg some (by kernel_rfl))
  f224 := Tryd.func75.trans (congrArg some (by kernel_rfl))
  f225 := Tryd.func74.trans (congrArg some (by kernel_rfl))
  f260 := Tryd.func72.trans (congrArg some (by kernel_rfl))
  f266 := Tryd.func83.trans (congrArg some (by kernel_rfl))
  f267 := Tryd.func76.trans (congrArg some (by kernel_rfl))
  f268 := Tryd.func53.trans (congrArg some (by kernel_rfl))
  f314 := Tryd.func84.trans (congrArg some (by kernel_rfl))
  t0 := Tryd.underlying0
  a0 := Tryd.isAgg0
  z0 := Tryd.sizeOf0
  v0 := Tryd.zeroValue0
  t3 := Tryd.underlying3
  a3 := Tryd.isAgg3
  z3 := Tryd.sizeOf3
  v3 := Tryd.zeroValue3
  t4 := Tryd.underlying4
  a4 := Tryd.isAgg4
  z4 := Tryd.sizeOf4
  v4 := Tryd.zeroValue4
  t5 := Tryd.underlying5
  a5 := Tryd.isAgg5
  z5 := Tryd.sizeOf5
  v5 := Tryd.zeroValue5
  t9 := Tryd.underlying9
  a9 := Tryd.isAgg9
  z9 := Tryd.sizeOf9
  v9 := Tryd.zeroValue9
  t21 := Tryd.underlying21
  a21 := Tryd.isAgg21
  z21 := Tryd.sizeOf21
  v21 := Tryd.zeroValue21
  t31 := Tryd.underlying22
  a31 := Tryd.isAgg22
  z31 := Tryd.sizeOf22
  v31 := Tryd.zeroValue22
  t46 := Tryd.underlying86
  a46 := Tryd.isAgg86
  z46 := Tryd.sizeOf86
  v46 := Tryd.zeroValue86
  t51 := Tryd.underlying100
  a51 := Tryd.isAgg100
  z51 := Tryd.sizeOf100
  v51 := Tryd.zeroValue100
  t105 := Tryd.underlying81
  a105 := Tryd.isAgg81
  z105 := Tryd.sizeOf81
  v105 := Tryd.zeroValue81
  t119 := Tryd.underlying96
  a119 := Tryd.isAgg96
  z119 := Tryd.sizeOf96
  t138 := Tryd.underlying98
  a138 := Tryd.isAgg98
  z138 := Tryd.sizeOf98
  v138 := Tryd.zeroValue98
  t139 := Tryd.underlying99
  a139 := Tryd.isAgg99
  z139 := Tryd.sizeOf99
  v139 := Tryd.zeroValue99
  t146 := Tryd.underlying101
  a146 := Tryd.isAgg101
  z146 := Tryd.sizeOf101
  v146 := Tryd.zeroValue101
  g1 := by kernel_rfl
  g3 := by kernel_rfl
  g4 := by kernel_rfl
  i0 := by kernel_rfl
  i3 := by kernel_rfl
  i4 := by kernel_rfl
  i5 := by kernel_rfl
  i9 := by kernel_rfl
  i21 := by kernel_rfl
  i31 := by kernel_rfl
  i46 := by kernel_rfl
  i51 := by kernel_rfl
  i105 := by kernel_rfl
  i138 := by kernel_rfl
  i139 := by kernel_rfl
  i146 := by kernel_rfl
  m1 := by kernel_rfl
  s1_3 := fun w h => Go.Proofs.cell_of_shapedOpen_int (zero := #[.int .i64 0]) (t := 3) h (of_decide_eq_true (by kernel_rfl)) (by kernel_rfl) rfl (by kernel_rfl) (by kernel_rfl) Tryd.underlying3
  m3 := by kernel_rfl
  m4 := by kernel_rfl }

def lays316_ren : Go.Shelf.Ren := ⟨fun | 316 => 42 | n => n, fun | 9 => 9 | 3 => 3 | 4 => 4 | 37 => 64 | 0 => 0 | 127 => 67 | 5 => 5 | n => n, fun | n => n⟩

theorem lays316 : Go.Proofs.LaysM.n316 Tryd.prog lays316_ren := {
  mixed := by kernel_rfl
  f316 := Tryd.func42.trans (congrArg some (by kernel_rfl))
  t0 := Tryd.underlying0
  a0 := Tryd.isAgg0
  z0 := Tryd.sizeOf0
  v0 := Tryd.zeroValue0
  t3 := Tryd.underlying3
  a3 := Tryd.isAgg3
  z3 := Tryd.sizeOf3
  v3 := Tryd.zeroValue3
  t4 := Tryd.underlying4
  a4 := Tryd.isAgg4
  z4 := Tryd.sizeOf4
  v4 := Tryd.zeroValue4
  t9 := Tryd.underlying9
  a9 := Tryd.isAgg9
  z9 := Tryd.sizeOf9
  v9 := Tryd.zeroValue9
  t37 := Tryd.underlying64
  a37 := Tryd.isAgg64
  z37 := Tryd.sizeOf64
  v37 := Tryd.zeroValue64
  t127 := Tryd.underlying67
  a127 := Tryd.isAgg67
  z127 := Tryd.sizeOf67
  v127 := Tryd.zeroValue67
  t5 := Tryd.underlying5
  a5 := Tryd.isAgg5
  z5 := Tryd.sizeOf5
  v5 := Tryd.zeroValue5
  i0 := by kernel_rfl
  i3 := by kernel_rfl
  i4 := by kernel_rfl
  i5 := by kernel_rfl
  i9 := by kernel_rfl
  i37 := by kernel_rfl
  i127 := by kernel_rfl }

/-- The variable that Split asks holds some number. -/
def mxl (w : World) : Prop := 0 < w.heap.size ∧ ∃ m, w.cell? ⟨0, 0, none⟩ = some (.int .i64 m)
theorem mxl.below {w w' : World} (h : mxl w) (hb : Below w.heap.size w w') : mxl w' := by
  obtain ⟨hl, m, hm⟩ := h
  exact ⟨Nat.lt_of_lt_of_le hl hb.size, m, (cell_below hb hl).trans hm⟩
theorem mxl.of_shaped {w : World} (h : w.ShapedOpen Tryd.prog) : mxl w := by
  obtain ⟨m, hm⟩ := lays146.s1_3 w h
  refine ⟨?_, m, hm⟩
  rcases Nat.lt_or_ge 0 w.heap.size with h1 | h1
  · exact h1
  · have e : w.cell? ⟨0, 0, none⟩ = none := by simp [World.cell?, Array.getElem?_eq_none h1]
    exact absurd (e.symm.trans hm) (by simp)
/-- The words of a text. -/
def wordsB (s : ByteArray) : List ByteArray := Lib.splitB blank 0 (Lib.countB s blank) s
theorem wordsB_data (s : ByteArray) : (wordsB s).map (·.data.toList) = wsplit s.data.toList := splitB_w _ s rfl
theorem data_inj {a b : ByteArray} (h : a.data.toList = b.data.toList) : a = b := by cases a; cases b; simp at h; rw [h]
theorem map_data_inj {xs ys : List ByteArray} (h : xs.map (·.data.toList) = ys.map (·.data.toList)) : xs = ys := by
  induction xs generalizing ys with
  | nil => cases ys with | nil => rfl | cons y l => simp at h
  | cons x xs ih =>
    cases ys with
    | nil => simp at h
    | cons y ys =>
      simp only [List.map_cons, List.cons.injEq] at h
      rw [data_inj h.1, ih h.2]
theorem wsplit_len (l : List UInt8) : ∀ x ∈ wsplit l, x.length ≤ l.length := by
  induction l with
  | nil => simp [wsplit]
  | cons c l ih =>
    intro x hx
    by_cases hc : c = 32
    · subst hc
      rw [wsplit_blank] at hx
      rcases List.mem_cons.1 hx with rfl | hx
      · simp
      · have := ih x hx; simp; omega
    · rw [wsplit_other hc] at hx
      cases e : wsplit l with
      | nil => exact absurd e (wsplit_ne l)
      | cons h t =>
        rw [e, glue] at hx
        rw [e] at ih
        rcases List.mem_cons.1 hx with rfl | hx
        · have := ih h (by simp); simp; omega
        · have := ih x (by simp [hx]); simp; omega
theorem wordsB_len (s : ByteArray) (j : Nat) (x : ByteArray) (h : (wordsB s)[j]? = some x) : x.size ≤ s.size := by
  have h1 : x.data.toList ∈ wsplit s.data.toList := by
    rw [← wordsB_data]
    exact List.mem_map.2 ⟨x, List.mem_of_getElem? h, rfl⟩
  have := wsplit_len _ _ h1
  rw [Lib.size_eq, Lib.size_eq]
  exact this

/-- A list of its own that holds the words. -/
def WordsAns (s : ByteArray) (w : World) (e : Ending) (w' : World) : Prop :=
  ∃ g m c, e = .returned (.slice (some ⟨g, 0, none⟩) m c) ∧ TxRow w' (some ⟨g, 0, none⟩) m c (wordsB s) ∧ w.heap.size ≤ g ∧ Below w.heap.size w w'

set_option maxHeartbeats 400000 in
theorem clone_any (s : ByteArray) (w : World) (hs : s.size ≤ 8000) :
    Calls Tryd.prog 25 #[.string s] w fun e w' => e = .returned (.string s) ∧ Below w.heap.size w w' := by
  have HC : Hid (Calls Tryd.prog 42 #[.string s] w fun e w' => e = .returned (.string s) ∧ Below w.heap.size w w') := Any.stringslite_Clone lays316 s w (by omega)
  clear hs
  go_enter Tryd.func25, Tryd.ntmps25
  go_wp2_with fail
  refine HC.out.mono ?_
  rintro e w1 ⟨rfl, hb⟩
  go_wp2_with fail
  go_ret
  exact ⟨rfl, hb⟩

theorem wordsB_length (s : ByteArray) : (wordsB s).length = Lib.countB s blank + 1 := Lib.splitB_all blank (by decide) 0 _ s rfl

set_option maxHeartbeats 400000 in
theorem unworded_any (s : ByteArray) (w : World) (hs : s.size ≤ 8000) (hm : mxl w) :
    Calls Tryd.prog 13 #[.string s] w (WordsAns s w) := by
  have HM := hidK hm
  clear hm
  go_enter Tryd.func13, Tryd.ntmps13
  go_wp2_with fail
  refine (clone_any s w hs).mono ?_
  rintro e w1 ⟨rfl, hb⟩
  obtain ⟨-, m, hm⟩ := HM.out.below hb
  have HS := hidK (Any.strings_Split { lays146 with } lays146.i9 s blank m w1 (by omega) hm (by decide))
  clear hm
  go_wp2_with fail
  refine HS.out.mono ?_
  rintro e w2 ⟨rfl, rfl⟩
  have hcl := Lib.countB_le blank (by decide) s.size s (Nat.le_refl _)
  go_wp2_with fail
  go_ret
  have hg : (w1.alloc (.cells ((Lib.splitB blank 0 (Lib.countB s blank) s).map Value.string).toArray 9)).heap[w1.heap.size]? = some (.cells ((wordsB s).map Value.string).toArray 9 (0, 0)) := Array.getElem?_push_size
  refine ⟨w1.heap.size, _, _, rfl, ?_, hb.size, hb.trans ((below1 _ _).mono hb.size)⟩
  refine ⟨wordsB_length s, Nat.le_refl _, by omega, fun j x hx => Nat.le_trans (wordsB_len s j x hx) (by omega), .inr ⟨w1.heap.size, 0, rfl, by simp, fun j x hx => ?_⟩⟩
  exact (cellK hg (0 + j)).trans (by simp [hx])

theorem infoStrS : (Tryd.prog.info? 9).map (fun i => (i.zero, i.size, i.bytes)) = some (some (.string ⟨#[]⟩), 1, 16) := by kernel_rfl

theorem laid_one (w : World) (v : Value) (T : TypeId) : (w.alloc (.cells #[v] T)).cell? ⟨w.heap.size, 0 + 0, none⟩ = some v := by
  have e : (w.alloc (.cells #[v] T)).heap[w.heap.size]? = some (.cells #[v] T (0, 0)) := Array.getElem?_push_size
  exact cellK e 0
/-- The invariant of the specification's way: what is cut off, what is under way, what is to come. -/
def SpInv (s : ByteArray) (p k : Nat) (outs : List ByteArray) : Prop := outs.map (·.data.toList) ++ glue (s.extract p k).data.toList (wsplit (s.data.toList.drop k)) = wsplit s.data.toList
theorem drop_at {s : ByteArray} {k : Nat} (hk : k < s.size) : s.data.toList.drop k = s[k]'hk :: s.data.toList.drop (k + 1) := by
  have hl : k < s.data.toList.length := by rw [← Lib.size_eq]; exact hk
  rw [List.drop_eq_getElem_cons hl]
  rfl
theorem ext_self (s : ByteArray) (k : Nat) : (s.extract k k).data.toList = [] := by
  rw [Lib.extract_data]; simp
theorem ext_step {s : ByteArray} {p k : Nat} (hp : p ≤ k) (hk : k < s.size) : (s.extract p (k + 1)).data.toList = (s.extract p k).data.toList ++ [s[k]'hk] := by
  have hl : k < s.data.toList.length := by rw [← Lib.size_eq]; exact hk
  rw [Lib.extract_data, Lib.extract_data]
  have e : k + 1 - p = (k - p) + 1 := by omega
  rw [e, List.take_add_one]
  congr 1
  rw [List.getElem?_drop]
  have e2 : p + (k - p) = k := by omega
  rw [e2, List.getElem?_eq_getElem hl]
  rfl
theorem SpInv.start (s : ByteArray) : SpInv s 0 0 [] := by
  unfold SpInv
  rw [ext_self, List.drop_zero, glue_nil (wsplit_ne _)]
  rfl
theorem SpInv.blank {s : ByteArray} {p k : Nat} {outs : List ByteArray} (h : SpInv s p k outs) (hk : k < s.size) (hb : s[k]'hk = 32) : SpInv s (k + 1) (k + 1) (outs ++ [s.extract p k]) := by
  unfold SpInv at h ⊢
  rw [drop_at hk, hb, wsplit_blank] at h
  rw [ext_self, glue_nil (wsplit_ne _), ← h]
  simp [glue]
theorem SpInv.other {s : ByteArray} {p k : Nat} {outs : List ByteArray} (h : SpInv s p k outs) (hp : p ≤ k) (hk : k < s.size) (hb : ¬ s[k]'hk = 32) : SpInv s p (k + 1) outs := by
  unfold SpInv at h ⊢
  rw [drop_at hk, wsplit_other hb, glue_glue] at h
  rw [ext_step hp hk]
  exact h
theorem SpInv.done {s : ByteArray} {p : Nat} {outs : List ByteArray} (h : SpInv s p s.size outs) : outs ++ [s.extract p s.size] = wordsB s := by
  apply map_data_inj
  unfold SpInv at h
  rw [wordsB_data, ← h, List.drop_eq_nil_of_le (by rw [← Lib.size_eq]; omega)]
  simp [wsplit, glue]
theorem own_row {w : World} {base n : Nat} {e : TypeId} {v : Value} {xs : List ByteArray} (h : w.ownsRow base e 1 v n (xs.map Value.string)) (h0 : 0 < n) (hs : ∀ (j : Nat) x, xs[j]? = some x → x.size ≤ 9223372036854775807) :
    ∃ g cap, v = .slice (some ⟨g, 0, none⟩) n cap ∧ base ≤ g ∧ TxRow w (some ⟨g, 0, none⟩) n cap xs := by
  obtain ⟨hl, h⟩ := h
  rcases h with ⟨_, h1⟩ | ⟨g, cap, cur, rfl, hb, hg, hnc, hcm, hsz, htk⟩
  · omega
  · have hlt : g < w.heap.size := by
      rcases Nat.lt_or_ge g w.heap.size with h1 | h1
      · exact h1
      · rw [Array.getElem?_eq_none h1] at hg; cases hg
    refine ⟨g, cap, rfl, hb, by simpa using hl, hnc, by unfold maxLen at hcm; omega, hs, .inr ⟨g, 0, rfl, hlt, fun j x hx => ?_⟩⟩
    rw [Nat.zero_add, cellK hg]
    have hj : j < n := by
      have := (List.getElem?_eq_some_iff.1 hx).1
      simp at hl; omega
    have e1 : (cur.toList.take (n * 1))[j]? = some (.string x) := by rw [htk]; simp [hx]
    rw [List.getElem?_take, if_pos (by omega)] at e1
    simpa using e1

set_option maxHeartbeats 3200000 in
theorem ssplit_any (s : ByteArray) (w : World) (hs : s.size ≤ 8000) :
    Calls Tryd.prog 9 #[.string s, .int .u8 32] w (WordsAns s w) := by
  obtain ⟨i0, hi, hz0, hz1, hz2⟩ := info_parts infoStrS
  go_enter Tryd.func9, Tryd.ntmps9
  go_wp2
  go_loopw [5, 6, 7] (fun o f i wr => ∃ (k p : Nat) (outs : List ByteArray), p ≤ k ∧ k ≤ s.size ∧ f = .int .i64 p ∧ i = .int .i64 k ∧ outs.length ≤ k ∧ Hid (wr.ownsRow w.heap.size 9 1 o outs.length (outs.map Value.string)) ∧ Hid (SpInv s p k outs) ∧ Hid (Below w.heap.size w wr)) (fun _ _ i _ => s.size - (intOf i).toNat)
  case atStart =>
    refine ⟨0, 0, [], by omega, by omega, rfl, rfl, by simp, ?_, SpInv.start s, below1 _ _⟩
    exact ⟨rfl, .inr ⟨w.heap.size, 0, #[], rfl, Nat.le_refl _, Array.getElem?_push_size, Nat.le_refl _, by unfold maxLen; omega, rfl, rfl⟩⟩
  case round =>
    obtain ⟨k, p, outs, hpk, hk, rfl, rfl, hol, HO, HS, HB⟩ := hrel
    have hBs := HB.out.size
    by_cases hlt : k < s.size
    · by_cases hb : s[k]'hlt = 32
      · have hq : (((s[k]'hlt).toNat : Int) == 32) = true := by rw [hb]; rfl
        go_wp2_with (first | (at_builtin; refine wpList_append_own _ rfl _ _ 22 rfl w.heap.size 9 i0 (.string ⟨#[]⟩) 1 16 Tryd.underlying22 hi hz0 hz1 hz2 rfl (by decide) _ _ _ rfl (HO.out.alloc _) ⟨wr.heap.size, 0, none⟩ 1 1 [.string (s.extract p k)] rfl rfl ?c1 ?c2 ?c3 ?c4 ?c5 ?_))
        case c1 =>
          intro j u hu
          cases j with
          | zero =>
            simp only [List.getElem?_cons_zero, Option.some.injEq] at hu
            subst hu
            rw [Addr.add_lit]
            exact laid_one _ _ _
          | succ j => simp at hu
        case c2 => intro u hu; rw [List.mem_singleton.1 hu]; rfl
        case c3 => unfold maxLen; omega
        case c4 => omega
        case c5 => simp; omega
        rintro v' w3 hown3 hgrow -
        have HO3 : Hid (w3.ownsRow w.heap.size 9 1 v' (outs ++ [s.extract p k]).length ((outs ++ [s.extract p k]).map Value.string)) := by
          show World.ownsRow _ _ _ _ _ _ _
          rw [List.map_append, List.length_append]
          exact hown3
        have HB3 := hidK ((HB.out.trans ((below1 _ _).mono hBs)).grown hgrow (by simp; omega) (fun g hg => (HO.out.lt g hg).1))
        clear hown3 hgrow
        go_wp2
        exact ⟨⟨k + 1, k + 1, outs ++ [s.extract p k], by omega, by omega, by go_num, by go_num, by simp; omega, HO3, HS.out.blank hlt hb, HB3⟩, by simp [intOf]; omega⟩
      · have hq : (((s[k]'hlt).toNat : Int) == 32) = false := by
          rw [beq_eq_false_iff_ne]
          intro e
          exact hb (UInt8.toNat_inj.1 (by simp; omega))
        go_wp2
        exact ⟨⟨k + 1, p, outs, by omega, by omega, rfl, by go_num, by omega, HO, HS.out.other hpk hlt hb, HB⟩, by simp [intOf]; omega⟩
    · obtain rfl : k = s.size := by omega
      go_wp2_with (first | (at_builtin; refine wpList_append_own _ rfl _ _ 22 rfl w.heap.size 9 i0 (.string ⟨#[]⟩) 1 16 Tryd.underlying22 hi hz0 hz1 hz2 rfl (by decide) _ _ _ rfl (HO.out.alloc _) ⟨wr.heap.size, 0, none⟩ 1 1 [.string (s.extract p s.size)] rfl rfl ?c1 ?c2 ?c3 ?c4 ?c5 ?_))
      case c1 =>
        intro j u hu
        cases j with
        | zero =>
          simp only [List.getElem?_cons_zero, Option.some.injEq] at hu
          subst hu
          rw [Addr.add_lit]
          exact laid_one _ _ _
        | succ j => simp at hu
      case c2 => intro u hu; rw [List.mem_singleton.1 hu]; rfl
      case c3 => unfold maxLen; omega
      case c4 => omega
      case c5 => simp; omega
      rintro v' w3 hown3 hgrow -
      have HO3 : Hid (w3.ownsRow w.heap.size 9 1 v' (outs.length + 1) ((wordsB s).map Value.string)) := by
        show World.ownsRow _ _ _ _ _ _ _
        rw [← HS.out.done, List.map_append]
        exact hown3
      have HB3 := hidK ((HB.out.trans ((below1 _ _).mono hBs)).grown hgrow (by simp; omega) (fun g hg => (HO.out.lt g hg).1))
      clear hown3 hgrow
      obtain ⟨g, cp, rfl, hg, hrow⟩ := own_row HO3.out (by omega) (fun j x hx => Nat.le_trans (wordsB_len s j x hx) (by omega))
      have HR := hidK hrow
      clear hrow HO3
      go_wp2
      go_ret
      exact ⟨g, _, cp, rfl, HR.out, hg, HB3.out⟩

end Go.Proofs.YtbpnmhebhmakdaaDoor

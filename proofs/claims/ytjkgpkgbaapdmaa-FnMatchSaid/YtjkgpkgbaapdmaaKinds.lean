/-
  What is right: a node, a class, a volume, a claim, a pod: of the program and of the specification.
-/
import Derived.Test.YtjkgpkgbaapdmaaStrs
namespace Go.Proofs.Ytjkgpkgbaapdmaa
open Go.RowKit

theorem retK {a b : Bool} (h : a = b) : Ending.returned (.bool a) = .returned (.bool b) := by rw [h]
def ZoneOk (s : ByteArray) : Prop := s = ⟨#[]⟩ ∨ NameOk s
def Inn (n a b : Int) : Prop := a ≤ n ∧ n ≤ b

set_option maxHeartbeats 400000 in
theorem kis_any (n a b : Int) (w : World) :
    Calls Try.prog 85 #[.int .i64 n, .int .i64 a, .int .i64 b] w (BoolAns (Inn n a b) w) := by
  go_enter Try.func85, Try.ntmps85
  go_wp2
  all_goals (go_ret; exact ⟨_, rfl, by unfold Inn; simp; omega, rfl⟩)

set_option maxHeartbeats 400000 in
theorem kwithin_any (n a b : Int) (w : World) :
    Calls Try.prog 77 #[.int .i64 n, .int .i64 a, .int .i64 b] w (BoolAns (Inn n a b) w) := by
  go_enter Try.func77, Try.ntmps77
  go_wp2
  all_goals (go_ret; exact ⟨_, rfl, by unfold Inn; simp; omega, rfl⟩)

set_option maxHeartbeats 400000 in
theorem ksize_any (n : Int) (w : World) :
    Calls Try.prog 65 #[.int .i64 n] w (BoolAns (Inn n 1 1048576) w) := by
  go_enter Try.func65, Try.ntmps65
  go_wp2_with (go_at_call 85; refine (kis_any _ _ _ _).mono ?_; rintro e w1 ⟨r, rfl, hr, rfl⟩)
  go_ret
  exact ⟨r, rfl, hr, rfl⟩

theorem hidK {p : Prop} (h : p) : Hid p := h
theorem isE_no {s : ByteArray} (h : ¬ s = ⟨#[]⟩) : s.toList.isEmpty = false := by
  have := tl_no h
  rw [Lib.toList_data] at this ⊢
  cases e : s.data.toList with
  | nil => exact absurd (by cases s; simp at e; rw [e]) h
  | cons a l => rfl
theorem isE_yes : (⟨#[]⟩ : ByteArray).toList.isEmpty = true := by rw [Lib.toList_data]; rfl
/-- A block that was laid last, behind what a callee left: as it was. -/
theorem slotK {w w1 : World} {vs : Array Value} {T : TypeId} (hb : Below (w.alloc (.cells vs T)).heap.size (w.alloc (.cells vs T)) w1) :
    w1.heap[w.heap.size]? = some (.cells vs T (0, 0)) ∧ Below w.heap.size w w1 ∧ w.heap.size < w1.heap.size := by
  have hs : (w.alloc (.cells vs T)).heap.size = w.heap.size + 1 := by simp
  have h1 := hb.size
  refine ⟨?_, ?_, by omega⟩
  · rw [hb.block _ (by omega)]
    show (w.heap.push _)[w.heap.size]? = _
    simp
  · exact ((Below.refl w.heap.size w).alloc (Nat.le_refl _) _).trans (hb.mono (by omega))
theorem slotKd {w w1 : World} {vs : Array Value} {T : TypeId} (hb : Below (w.alloc (.cells vs T)).drew.heap.size (w.alloc (.cells vs T)).drew w1) :
    w1.heap[w.heap.size]? = some (.cells vs T (0, 0)) ∧ Below w.heap.size w w1 ∧ w.heap.size < w1.heap.size := slotK ⟨hb.os, hb.tape, hb.output, hb.size, hb.block⟩
theorem cellK {w : World} {b : Nat} {vs : Array Value} {T : TypeId} {f : Nat × Nat} (h : w.heap[b]? = some (.cells vs T f)) (i : Nat) : w.cell? ⟨b, i, none⟩ = vs[i]? := by simp [World.cell?, h]
theorem below1 (w : World) (o : Obj) : Below w.heap.size w (w.alloc o) := (Below.refl _ _).alloc (Nat.le_refl _) o

set_option maxHeartbeats 400000 in
theorem szone_any (s : ByteArray) (w : World) (hs : s.size ≤ 9223372036854775807) :
    Calls Try.prog 56 #[.string s] w (BoolAns (ZoneOk s) w) := by
  by_cases h0 : s = ⟨#[]⟩
  · subst h0
    go_enter Try.func56, Try.ntmps56
    go_wp2
    go_ret
    exact ⟨_, rfl, by unfold ZoneOk; simp, rfl⟩
  · have hq : s.toList.isEmpty = false := isE_no h0
    go_enter Try.func56, Try.ntmps56
    go_wp2_with (go_at_call 63; refine (sname_any _ _ hs).mono ?_; rintro e w1 ⟨r, rfl, hr, rfl⟩)
    go_ret
    exact ⟨r, rfl, by unfold ZoneOk; simp [h0, hr], rfl⟩

set_option maxHeartbeats 400000 in
theorem izone_any (s : ByteArray) (w : World) (hs : s.size ≤ 9223372036854775807) :
    Calls Try.prog 44 #[.string s] w (BoolAns (ZoneOk s) w) := by
  by_cases h0 : s = ⟨#[]⟩
  · subst h0
    go_enter Try.func44, Try.ntmps44
    go_wp2
    go_ret
    exact ⟨_, rfl, by unfold ZoneOk; simp, rfl⟩
  · have hq : s.toList.isEmpty = false := isE_no h0
    go_enter Try.func44, Try.ntmps44
    go_wp2_with (go_at_call 53; refine (iname_any _ _ hs).mono ?_; rintro e w1 ⟨r, rfl, hr, rfl⟩)
    go_ret
    exact ⟨r, rfl, by unfold ZoneOk; simp [h0, hr], rfl⟩

/-- A node: name, zone, cpu, slots, until, mounts. -/
def NodeOk (n z : ByteArray) (c s u : Int) (zs : List ByteArray) : Prop := NameOk n ∧ NameOk z ∧ Inn c 0 1000000 ∧ Inn s 0 8 ∧ Inn u 0 1000000 ∧ NamesOk zs 8
def nodeV (n z : ByteArray) (c s u : Int) (d : Bool) (a : Option Addr) (len cap : Nat) : Value := .agg #[.string n, .string z, .int .i64 c, .int .i64 s, .int .i64 u, .bool d, .slice a len cap]

/-- A class: name, zone. -/
def ClassOk (n z : ByteArray) : Prop := NameOk n ∧ ZoneOk z

set_option maxHeartbeats 400000 in
theorem sclass_any (n z : ByteArray) (x y : Bool) (w : World) (hn : n.size ≤ 9223372036854775807) (hz : z.size ≤ 9223372036854775807) :
    Calls Try.prog 62 #[.agg #[.string n, .bool x, .bool y, .string z]] w (BoolB (ClassOk n z) w) := by
  go_enter Try.func62, Try.ntmps62
  go_wp2_with fail
  refine (sname_any n _ hn).mono ?_
  rintro e w1 ⟨r, rfl, hr, rfl⟩
  by_cases hq : r = true
  case neg =>
    have HN := hidK (fun h => hq (hr.2 h))
    have hrf : r = false := by simpa using hq
    clear hr
    go_wp2_with fail
    go_ret
    exact ⟨false, rfl, ⟨fun h => (by cases h), fun h => (HN.out (h.1)).elim⟩, below1 _ _⟩
  have h0 := hidK (hr.1 hq)
  subst hq
  clear hr
  go_wp2_with fail
  refine (szone_any z _ hz).mono ?_
  rintro e w1 ⟨r, rfl, hr, rfl⟩
  go_wp2_with fail
  go_ret
  exact ⟨r, rfl, ⟨fun h => ⟨h0.out, hr.1 h⟩, fun h => hr.2 h.2⟩, below1 _ _⟩

set_option maxHeartbeats 400000 in
theorem iclass_any (n z : ByteArray) (x y : Bool) (w : World) (hn : n.size ≤ 9223372036854775807) (hz : z.size ≤ 9223372036854775807) :
    Calls Try.prog 52 #[.agg #[.string n, .bool x, .bool y, .string z]] w (BoolB (ClassOk n z) w) := by
  go_enter Try.func52, Try.ntmps52
  go_wp2_with fail
  refine (iname_any n _ hn).mono ?_
  rintro e w1 ⟨r, rfl, hr, rfl⟩
  by_cases hq : r = true
  case neg =>
    have HN := hidK (fun h => hq (hr.2 h))
    have hrf : r = false := by simpa using hq
    clear hr
    go_wp2_with fail
    go_ret
    exact ⟨false, rfl, ⟨fun h => (by cases h), fun h => (HN.out (h.1)).elim⟩, below1 _ _⟩
  have h0 := hidK (hr.1 hq)
  subst hq
  clear hr
  go_wp2_with fail
  refine (izone_any z _ hz).mono ?_
  rintro e w1 ⟨r, rfl, hr, rfl⟩
  go_wp2_with fail
  go_ret
  exact ⟨r, rfl, ⟨fun h => ⟨h0.out, hr.1 h⟩, fun h => hr.2 h.2⟩, below1 _ _⟩

/-- A claim: name, size, class, volume. -/
def ClaimOk (n : ByteArray) (z : Int) (k v : ByteArray) : Prop := NameOk n ∧ Inn z 1 1048576 ∧ NameOk k ∧ ZoneOk v

set_option maxHeartbeats 400000 in
theorem sclaim_any (n : ByteArray) (z : Int) (k : ByteArray) (x : Bool) (v : ByteArray) (w : World) (hn : n.size ≤ 9223372036854775807) (hk : k.size ≤ 9223372036854775807) (hv : v.size ≤ 9223372036854775807) :
    Calls Try.prog 55 #[.agg #[.string n, .int .i64 z, .string k, .bool x, .string v]] w (BoolB (ClaimOk n z k v) w) := by
  go_enter Try.func55, Try.ntmps55
  go_wp2_with fail
  refine (sname_any n _ hn).mono ?_
  rintro e w1 ⟨r, rfl, hr, rfl⟩
  by_cases hq : r = true
  case neg =>
    have HN := hidK (fun h => hq (hr.2 h))
    have hrf : r = false := by simpa using hq
    clear hr
    go_wp2_with fail
    go_ret
    exact ⟨false, rfl, ⟨fun h => (by cases h), fun h => (HN.out (h.1)).elim⟩, below1 _ _⟩
  have h0 := hidK (hr.1 hq)
  subst hq
  clear hr
  go_wp2_with fail
  refine (ksize_any z _).mono ?_
  rintro e w1 ⟨r, rfl, hr, rfl⟩
  by_cases hq : r = true
  case neg =>
    have HN := hidK (fun h => hq (hr.2 h))
    have hrf : r = false := by simpa using hq
    clear hr
    go_wp2_with fail
    go_ret
    exact ⟨false, rfl, ⟨fun h => (by cases h), fun h => (HN.out (h.2.1)).elim⟩, below1 _ _⟩
  have h1 := hidK (hr.1 hq)
  subst hq
  clear hr
  go_wp2_with fail
  refine (sname_any k _ hk).mono ?_
  rintro e w1 ⟨r, rfl, hr, rfl⟩
  by_cases hq : r = true
  case neg =>
    have HN := hidK (fun h => hq (hr.2 h))
    have hrf : r = false := by simpa using hq
    clear hr
    go_wp2_with fail
    go_ret
    exact ⟨false, rfl, ⟨fun h => (by cases h), fun h => (HN.out (h.2.2.1)).elim⟩, below1 _ _⟩
  have h2 := hidK (hr.1 hq)
  subst hq
  clear hr
  go_wp2_with fail
  refine (szone_any v _ hv).mono ?_
  rintro e w1 ⟨r, rfl, hr, rfl⟩
  go_wp2_with fail
  go_ret
  exact ⟨r, rfl, ⟨fun h => ⟨h0.out, h1.out, h2.out, hr.1 h⟩, fun h => hr.2 h.2.2.2⟩, below1 _ _⟩

set_option maxHeartbeats 400000 in
theorem iclaim_any (n : ByteArray) (z : Int) (k : ByteArray) (x : Bool) (v : ByteArray) (w : World) (hn : n.size ≤ 9223372036854775807) (hk : k.size ≤ 9223372036854775807) (hv : v.size ≤ 9223372036854775807) :
    Calls Try.prog 43 #[.agg #[.string n, .int .i64 z, .string k, .bool x, .string v]] w (BoolB (ClaimOk n z k v) w) := by
  go_enter Try.func43, Try.ntmps43
  go_wp2_with fail
  refine (iname_any n _ hn).mono ?_
  rintro e w1 ⟨r, rfl, hr, rfl⟩
  by_cases hq : r = true
  case neg =>
    have HN := hidK (fun h => hq (hr.2 h))
    have hrf : r = false := by simpa using hq
    clear hr
    go_wp2_with fail
    go_ret
    exact ⟨false, rfl, ⟨fun h => (by cases h), fun h => (HN.out (h.1)).elim⟩, below1 _ _⟩
  have h0 := hidK (hr.1 hq)
  subst hq
  clear hr
  go_wp2_with fail
  refine (kwithin_any z 1 1048576 _).mono ?_
  rintro e w1 ⟨r, rfl, hr, rfl⟩
  by_cases hq : r = true
  case neg =>
    have HN := hidK (fun h => hq (hr.2 h))
    have hrf : r = false := by simpa using hq
    clear hr
    go_wp2_with fail
    go_ret
    exact ⟨false, rfl, ⟨fun h => (by cases h), fun h => (HN.out (h.2.1)).elim⟩, below1 _ _⟩
  have h1 := hidK (hr.1 hq)
  subst hq
  clear hr
  go_wp2_with fail
  refine (iname_any k _ hk).mono ?_
  rintro e w1 ⟨r, rfl, hr, rfl⟩
  by_cases hq : r = true
  case neg =>
    have HN := hidK (fun h => hq (hr.2 h))
    have hrf : r = false := by simpa using hq
    clear hr
    go_wp2_with fail
    go_ret
    exact ⟨false, rfl, ⟨fun h => (by cases h), fun h => (HN.out (h.2.2.1)).elim⟩, below1 _ _⟩
  have h2 := hidK (hr.1 hq)
  subst hq
  clear hr
  go_wp2_with fail
  refine (izone_any v _ hv).mono ?_
  rintro e w1 ⟨r, rfl, hr, rfl⟩
  go_wp2_with fail
  go_ret
  exact ⟨r, rfl, ⟨fun h => ⟨h0.out, h1.out, h2.out, hr.1 h⟩, fun h => hr.2 h.2.2.2⟩, below1 _ _⟩

/-- A pod: name, cpu, zone, claims, node, phase. -/
def SuitsOk (d : ByteArray) (p : Int) : Prop := (p = 0 ∧ d = ⟨#[]⟩) ∨ ((p = 1 ∨ p = 2) ∧ NameOk d)
def PodOk (n : ByteArray) (c : Int) (z : ByteArray) (zs : List ByteArray) (d : ByteArray) (p : Int) : Prop := NameOk n ∧ Inn c 0 1000000 ∧ ZoneOk z ∧ NamesOk zs 3 ∧ SuitsOk d p
theorem suits_pend (d : ByteArray) : SuitsOk d 0 ↔ d = ⟨#[]⟩ := by unfold SuitsOk; simp
theorem suits_on {p : Int} (d : ByteArray) (h : p = 1 ∨ p = 2) : SuitsOk d p ↔ NameOk d := by
  unfold SuitsOk
  constructor
  · rintro (⟨h1, _⟩ | ⟨_, h1⟩)
    · omega
    · exact h1
  · exact fun h1 => Or.inr ⟨h, h1⟩
theorem suits_no {p : Int} {d : ByteArray} (h : p < 0 ∨ 2 < p) : ¬ SuitsOk d p := by
  unfold SuitsOk
  rintro (⟨h1, _⟩ | ⟨h1, _⟩) <;> omega
theorem isE_iff (s : ByteArray) : s.toList.isEmpty = true ↔ s = ⟨#[]⟩ := by
  constructor
  · intro h
    by_cases h0 : s = ⟨#[]⟩
    · exact h0
    · rw [isE_no h0] at h; cases h
  · rintro rfl
    exact isE_yes

/-- A volume: name, size, zone, class, single, claim, spent, on. -/
def VolOk (n : ByteArray) (c : Int) (z k : ByteArray) (x : Bool) (m : ByteArray) (y : Bool) (zs : List ByteArray) : Prop :=
  NameOk n ∧ Inn c 1 1048576 ∧ NameOk z ∧ NameOk k ∧ ZoneOk m ∧ (y = true → m = ⟨#[]⟩) ∧ NamesOk zs (if x = true then 1 else 6)

set_option maxHeartbeats 400000 in
theorem mostOn_any (n : ByteArray) (c : Int) (z k : ByteArray) (x : Bool) (m : ByteArray) (y : Bool) (a : Option Addr) (len cap : Nat) (w : World) :
    Calls Try.prog 84 #[.agg #[.string n, .int .i64 c, .string z, .string k, .bool x, .string m, .bool y, .slice a len cap]] w fun e w' => e = .returned (.int .i64 (if x = true then 1 else 6)) ∧ Below w.heap.size w w' := by
  cases x
  all_goals (
    go_enter Try.func84, Try.ntmps84
    go_wp2
    go_ret
    exact ⟨rfl, below1 _ _⟩)

theorem names_six {zs : List ByteArray} {x : Bool} (h : NamesOk zs (if x = true then 1 else 6)) : NamesOk zs 6 := by
  refine ⟨?_, h.2⟩
  have := h.1
  split at this <;> omega

set_option maxHeartbeats 3200000 in
theorem svol_any (n : ByteArray) (c : Int) (z k : ByteArray) (x : Bool) (m : ByteArray) (y : Bool) (a : Option Addr) (len cap : Nat) (zs : List ByteArray) (w : World) (hn : n.size ≤ 9223372036854775807) (hz : z.size ≤ 9223372036854775807) (hk : k.size ≤ 9223372036854775807) (hm : m.size ≤ 9223372036854775807) (hr : TxRow w a len cap zs) :
    Calls Try.prog 21 #[.agg #[.string n, .int .i64 c, .string z, .string k, .bool x, .string m, .bool y, .slice a len cap]] w (BoolB (VolOk n c z k x m y zs) w) := by
  have HR : Hid (TxRow w a len cap zs) := hr
  have hzl : zs.length = len := hr.1
  have hlc : len ≤ 9223372036854775807 := Nat.le_trans hr.2.1 hr.2.2.1
  clear hr
  cases y
  · have HY : Hid (false = true → m = ⟨#[]⟩) := fun h => (by cases h)
    go_enter Try.func21, Try.ntmps21
    go_wp2_with fail
    refine (sname_any n _ hn).mono ?_
    rintro e w1 ⟨r, rfl, hr, rfl⟩
    by_cases hq : r = true
    case neg =>
      have HN := hidK (fun h => hq (hr.2 h))
      have hrf : r = false := by simpa using hq
      clear hr
      go_wp2_with fail
      go_ret
      exact ⟨false, rfl, ⟨fun h => (by cases h), fun h => (HN.out (h.1)).elim⟩, below1 _ _⟩
    have h0 := hidK (hr.1 hq)
    subst hq
    clear hr
    go_wp2_with fail
    refine (ksize_any c _).mono ?_
    rintro e w1 ⟨r, rfl, hr, rfl⟩
    by_cases hq : r = true
    case neg =>
      have HN := hidK (fun h => hq (hr.2 h))
      have hrf : r = false := by simpa using hq
      clear hr
      go_wp2_with fail
      go_ret
      exact ⟨false, rfl, ⟨fun h => (by cases h), fun h => (HN.out (h.2.1)).elim⟩, below1 _ _⟩
    have h1 := hidK (hr.1 hq)
    subst hq
    clear hr
    go_wp2_with fail
    refine (sname_any z _ hz).mono ?_
    rintro e w1 ⟨r, rfl, hr, rfl⟩
    by_cases hq : r = true
    case neg =>
      have HN := hidK (fun h => hq (hr.2 h))
      have hrf : r = false := by simpa using hq
      clear hr
      go_wp2_with fail
      go_ret
      exact ⟨false, rfl, ⟨fun h => (by cases h), fun h => (HN.out (h.2.2.1)).elim⟩, below1 _ _⟩
    have h2 := hidK (hr.1 hq)
    subst hq
    clear hr
    go_wp2_with fail
    refine (sname_any k _ hk).mono ?_
    rintro e w1 ⟨r, rfl, hr, rfl⟩
    by_cases hq : r = true
    case neg =>
      have HN := hidK (fun h => hq (hr.2 h))
      have hrf : r = false := by simpa using hq
      clear hr
      go_wp2_with fail
      go_ret
      exact ⟨false, rfl, ⟨fun h => (by cases h), fun h => (HN.out (h.2.2.2.1)).elim⟩, below1 _ _⟩
    have h3 := hidK (hr.1 hq)
    subst hq
    clear hr
    go_wp2_with fail
    refine (szone_any _ _ hm).mono ?_
    rintro e w1 ⟨r, rfl, hr, rfl⟩
    by_cases hq : r = true
    case neg =>
      have HN := hidK (fun h => hq (hr.2 h))
      have hrf : r = false := by simpa using hq
      clear hr
      go_wp2_with fail
      go_ret
      exact ⟨false, rfl, ⟨fun h => (by cases h), fun h => (HN.out (h.2.2.2.2.1)).elim⟩, below1 _ _⟩
    have h4 := hidK (hr.1 hq)
    subst hq
    clear hr
    go_wp2_with fail
    refine (snames_any a len cap zs 6 _ (HR.out.below (below1 _ _))).mono ?_
    rintro e w1 ⟨r, rfl, hr, hb⟩
    obtain ⟨hsl, hb1, -⟩ := slotK hb
    have HB : Hid (Below w.heap.size w w1) := hb1
    by_cases hq : r = true
    case neg =>
      have HN := hidK (fun h => hq (hr.2 h))
      have hrf : r = false := by simpa using hq
      clear hsl hb hb1 hr
      go_wp2_with fail
      go_ret
      exact ⟨false, rfl, ⟨fun h => (by cases h), fun h => (HN.out (names_six h.2.2.2.2.2.2)).elim⟩, HB.out⟩
    have h6 := hidK (hr.1 hq)
    subst hq
    have hc4 : w1.cell? ⟨w.heap.size, 4, none⟩ = some (.bool x) := cellK hsl 4
    have hc7 : w1.cell? ⟨w.heap.size, 7, none⟩ = some (.slice a len cap) := cellK hsl 7
    clear hr hsl hb hb1
    cases x
    · go_wp2_with fail
      go_ret
      exact ⟨true, rfl, ⟨fun _ => ⟨h0.out, h1.out, h2.out, h3.out, h4.out, HY.out, by simpa using h6.out⟩, fun _ => rfl⟩, HB.out⟩
    · go_wp2_with fail
      go_ret
      refine ⟨_, rfl, ⟨fun h => ⟨h0.out, h1.out, h2.out, h3.out, h4.out, HY.out, ?_, h6.out.2⟩, fun h => ?_⟩, HB.out⟩
      · simp at h ⊢; omega
      · have := h.2.2.2.2.2.2.1
        simp at this ⊢; omega
  by_cases hm0 : m = ⟨#[]⟩
  · subst hm0
    have HY : Hid True := trivial
    go_enter Try.func21, Try.ntmps21
    go_wp2_with fail
    refine (sname_any n _ hn).mono ?_
    rintro e w1 ⟨r, rfl, hr, rfl⟩
    by_cases hq : r = true
    case neg =>
      have HN := hidK (fun h => hq (hr.2 h))
      have hrf : r = false := by simpa using hq
      clear hr
      go_wp2_with fail
      go_ret
      exact ⟨false, rfl, ⟨fun h => (by cases h), fun h => (HN.out (h.1)).elim⟩, below1 _ _⟩
    have h0 := hidK (hr.1 hq)
    subst hq
    clear hr
    go_wp2_with fail
    refine (ksize_any c _).mono ?_
    rintro e w1 ⟨r, rfl, hr, rfl⟩
    by_cases hq : r = true
    case neg =>
      have HN := hidK (fun h => hq (hr.2 h))
      have hrf : r = false := by simpa using hq
      clear hr
      go_wp2_with fail
      go_ret
      exact ⟨false, rfl, ⟨fun h => (by cases h), fun h => (HN.out (h.2.1)).elim⟩, below1 _ _⟩
    have h1 := hidK (hr.1 hq)
    subst hq
    clear hr
    go_wp2_with fail
    refine (sname_any z _ hz).mono ?_
    rintro e w1 ⟨r, rfl, hr, rfl⟩
    by_cases hq : r = true
    case neg =>
      have HN := hidK (fun h => hq (hr.2 h))
      have hrf : r = false := by simpa using hq
      clear hr
      go_wp2_with fail
      go_ret
      exact ⟨false, rfl, ⟨fun h => (by cases h), fun h => (HN.out (h.2.2.1)).elim⟩, below1 _ _⟩
    have h2 := hidK (hr.1 hq)
    subst hq
    clear hr
    go_wp2_with fail
    refine (sname_any k _ hk).mono ?_
    rintro e w1 ⟨r, rfl, hr, rfl⟩
    by_cases hq : r = true
    case neg =>
      have HN := hidK (fun h => hq (hr.2 h))
      have hrf : r = false := by simpa using hq
      clear hr
      go_wp2_with fail
      go_ret
      exact ⟨false, rfl, ⟨fun h => (by cases h), fun h => (HN.out (h.2.2.2.1)).elim⟩, below1 _ _⟩
    have h3 := hidK (hr.1 hq)
    subst hq
    clear hr
    go_wp2_with fail
    refine (szone_any _ _ hm).mono ?_
    rintro e w1 ⟨r, rfl, hr, rfl⟩
    by_cases hq : r = true
    case neg =>
      have HN := hidK (fun h => hq (hr.2 h))
      have hrf : r = false := by simpa using hq
      clear hr
      go_wp2_with fail
      go_ret
      exact ⟨false, rfl, ⟨fun h => (by cases h), fun h => (HN.out (h.2.2.2.2.1)).elim⟩, below1 _ _⟩
    have h4 := hidK (hr.1 hq)
    subst hq
    clear hr
    go_wp2_with fail
    refine (snames_any a len cap zs 6 _ (HR.out.below (below1 _ _))).mono ?_
    rintro e w1 ⟨r, rfl, hr, hb⟩
    obtain ⟨hsl, hb1, -⟩ := slotK hb
    have HB : Hid (Below w.heap.size w w1) := hb1
    by_cases hq : r = true
    case neg =>
      have HN := hidK (fun h => hq (hr.2 h))
      have hrf : r = false := by simpa using hq
      clear hsl hb hb1 hr
      go_wp2_with fail
      go_ret
      exact ⟨false, rfl, ⟨fun h => (by cases h), fun h => (HN.out (names_six h.2.2.2.2.2.2)).elim⟩, HB.out⟩
    have h6 := hidK (hr.1 hq)
    subst hq
    have hc4 : w1.cell? ⟨w.heap.size, 4, none⟩ = some (.bool x) := cellK hsl 4
    have hc7 : w1.cell? ⟨w.heap.size, 7, none⟩ = some (.slice a len cap) := cellK hsl 7
    clear hr hsl hb hb1
    cases x
    · go_wp2_with fail
      go_ret
      exact ⟨true, rfl, ⟨fun _ => ⟨h0.out, h1.out, h2.out, h3.out, h4.out, (fun _ => rfl), by simpa using h6.out⟩, fun _ => rfl⟩, HB.out⟩
    · go_wp2_with fail
      go_ret
      refine ⟨_, rfl, ⟨fun h => ⟨h0.out, h1.out, h2.out, h3.out, h4.out, (fun _ => rfl), ?_, h6.out.2⟩, fun h => ?_⟩, HB.out⟩
      · simp at h ⊢; omega
      · have := h.2.2.2.2.2.2.1
        simp at this ⊢; omega
  have hq9 : m.toList.isEmpty = false := isE_no hm0
  go_enter Try.func21, Try.ntmps21
  go_wp2_with fail
  refine (sname_any n _ hn).mono ?_
  rintro e w1 ⟨r, rfl, hr, rfl⟩
  by_cases hq : r = true
  case neg =>
    have HN := hidK (fun h => hq (hr.2 h))
    have hrf : r = false := by simpa using hq
    clear hr
    go_wp2_with fail
    go_ret
    exact ⟨false, rfl, ⟨fun h => (by cases h), fun h => (HN.out (h.1)).elim⟩, below1 _ _⟩
  have h0 := hidK (hr.1 hq)
  subst hq
  clear hr
  go_wp2_with fail
  refine (ksize_any c _).mono ?_
  rintro e w1 ⟨r, rfl, hr, rfl⟩
  by_cases hq : r = true
  case neg =>
    have HN := hidK (fun h => hq (hr.2 h))
    have hrf : r = false := by simpa using hq
    clear hr
    go_wp2_with fail
    go_ret
    exact ⟨false, rfl, ⟨fun h => (by cases h), fun h => (HN.out (h.2.1)).elim⟩, below1 _ _⟩
  have h1 := hidK (hr.1 hq)
  subst hq
  clear hr
  go_wp2_with fail
  refine (sname_any z _ hz).mono ?_
  rintro e w1 ⟨r, rfl, hr, rfl⟩
  by_cases hq : r = true
  case neg =>
    have HN := hidK (fun h => hq (hr.2 h))
    have hrf : r = false := by simpa using hq
    clear hr
    go_wp2_with fail
    go_ret
    exact ⟨false, rfl, ⟨fun h => (by cases h), fun h => (HN.out (h.2.2.1)).elim⟩, below1 _ _⟩
  have h2 := hidK (hr.1 hq)
  subst hq
  clear hr
  go_wp2_with fail
  refine (sname_any k _ hk).mono ?_
  rintro e w1 ⟨r, rfl, hr, rfl⟩
  by_cases hq : r = true
  case neg =>
    have HN := hidK (fun h => hq (hr.2 h))
    have hrf : r = false := by simpa using hq
    clear hr
    go_wp2_with fail
    go_ret
    exact ⟨false, rfl, ⟨fun h => (by cases h), fun h => (HN.out (h.2.2.2.1)).elim⟩, below1 _ _⟩
  have h3 := hidK (hr.1 hq)
  subst hq
  clear hr
  go_wp2_with fail
  refine (szone_any _ _ hm).mono ?_
  rintro e w1 ⟨r, rfl, hr, rfl⟩
  by_cases hq : r = true
  case neg =>
    have HN := hidK (fun h => hq (hr.2 h))
    have hrf : r = false := by simpa using hq
    clear hr
    go_wp2_with fail
    go_ret
    exact ⟨false, rfl, ⟨fun h => (by cases h), fun h => (HN.out (h.2.2.2.2.1)).elim⟩, below1 _ _⟩
  have h4 := hidK (hr.1 hq)
  subst hq
  clear hr
  go_wp2
  go_ret
  exact ⟨false, rfl, ⟨fun h => (by cases h), fun h => absurd (h.2.2.2.2.2.1 rfl) hm0⟩, below1 _ _⟩

end Go.Proofs.Ytjkgpkgbaapdmaa

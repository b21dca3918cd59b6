/-
  What is right: a node, a class, a volume, a claim, a pod: of the program and of the specification.
-/
import Derived.Test.YtcljghpfclegmaaGreatDoorStrs
namespace Go.Proofs.YtcljghpfclegmaaGreatDoor
open Go.RowKit

theorem retK {a b : Bool} (h : a = b) : Ending.returned (.bool a) = .returned (.bool b) := by rw [h]
def ZoneOk (s : ByteArray) : Prop := s = ⟨#[]⟩ ∨ NameOk s
def Inn (n a b : Int) : Prop := a ≤ n ∧ n ≤ b

set_option maxHeartbeats 400000 in
theorem kis_any (n a b : Int) (w : World) :
    Calls Tryz.prog 139 #[.int .i64 n, .int .i64 a, .int .i64 b] w (BoolAns (Inn n a b) w) := by
  go_enter Tryz.func139, Tryz.ntmps139
  go_wp2
  all_goals (go_ret; exact ⟨_, rfl, by unfold Inn; simp; omega, rfl⟩)

set_option maxHeartbeats 400000 in
theorem kwithin_any (n a b : Int) (w : World) :
    Calls Tryz.prog 65 #[.int .i64 n, .int .i64 a, .int .i64 b] w (BoolAns (Inn n a b) w) := by
  go_enter Tryz.func65, Tryz.ntmps65
  go_wp2
  all_goals (go_ret; exact ⟨_, rfl, by unfold Inn; simp; omega, rfl⟩)

set_option maxHeartbeats 400000 in
theorem kcpu_any (n : Int) (w : World) :
    Calls Tryz.prog 162 #[.int .i64 n] w (BoolAns (Inn n 0 1000000) w) := by
  go_enter Tryz.func162, Tryz.ntmps162
  go_wp2_with (go_at_call 139; refine (kis_any _ _ _ _).mono ?_; rintro e w1 ⟨r, rfl, hr, rfl⟩)
  go_ret
  exact ⟨r, rfl, hr, rfl⟩

set_option maxHeartbeats 400000 in
theorem ksize_any (n : Int) (w : World) :
    Calls Tryz.prog 185 #[.int .i64 n] w (BoolAns (Inn n 1 1048576) w) := by
  go_enter Tryz.func185, Tryz.ntmps185
  go_wp2_with (go_at_call 139; refine (kis_any _ _ _ _).mono ?_; rintro e w1 ⟨r, rfl, hr, rfl⟩)
  go_ret
  exact ⟨r, rfl, hr, rfl⟩

set_option maxHeartbeats 400000 in
theorem ktime_any (n : Int) (w : World) :
    Calls Tryz.prog 54 #[.int .i64 n] w (BoolAns (Inn n 0 1000000) w) := by
  go_enter Tryz.func54, Tryz.ntmps54
  go_wp2_with (go_at_call 139; refine (kis_any _ _ _ _).mono ?_; rintro e w1 ⟨r, rfl, hr, rfl⟩)
  go_ret
  exact ⟨r, rfl, hr, rfl⟩

theorem hidK {p : Prop} (h : p) : Hid p := h
theorem isE_no {s : ByteArray} (h : ¬ s = ⟨#[]⟩) : s.toList.isEmpty = false := by
  have := tl_no h
  rw [Lib.toList_data] at this ⊢
  cases e : s.data.toList with
  | nil => exact absurd (by cases s; simp at e; rw [e]) h
  | cons a l => rfl
theorem isE_yes : (⟨#[]⟩ : ByteArray).toList.isEmpty = true := by rw [Lib.toList_data]; rfl
/-- A block that was laid last, behind what a callee left: as it was. -/
theorem slotK {w w1 : World} {vs : Array Value} {T : TypeId} (hb : Below (w.alloc (.cells vs T)).heap.size (w.alloc (.cells vs T)) w1) :
    w1.heap[w.heap.size]? = some (.cells vs T (0, 0)) ∧ Below w.heap.size w w1 ∧ w.heap.size < w1.heap.size := by
  have hs : (w.alloc (.cells vs T)).heap.size = w.heap.size + 1 := by simp
  have h1 := hb.size
  refine ⟨?_, ?_, by omega⟩
  · rw [hb.block _ (by omega)]
    show (w.heap.push _)[w.heap.size]? = _
    simp
  · exact ((Below.refl w.heap.size w).alloc (Nat.le_refl _) _).trans (hb.mono (by omega))
theorem slotKd {w w1 : World} {vs : Array Value} {T : TypeId} (hb : Below (w.alloc (.cells vs T)).drew.heap.size (w.alloc (.cells vs T)).drew w1) :
    w1.heap[w.heap.size]? = some (.cells vs T (0, 0)) ∧ Below w.heap.size w w1 ∧ w.heap.size < w1.heap.size := slotK ⟨hb.os, hb.tape, hb.output, hb.size, hb.block⟩
theorem cellK {w : World} {b : Nat} {vs : Array Value} {T : TypeId} {f : Nat × Nat} (h : w.heap[b]? = some (.cells vs T f)) (i : Nat) : w.cell? ⟨b, i, none⟩ = vs[i]? := by simp [World.cell?, h]
theorem below1 (w : World) (o : Obj) : Below w.heap.size w (w.alloc o) := (Below.refl _ _).alloc (Nat.le_refl _) o

set_option maxHeartbeats 400000 in
theorem szone_any (s : ByteArray) (w : World) (hs : s.size ≤ 9223372036854775807) :
    Calls Tryz.prog 180 #[.string s] w (BoolAns (ZoneOk s) w) := by
  by_cases h0 : s = ⟨#[]⟩
  · subst h0
    go_enter Tryz.func180, Tryz.ntmps180
    go_wp2
    go_ret
    exact ⟨_, rfl, by unfold ZoneOk; simp, rfl⟩
  · have hq : s.toList.isEmpty = false := isE_no h0
    go_enter Tryz.func180, Tryz.ntmps180
    go_wp2_with (go_at_call 161; refine (sname_any _ _ hs).mono ?_; rintro e w1 ⟨r, rfl, hr, rfl⟩)
    go_ret
    exact ⟨r, rfl, by unfold ZoneOk; simp [h0, hr], rfl⟩

set_option maxHeartbeats 400000 in
theorem izone_any (s : ByteArray) (w : World) (hs : s.size ≤ 9223372036854775807) :
    Calls Tryz.prog 181 #[.string s] w (BoolAns (ZoneOk s) w) := by
  by_cases h0 : s = ⟨#[]⟩
  · subst h0
    go_enter Tryz.func181, Tryz.ntmps181
    go_wp2
    go_ret
    exact ⟨_, rfl, by unfold ZoneOk; simp, rfl⟩
  · have hq : s.toList.isEmpty = false := isE_no h0
    go_enter Tryz.func181, Tryz.ntmps181
    go_wp2_with (go_at_call 165; refine (iname_any _ _ hs).mono ?_; rintro e w1 ⟨r, rfl, hr, rfl⟩)
    go_ret
    exact ⟨r, rfl, by unfold ZoneOk; simp [h0, hr], rfl⟩

/-- A node: name, zone, cpu, slots, until, mounts. -/
def NodeOk (n z : ByteArray) (c s u : Int) (zs : List ByteArray) : Prop := NameOk n ∧ NameOk z ∧ Inn c 0 1000000 ∧ Inn s 0 8 ∧ Inn u 0 1000000 ∧ NamesOk zs 8
def nodeV (n z : ByteArray) (c s u : Int) (d : Bool) (a : Option Addr) (len cap : Nat) : Value := .agg #[.string n, .string z, .int .i64 c, .int .i64 s, .int .i64 u, .bool d, .slice a len cap]

set_option maxHeartbeats 800000 in
theorem snode_any (n z : ByteArray) (c s u : Int) (d : Bool) (a : Option Addr) (len cap : Nat) (zs : List ByteArray) (w : World) (hn : n.size ≤ 9223372036854775807) (hz : z.size ≤ 9223372036854775807) (hr : TxRow w a len cap zs) :
    Calls Tryz.prog 77 #[.agg #[.string n, .string z, .int .i64 c, .int .i64 s, .int .i64 u, .bool d, .slice a len cap]] w (BoolB (NodeOk n z c s u zs) w) := by
  have HR : Hid (TxRow w a len cap zs) := hr
  clear hr
  go_enter Tryz.func77, Tryz.ntmps77
  go_wp2_with fail
  refine (sname_any n _ hn).mono ?_
  rintro e w1 ⟨r, rfl, hr, rfl⟩
  by_cases hq : r = true
  case neg =>
    have HN := hidK (fun h => hq (hr.2 h))
    have hrf : r = false := by simpa using hq
    clear hr
    go_wp2_with fail
    go_ret
    exact ⟨false, rfl, ⟨fun h => (by cases h), fun h => (HN.out (h.1)).elim⟩, below1 _ _⟩
  have h0 := hidK (hr.1 hq)
  subst hq
  clear hr
  go_wp2_with fail
  refine (sname_any z _ hz).mono ?_
  rintro e w1 ⟨r, rfl, hr, rfl⟩
  by_cases hq : r = true
  case neg =>
    have HN := hidK (fun h => hq (hr.2 h))
    have hrf : r = false := by simpa using hq
    clear hr
    go_wp2_with fail
    go_ret
    exact ⟨false, rfl, ⟨fun h => (by cases h), fun h => (HN.out (h.2.1)).elim⟩, below1 _ _⟩
  have h1 := hidK (hr.1 hq)
  subst hq
  clear hr
  go_wp2_with fail
  refine (kcpu_any c _).mono ?_
  rintro e w1 ⟨r, rfl, hr, rfl⟩
  by_cases hq : r = true
  case neg =>
    have HN := hidK (fun h => hq (hr.2 h))
    have hrf : r = false := by simpa using hq
    clear hr
    go_wp2_with fail
    go_ret
    exact ⟨false, rfl, ⟨fun h => (by cases h), fun h => (HN.out (h.2.2.1)).elim⟩, below1 _ _⟩
  have h2 := hidK (hr.1 hq)
  subst hq
  clear hr
  go_wp2_with fail
  refine (kis_any s 0 8 _).mono ?_
  rintro e w1 ⟨r, rfl, hr, rfl⟩
  by_cases hq : r = true
  case neg =>
    have HN := hidK (fun h => hq (hr.2 h))
    have hrf : r = false := by simpa using hq
    clear hr
    go_wp2_with fail
    go_ret
    exact ⟨false, rfl, ⟨fun h => (by cases h), fun h => (HN.out (h.2.2.2.1)).elim⟩, below1 _ _⟩
  have h3 := hidK (hr.1 hq)
  subst hq
  clear hr
  go_wp2_with fail
  refine (ktime_any u _).mono ?_
  rintro e w1 ⟨r, rfl, hr, rfl⟩
  by_cases hq : r = true
  case neg =>
    have HN := hidK (fun h => hq (hr.2 h))
    have hrf : r = false := by simpa using hq
    clear hr
    go_wp2_with fail
    go_ret
    exact ⟨false, rfl, ⟨fun h => (by cases h), fun h => (HN.out (h.2.2.2.2.1)).elim⟩, below1 _ _⟩
  have h4 := hidK (hr.1 hq)
  subst hq
  clear hr
  go_wp2_with fail
  refine (snames_any a len cap zs 8 _ (HR.out.below (below1 _ _))).mono ?_
  rintro e w1 ⟨r, rfl, hr, hb⟩
  go_wp2_with fail
  go_ret
  exact ⟨r, rfl, ⟨fun h => ⟨h0.out, h1.out, h2.out, h3.out, h4.out, hr.1 h⟩, fun h => hr.2 h.2.2.2.2.2⟩, (slotK hb).2.1⟩

set_option maxHeartbeats 800000 in
theorem inode_any (n z : ByteArray) (c s u : Int) (d : Bool) (a : Option Addr) (len cap : Nat) (zs : List ByteArray) (w : World) (hn : n.size ≤ 9223372036854775807) (hz : z.size ≤ 9223372036854775807) (hr : TxRow w a len cap zs) :
    Calls Tryz.prog 83 #[.agg #[.string n, .string z, .int .i64 c, .int .i64 s, .int .i64 u, .bool d, .slice a len cap]] w (BoolB (NodeOk n z c s u zs) w) := by
  have HR : Hid (TxRow w a len cap zs) := hr
  clear hr
  go_enter Tryz.func83, Tryz.ntmps83
  go_wp2_with fail
  refine (iname_any n _ hn).mono ?_
  rintro e w1 ⟨r, rfl, hr, rfl⟩
  by_cases hq : r = true
  case neg =>
    have HN := hidK (fun h => hq (hr.2 h))
    have hrf : r = false := by simpa using hq
    clear hr
    go_wp2_with fail
    go_ret
    exact ⟨false, rfl, ⟨fun h => (by cases h), fun h => (HN.out (h.1)).elim⟩, below1 _ _⟩
  have h0 := hidK (hr.1 hq)
  subst hq
  clear hr
  go_wp2_with fail
  refine (iname_any z _ hz).mono ?_
  rintro e w1 ⟨r, rfl, hr, rfl⟩
  by_cases hq : r = true
  case neg =>
    have HN := hidK (fun h => hq (hr.2 h))
    have hrf : r = false := by simpa using hq
    clear hr
    go_wp2_with fail
    go_ret
    exact ⟨false, rfl, ⟨fun h => (by cases h), fun h => (HN.out (h.2.1)).elim⟩, below1 _ _⟩
  have h1 := hidK (hr.1 hq)
  subst hq
  clear hr
  go_wp2_with fail
  refine (kwithin_any c 0 1000000 _).mono ?_
  rintro e w1 ⟨r, rfl, hr, rfl⟩
  by_cases hq : r = true
  case neg =>
    have HN := hidK (fun h => hq (hr.2 h))
    have hrf : r = false := by simpa using hq
    clear hr
    go_wp2_with fail
    go_ret
    exact ⟨false, rfl, ⟨fun h => (by cases h), fun h => (HN.out (h.2.2.1)).elim⟩, below1 _ _⟩
  have h2 := hidK (hr.1 hq)
  subst hq
  clear hr
  go_wp2_with fail
  refine (kwithin_any s 0 8 _).mono ?_
  rintro e w1 ⟨r, rfl, hr, rfl⟩
  by_cases hq : r = true
  case neg =>
    have HN := hidK (fun h => hq (hr.2 h))
    have hrf : r = false := by simpa using hq
    clear hr
    go_wp2_with fail
    go_ret
    exact ⟨false, rfl, ⟨fun h => (by cases h), fun h => (HN.out (h.2.2.2.1)).elim⟩, below1 _ _⟩
  have h3 := hidK (hr.1 hq)
  subst hq
  clear hr
  go_wp2_with fail
  refine (kwithin_any u 0 1000000 _).mono ?_
  rintro e w1 ⟨r, rfl, hr, rfl⟩
  by_cases hq : r = true
  case neg =>
    have HN := hidK (fun h => hq (hr.2 h))
    have hrf : r = false := by simpa using hq
    clear hr
    go_wp2_with fail
    go_ret
    exact ⟨false, rfl, ⟨fun h => (by cases h), fun h => (HN.out (h.2.2.2.2.1)).elim⟩, below1 _ _⟩
  have h4 := hidK (hr.1 hq)
  subst hq
  clear hr
  go_wp2_with fail
  refine (inames_any a len cap zs 8 _ (HR.out.below (below1 _ _))).mono ?_
  rintro e w1 ⟨r, rfl, hr, rfl⟩
  go_wp2_with fail
  go_ret
  exact ⟨r, rfl, ⟨fun h => ⟨h0.out, h1.out, h2.out, h3.out, h4.out, hr.1 h⟩, fun h => hr.2 h.2.2.2.2.2⟩, below1 _ _⟩

/-- A class: name, zone. -/
def ClassOk (n z : ByteArray) : Prop := NameOk n ∧ ZoneOk z

set_option maxHeartbeats 400000 in
theorem sclass_any (n z : ByteArray) (x y : Bool) (w : World) (hn : n.size ≤ 9223372036854775807) (hz : z.size ≤ 9223372036854775807) :
    Calls Tryz.prog 93 #[.agg #[.string n, .bool x, .bool y, .string z]] w (BoolB (ClassOk n z) w) := by
  go_enter Tryz.func93, Tryz.ntmps93
  go_wp2_with fail
  refine (sname_any n _ hn).mono ?_
  rintro e w1 ⟨r, rfl, hr, rfl⟩
  by_cases hq : r = true
  case neg =>
    have HN := hidK (fun h => hq (hr.2 h))
    have hrf : r = false := by simpa using hq
    clear hr
    go_wp2_with fail
    go_ret
    exact ⟨false, rfl, ⟨fun h => (by cases h), fun h => (HN.out (h.1)).elim⟩, below1 _ _⟩
  have h0 := hidK (hr.1 hq)
  subst hq
  clear hr
  go_wp2_with fail
  refine (szone_any z _ hz).mono ?_
  rintro e w1 ⟨r, rfl, hr, rfl⟩
  go_wp2_with fail
  go_ret
  exact ⟨r, rfl, ⟨fun h => ⟨h0.out, hr.1 h⟩, fun h => hr.2 h.2⟩, below1 _ _⟩

set_option maxHeartbeats 400000 in
theorem iclass_any (n z : ByteArray) (x y : Bool) (w : World) (hn : n.size ≤ 9223372036854775807) (hz : z.size ≤ 9223372036854775807) :
    Calls Tryz.prog 95 #[.agg #[.string n, .bool x, .bool y, .string z]] w (BoolB (ClassOk n z) w) := by
  go_enter Tryz.func95, Tryz.ntmps95
  go_wp2_with fail
  refine (iname_any n _ hn).mono ?_
  rintro e w1 ⟨r, rfl, hr, rfl⟩
  by_cases hq : r = true
  case neg =>
    have HN := hidK (fun h => hq (hr.2 h))
    have hrf : r = false := by simpa using hq
    clear hr
    go_wp2_with fail
    go_ret
    exact ⟨false, rfl, ⟨fun h => (by cases h), fun h => (HN.out (h.1)).elim⟩, below1 _ _⟩
  have h0 := hidK (hr.1 hq)
  subst hq
  clear hr
  go_wp2_with fail
  refine (izone_any z _ hz).mono ?_
  rintro e w1 ⟨r, rfl, hr, rfl⟩
  go_wp2_with fail
  go_ret
  exact ⟨r, rfl, ⟨fun h => ⟨h0.out, hr.1 h⟩, fun h => hr.2 h.2⟩, below1 _ _⟩

/-- A claim: name, size, class, volume. -/
def ClaimOk (n : ByteArray) (z : Int) (k v : ByteArray) : Prop := NameOk n ∧ Inn z 1 1048576 ∧ NameOk k ∧ ZoneOk v

set_option maxHeartbeats 400000 in
theorem sclaim_any (n : ByteArray) (z : Int) (k : ByteArray) (x : Bool) (v : ByteArray) (w : World) (hn : n.size ≤ 9223372036854775807) (hk : k.size ≤ 9223372036854775807) (hv : v.size ≤ 9223372036854775807) :
    Calls Tryz.prog 112 #[.agg #[.string n, .int .i64 z, .string k, .bool x, .string v]] w (BoolB (ClaimOk n z k v) w) := by
  go_enter Tryz.func112, Tryz.ntmps112
  go_wp2_with fail
  refine (sname_any n _ hn).mono ?_
  rintro e w1 ⟨r, rfl, hr, rfl⟩
  by_cases hq : r = true
  case neg =>
    have HN := hidK (fun h => hq (hr.2 h))
    have hrf : r = false := by simpa using hq
    clear hr
    go_wp2_with fail
    go_ret
    exact ⟨false, rfl, ⟨fun h => (by cases h), fun h => (HN.out (h.1)).elim⟩, below1 _ _⟩
  have h0 := hidK (hr.1 hq)
  subst hq
  clear hr
  go_wp2_with fail
  refine (ksize_any z _).mono ?_
  rintro e w1 ⟨r, rfl, hr, rfl⟩
  by_cases hq : r = true
  case neg =>
    have HN := hidK (fun h => hq (hr.2 h))
    have hrf : r = false := by simpa using hq
    clear hr
    go_wp2_with fail
    go_ret
    exact ⟨false, rfl, ⟨fun h => (by cases h), fun h => (HN.out (h.2.1)).elim⟩, below1 _ _⟩
  have h1 := hidK (hr.1 hq)
  subst hq
  clear hr
  go_wp2_with fail
  refine (sname_any k _ hk).mono ?_
  rintro e w1 ⟨r, rfl, hr, rfl⟩
  by_cases hq : r = true
  case neg =>
    have HN := hidK (fun h => hq (hr.2 h))
    have hrf : r = false := by simpa using hq
    clear hr
    go_wp2_with fail
    go_ret
    exact ⟨false, rfl, ⟨fun h => (by cases h), fun h => (HN.out (h.2.2.1)).elim⟩, below1 _ _⟩
  have h2 := hidK (hr.1 hq)
  subst hq
  clear hr
  go_wp2_with fail
  refine (szone_any v _ hv).mono ?_
  rintro e w1 ⟨r, rfl, hr, rfl⟩
  go_wp2_with fail
  go_ret
  exact ⟨r, rfl, ⟨fun h => ⟨h0.out, h1.out, h2.out, hr.1 h⟩, fun h => hr.2 h.2.2.2⟩, below1 _ _⟩

set_option maxHeartbeats 400000 in
theorem iclaim_any (n : ByteArray) (z : Int) (k : ByteArray) (x : Bool) (v : ByteArray) (w : World) (hn : n.size ≤ 9223372036854775807) (hk : k.size ≤ 9223372036854775807) (hv : v.size ≤ 9223372036854775807) :
    Calls Tryz.prog 114 #[.agg #[.string n, .int .i64 z, .string k, .bool x, .string v]] w (BoolB (ClaimOk n z k v) w) := by
  go_enter Tryz.func114, Tryz.ntmps114
  go_wp2_with fail
  refine (iname_any n _ hn).mono ?_
  rintro e w1 ⟨r, rfl, hr, rfl⟩
  by_cases hq : r = true
  case neg =>
    have HN := hidK (fun h => hq (hr.2 h))
    have hrf : r = false := by simpa using hq
    clear hr
    go_wp2_with fail
    go_ret
    exact ⟨false, rfl, ⟨fun h => (by cases h), fun h => (HN.out (h.1)).elim⟩, below1 _ _⟩
  have h0 := hidK (hr.1 hq)
  subst hq
  clear hr
  go_wp2_with fail
  refine (kwithin_any z 1 1048576 _).mono ?_
  rintro e w1 ⟨r, rfl, hr, rfl⟩
  by_cases hq : r = true
  case neg =>
    have HN := hidK (fun h => hq (hr.2 h))
    have hrf : r = false := by simpa using hq
    clear hr
    go_wp2_with fail
    go_ret
    exact ⟨false, rfl, ⟨fun h => (by cases h), fun h => (HN.out (h.2.1)).elim⟩, below1 _ _⟩
  have h1 := hidK (hr.1 hq)
  subst hq
  clear hr
  go_wp2_with fail
  refine (iname_any k _ hk).mono ?_
  rintro e w1 ⟨r, rfl, hr, rfl⟩
  by_cases hq : r = true
  case neg =>
    have HN := hidK (fun h => hq (hr.2 h))
    have hrf : r = false := by simpa using hq
    clear hr
    go_wp2_with fail
    go_ret
    exact ⟨false, rfl, ⟨fun h => (by cases h), fun h => (HN.out (h.2.2.1)).elim⟩, below1 _ _⟩
  have h2 := hidK (hr.1 hq)
  subst hq
  clear hr
  go_wp2_with fail
  refine (izone_any v _ hv).mono ?_
  rintro e w1 ⟨r, rfl, hr, rfl⟩
  go_wp2_with fail
  go_ret
  exact ⟨r, rfl, ⟨fun h => ⟨h0.out, h1.out, h2.out, hr.1 h⟩, fun h => hr.2 h.2.2.2⟩, below1 _ _⟩

/-- A pod: name, cpu, zone, claims, node, phase. -/
def SuitsOk (d : ByteArray) (p : Int) : Prop := (p = 0 ∧ d = ⟨#[]⟩) ∨ ((p = 1 ∨ p = 2) ∧ NameOk d)
def PodOk (n : ByteArray) (c : Int) (z : ByteArray) (zs : List ByteArray) (d : ByteArray) (p : Int) : Prop := NameOk n ∧ Inn c 0 1000000 ∧ ZoneOk z ∧ NamesOk zs 3 ∧ SuitsOk d p
theorem suits_pend (d : ByteArray) : SuitsOk d 0 ↔ d = ⟨#[]⟩ := by unfold SuitsOk; simp
theorem suits_on {p : Int} (d : ByteArray) (h : p = 1 ∨ p = 2) : SuitsOk d p ↔ NameOk d := by
  unfold SuitsOk
  constructor
  · rintro (⟨h1, _⟩ | ⟨_, h1⟩)
    · omega
    · exact h1
  · exact fun h1 => Or.inr ⟨h, h1⟩
theorem suits_no {p : Int} {d : ByteArray} (h : p < 0 ∨ 2 < p) : ¬ SuitsOk d p := by
  unfold SuitsOk
  rintro (⟨h1, _⟩ | ⟨h1, _⟩) <;> omega
theorem isE_iff (s : ByteArray) : s.toList.isEmpty = true ↔ s = ⟨#[]⟩ := by
  constructor
  · intro h
    by_cases h0 : s = ⟨#[]⟩
    · exact h0
    · rw [isE_no h0] at h; cases h
  · rintro rfl
    exact isE_yes

set_option maxHeartbeats 800000 in
theorem isuits_any (n : ByteArray) (c : Int) (z : ByteArray) (a : Option Addr) (len cap : Nat) (d : ByteArray) (p : Int) (w : World) (hd : d.size ≤ 9223372036854775807) :
    Calls Tryz.prog 195 #[.agg #[.string n, .int .i64 c, .string z, .slice a len cap, .string d, .int .i64 p]] w (BoolB (SuitsOk d p) w) := by
  by_cases h0 : p = 0
  · subst h0
    go_enter Tryz.func195, Tryz.ntmps195
    go_wp2
    go_ret
    exact ⟨_, rfl, by rw [suits_pend, isE_iff], below1 _ _⟩
  have hq0 : (p == 0) = false := by simp [h0]
  by_cases h1 : p = 1
  · subst h1
    go_enter Tryz.func195, Tryz.ntmps195
    go_wp2_with (go_at_call 165; refine (iname_any _ _ hd).mono ?_; rintro e w1 ⟨r, rfl, hr, rfl⟩)
    go_ret
    exact ⟨r, rfl, by rw [suits_on d (Or.inl rfl), hr], below1 _ _⟩
  have hq1 : (p == 1) = false := by simp [h1]
  by_cases h2 : p = 2
  · subst h2
    go_enter Tryz.func195, Tryz.ntmps195
    go_wp2_with (go_at_call 165; refine (iname_any _ _ hd).mono ?_; rintro e w1 ⟨r, rfl, hr, rfl⟩)
    go_ret
    exact ⟨r, rfl, by rw [suits_on d (Or.inr rfl), hr], below1 _ _⟩
  have hq2 : (p == 2) = false := by simp [h2]
  go_enter Tryz.func195, Tryz.ntmps195
  go_wp2
  go_ret
  exact ⟨false, rfl, ⟨fun h => (by cases h), fun h => absurd h (suits_no (by omega))⟩, below1 _ _⟩

set_option maxHeartbeats 800000 in
theorem ipod_any (n : ByteArray) (c : Int) (z : ByteArray) (a : Option Addr) (len cap : Nat) (zs : List ByteArray) (d : ByteArray) (p : Int) (w : World) (hn : n.size ≤ 9223372036854775807) (hz : z.size ≤ 9223372036854775807) (hd : d.size ≤ 9223372036854775807) (hr : TxRow w a len cap zs) :
    Calls Tryz.prog 119 #[.agg #[.string n, .int .i64 c, .string z, .slice a len cap, .string d, .int .i64 p]] w (BoolB (PodOk n c z zs d p) w) := by
  have HR : Hid (TxRow w a len cap zs) := hr
  clear hr
  go_enter Tryz.func119, Tryz.ntmps119
  go_wp2_with fail
  refine (iname_any n _ hn).mono ?_
  rintro e w1 ⟨r, rfl, hr, rfl⟩
  by_cases hq : r = true
  case neg =>
    have HN := hidK (fun h => hq (hr.2 h))
    have hrf : r = false := by simpa using hq
    clear hr
    go_wp2_with fail
    go_ret
    exact ⟨false, rfl, ⟨fun h => (by cases h), fun h => (HN.out (h.1)).elim⟩, below1 _ _⟩
  have h0 := hidK (hr.1 hq)
  subst hq
  clear hr
  go_wp2_with fail
  refine (kwithin_any c 0 1000000 _).mono ?_
  rintro e w1 ⟨r, rfl, hr, rfl⟩
  by_cases hq : r = true
  case neg =>
    have HN := hidK (fun h => hq (hr.2 h))
    have hrf : r = false := by simpa using hq
    clear hr
    go_wp2_with fail
    go_ret
    exact ⟨false, rfl, ⟨fun h => (by cases h), fun h => (HN.out (h.2.1)).elim⟩, below1 _ _⟩
  have h1 := hidK (hr.1 hq)
  subst hq
  clear hr
  go_wp2_with fail
  refine (izone_any z _ hz).mono ?_
  rintro e w1 ⟨r, rfl, hr, rfl⟩
  by_cases hq : r = true
  case neg =>
    have HN := hidK (fun h => hq (hr.2 h))
    have hrf : r = false := by simpa using hq
    clear hr
    go_wp2_with fail
    go_ret
    exact ⟨false, rfl, ⟨fun h => (by cases h), fun h => (HN.out (h.2.2.1)).elim⟩, below1 _ _⟩
  have h2 := hidK (hr.1 hq)
  subst hq
  clear hr
  go_wp2_with fail
  refine (inames_any a len cap zs 3 _ (HR.out.below (below1 _ _))).mono ?_
  rintro e w1 ⟨r, rfl, hr, rfl⟩
  by_cases hq : r = true
  case neg =>
    have HN := hidK (fun h => hq (hr.2 h))
    have hrf : r = false := by simpa using hq
    clear hr
    go_wp2_with fail
    go_ret
    exact ⟨false, rfl, ⟨fun h => (by cases h), fun h => (HN.out (h.2.2.2.1)).elim⟩, below1 _ _⟩
  have h3 := hidK (hr.1 hq)
  subst hq
  clear hr
  go_wp2_with fail
  refine (isuits_any n c z a len cap d p _ hd).mono ?_
  rintro e w1 ⟨r, rfl, hr, hb⟩
  go_wp2_with fail
  go_ret
  exact ⟨r, rfl, ⟨fun h => ⟨h0.out, h1.out, h2.out, h3.out, hr.1 h⟩, fun h => hr.2 h.2.2.2.2⟩, (slotK hb).2.1⟩

set_option maxHeartbeats 1600000 in
theorem spod_any (n : ByteArray) (c : Int) (z : ByteArray) (a : Option Addr) (len cap : Nat) (zs : List ByteArray) (d : ByteArray) (p : Int) (w : World) (hn : n.size ≤ 9223372036854775807) (hz : z.size ≤ 9223372036854775807) (hd : d.size ≤ 9223372036854775807) (hr : TxRow w a len cap zs) :
    Calls Tryz.prog 117 #[.agg #[.string n, .int .i64 c, .string z, .slice a len cap, .string d, .int .i64 p]] w (BoolB (PodOk n c z zs d p) w) := by
  have HR : Hid (TxRow w a len cap zs) := hr
  clear hr
  go_enter Tryz.func117, Tryz.ntmps117
  go_wp2_with fail
  refine (sname_any n _ hn).mono ?_
  rintro e w1 ⟨r, rfl, hr, rfl⟩
  by_cases hq : r = true
  case neg =>
    have HN := hidK (fun h => hq (hr.2 h))
    have hrf : r = false := by simpa using hq
    clear hr
    go_wp2_with fail
    go_ret
    exact ⟨false, rfl, ⟨fun h => (by cases h), fun h => (HN.out (h.1)).elim⟩, below1 _ _⟩
  have h0 := hidK (hr.1 hq)
  subst hq
  clear hr
  go_wp2_with fail
  refine (kcpu_any c _).mono ?_
  rintro e w1 ⟨r, rfl, hr, rfl⟩
  by_cases hq : r = true
  case neg =>
    have HN := hidK (fun h => hq (hr.2 h))
    have hrf : r = false := by simpa using hq
    clear hr
    go_wp2_with fail
    go_ret
    exact ⟨false, rfl, ⟨fun h => (by cases h), fun h => (HN.out (h.2.1)).elim⟩, below1 _ _⟩
  have h1 := hidK (hr.1 hq)
  subst hq
  clear hr
  go_wp2_with fail
  refine (szone_any z _ hz).mono ?_
  rintro e w1 ⟨r, rfl, hr, rfl⟩
  by_cases hq : r = true
  case neg =>
    have HN := hidK (fun h => hq (hr.2 h))
    have hrf : r = false := by simpa using hq
    clear hr
    go_wp2_with fail
    go_ret
    exact ⟨false, rfl, ⟨fun h => (by cases h), fun h => (HN.out (h.2.2.1)).elim⟩, below1 _ _⟩
  have h2 := hidK (hr.1 hq)
  subst hq
  clear hr
  go_wp2_with fail
  refine (snames_any a len cap zs 3 _ (HR.out.below (below1 _ _))).mono ?_
  rintro e w1 ⟨r, rfl, hr, hb⟩
  obtain ⟨hsl, hb1, -⟩ := slotK hb
  have HB : Hid (Below w.heap.size w w1) := hb1
  by_cases hq : r = true
  case neg =>
    have HN := hidK (fun h => hq (hr.2 h))
    have hrf : r = false := by simpa using hq
    clear hsl hb hb1 hr
    go_wp2_with fail
    go_ret
    exact ⟨false, rfl, ⟨fun h => (by cases h), fun h => (HN.out h.2.2.2.1).elim⟩, HB.out⟩
  have h3 := hidK (hr.1 hq)
  subst hq
  have hc4 : w1.cell? ⟨w.heap.size, 4, none⟩ = some (.string d) := cellK hsl 4
  have hc5 : w1.cell? ⟨w.heap.size, 5, none⟩ = some (.int .i64 p) := cellK hsl 5
  clear hr hsl hb hb1
  go_wp2_with fail
  refine (kis_any p 0 2 _).mono ?_
  rintro e w2 ⟨r, rfl, hr, rfl⟩
  by_cases hq : r = true
  case neg =>
    have HN := hidK (fun h => hq (hr.2 h))
    have hrf : r = false := by simpa using hq
    clear hr
    go_wp2_with fail
    go_ret
    exact ⟨false, rfl, ⟨fun h => (by cases h), fun h => absurd h.2.2.2.2 (suits_no (by have h9 : ¬ (0 ≤ p ∧ p ≤ 2) := HN.out; omega))⟩, HB.out⟩
  have h4 := hr.1 hq
  subst hq
  clear hr
  by_cases hp : p = 0
  · subst hp
    go_wp2_with fail
    go_ret
    exact ⟨_, rfl, ⟨fun h => ⟨h0.out, h1.out, h2.out, h3.out, (suits_pend d).2 ((isE_iff d).1 h)⟩, fun h => (isE_iff d).2 ((suits_pend d).1 h.2.2.2.2)⟩, HB.out⟩
  have hq : (p == 0) = false := by simp [hp]
  have hp2 : p = 1 ∨ p = 2 := by unfold Inn at h4; omega
  go_wp2_with fail
  refine (sname_any d _ hd).mono ?_
  rintro e w2 ⟨r, rfl, hr, rfl⟩
  go_wp2_with fail
  go_ret
  exact ⟨r, rfl, ⟨fun h => ⟨h0.out, h1.out, h2.out, h3.out, (suits_on d hp2).2 (hr.1 h)⟩, fun h => hr.2 ((suits_on d hp2).1 h.2.2.2.2)⟩, HB.out⟩

/-- A volume: name, size, zone, class, single, claim, spent, on. -/
def VolOk (n : ByteArray) (c : Int) (z k : ByteArray) (x : Bool) (m : ByteArray) (y : Bool) (zs : List ByteArray) : Prop :=
  NameOk n ∧ Inn c 1 1048576 ∧ NameOk z ∧ NameOk k ∧ ZoneOk m ∧ (y = true → m = ⟨#[]⟩) ∧ NamesOk zs (if x = true then 1 else 6)

set_option maxHeartbeats 400000 in
theorem mostOn_any (n : ByteArray) (c : Int) (z k : ByteArray) (x : Bool) (m : ByteArray) (y : Bool) (a : Option Addr) (len cap : Nat) (w : World) :
    Calls Tryz.prog 186 #[.agg #[.string n, .int .i64 c, .string z, .string k, .bool x, .string m, .bool y, .slice a len cap]] w fun e w' => e = .returned (.int .i64 (if x = true then 1 else 6)) ∧ Below w.heap.size w w' := by
  cases x
  all_goals (
    go_enter Tryz.func186, Tryz.ntmps186
    go_wp2
    go_ret
    exact ⟨rfl, below1 _ _⟩)

theorem names_six {zs : List ByteArray} {x : Bool} (h : NamesOk zs (if x = true then 1 else 6)) : NamesOk zs 6 := by
  refine ⟨?_, h.2⟩
  have := h.1
  split at this <;> omega

set_option maxHeartbeats 3200000 in
theorem svol_any (n : ByteArray) (c : Int) (z k : ByteArray) (x : Bool) (m : ByteArray) (y : Bool) (a : Option Addr) (len cap : Nat) (zs : List ByteArray) (w : World) (hn : n.size ≤ 9223372036854775807) (hz : z.size ≤ 9223372036854775807) (hk : k.size ≤ 9223372036854775807) (hm : m.size ≤ 9223372036854775807) (hr : TxRow w a len cap zs) :
    Calls Tryz.prog 99 #[.agg #[.string n, .int .i64 c, .string z, .string k, .bool x, .string m, .bool y, .slice a len cap]] w (BoolB (VolOk n c z k x m y zs) w) := by
  have HR : Hid (TxRow w a len cap zs) := hr
  have hzl : zs.length = len := hr.1
  have hlc : len ≤ 9223372036854775807 := Nat.le_trans hr.2.1 hr.2.2.1
  clear hr
  cases y
  · have HY : Hid (false = true → m = ⟨#[]⟩) := fun h => (by cases h)
    go_enter Tryz.func99, Tryz.ntmps99
    go_wp2_with fail
    refine (sname_any n _ hn).mono ?_
    rintro e w1 ⟨r, rfl, hr, rfl⟩
    by_cases hq : r = true
    case neg =>
      have HN := hidK (fun h => hq (hr.2 h))
      have hrf : r = false := by simpa using hq
      clear hr
      go_wp2_with fail
      go_ret
      exact ⟨false, rfl, ⟨fun h => (by cases h), fun h => (HN.out (h.1)).elim⟩, below1 _ _⟩
    have h0 := hidK (hr.1 hq)
    subst hq
    clear hr
    go_wp2_with fail
    refine (ksize_any c _).mono ?_
    rintro e w1 ⟨r, rfl, hr, rfl⟩
    by_cases hq : r = true
    case neg =>
      have HN := hidK (fun h => hq (hr.2 h))
      have hrf : r = false := by simpa using hq
      clear hr
      go_wp2_with fail
      go_ret
      exact ⟨false, rfl, ⟨fun h => (by cases h), fun h => (HN.out (h.2.1)).elim⟩, below1 _ _⟩
    have h1 := hidK (hr.1 hq)
    subst hq
    clear hr
    go_wp2_with fail
    refine (sname_any z _ hz).mono ?_
    rintro e w1 ⟨r, rfl, hr, rfl⟩
    by_cases hq : r = true
    case neg =>
      have HN := hidK (fun h => hq (hr.2 h))
      have hrf : r = false := by simpa using hq
      clear hr
      go_wp2_with fail
      go_ret
      exact ⟨false, rfl, ⟨fun h => (by cases h), fun h => (HN.out (h.2.2.1)).elim⟩, below1 _ _⟩
    have h2 := hidK (hr.1 hq)
    subst hq
    clear hr
    go_wp2_with fail
    refine (sname_any k _ hk).mono ?_
    rintro e w1 ⟨r, rfl, hr, rfl⟩
    by_cases hq : r = true
    case neg =>
      have HN := hidK (fun h => hq (hr.2 h))
      have hrf : r = false := by simpa using hq
      clear hr
      go_wp2_with fail
      go_ret
      exact ⟨false, rfl, ⟨fun h => (by cases h), fun h => (HN.out (h.2.2.2.1)).elim⟩, below1 _ _⟩
    have h3 := hidK (hr.1 hq)
    subst hq
    clear hr
    go_wp2_with fail
    refine (szone_any _ _ hm).mono ?_
    rintro e w1 ⟨r, rfl, hr, rfl⟩
    by_cases hq : r = true
    case neg =>
      have HN := hidK (fun h => hq (hr.2 h))
      have hrf : r = false := by simpa using hq
      clear hr
      go_wp2_with fail
      go_ret
      exact ⟨false, rfl, ⟨fun h => (by cases h), fun h => (HN.out (h.2.2.2.2.1)).elim⟩, below1 _ _⟩
    have h4 := hidK (hr.1 hq)
    subst hq
    clear hr
    go_wp2_with fail
    refine (snames_any a len cap zs 6 _ (HR.out.below (below1 _ _))).mono ?_
    rintro e w1 ⟨r, rfl, hr, hb⟩
    obtain ⟨hsl, hb1, -⟩ := slotK hb
    have HB : Hid (Below w.heap.size w w1) := hb1
    by_cases hq : r = true
    case neg =>
      have HN := hidK (fun h => hq (hr.2 h))
      have hrf : r = false := by simpa using hq
      clear hsl hb hb1 hr
      go_wp2_with fail
      go_ret
      exact ⟨false, rfl, ⟨fun h => (by cases h), fun h => (HN.out (names_six h.2.2.2.2.2.2)).elim⟩, HB.out⟩
    have h6 := hidK (hr.1 hq)
    subst hq
    have hc4 : w1.cell? ⟨w.heap.size, 4, none⟩ = some (.bool x) := cellK hsl 4
    have hc7 : w1.cell? ⟨w.heap.size, 7, none⟩ = some (.slice a len cap) := cellK hsl 7
    clear hr hsl hb hb1
    cases x
    · go_wp2_with fail
      go_ret
      exact ⟨true, rfl, ⟨fun _ => ⟨h0.out, h1.out, h2.out, h3.out, h4.out, HY.out, by simpa using h6.out⟩, fun _ => rfl⟩, HB.out⟩
    · go_wp2_with fail
      go_ret
      refine ⟨_, rfl, ⟨fun h => ⟨h0.out, h1.out, h2.out, h3.out, h4.out, HY.out, ?_, h6.out.2⟩, fun h => ?_⟩, HB.out⟩
      · simp at h ⊢; omega
      · have := h.2.2.2.2.2.2.1
        simp at this ⊢; omega
  by_cases hm0 : m = ⟨#[]⟩
  · subst hm0
    have HY : Hid True := trivial
    go_enter Tryz.func99, Tryz.ntmps99
    go_wp2_with fail
    refine (sname_any n _ hn).mono ?_
    rintro e w1 ⟨r, rfl, hr, rfl⟩
    by_cases hq : r = true
    case neg =>
      have HN := hidK (fun h => hq (hr.2 h))
      have hrf : r = false := by simpa using hq
      clear hr
      go_wp2_with fail
      go_ret
      exact ⟨false, rfl, ⟨fun h => (by cases h), fun h => (HN.out (h.1)).elim⟩, below1 _ _⟩
    have h0 := hidK (hr.1 hq)
    subst hq
    clear hr
    go_wp2_with fail
    refine (ksize_any c _).mono ?_
    rintro e w1 ⟨r, rfl, hr, rfl⟩
    by_cases hq : r = true
    case neg =>
      have HN := hidK (fun h => hq (hr.2 h))
      have hrf : r = false := by simpa using hq
      clear hr
      go_wp2_with fail
      go_ret
      exact ⟨false, rfl, ⟨fun h => (by cases h), fun h => (HN.out (h.2.1)).elim⟩, below1 _ _⟩
    have h1 := hidK (hr.1 hq)
    subst hq
    clear hr
    go_wp2_with fail
    refine (sname_any z _ hz).mono ?_
    rintro e w1 ⟨r, rfl, hr, rfl⟩
    by_cases hq : r = true
    case neg =>
      have HN := hidK (fun h => hq (hr.2 h))
      have hrf : r = false := by simpa using hq
      clear hr
      go_wp2_with fail
      go_ret
      exact ⟨false, rfl, ⟨fun h => (by cases h), fun h => (HN.out (h.2.2.1)).elim⟩, below1 _ _⟩
    have h2 := hidK (hr.1 hq)
    subst hq
    clear hr
    go_wp2_with fail
    refine (sname_any k _ hk).mono ?_
    rintro e w1 ⟨r, rfl, hr, rfl⟩
    by_cases hq : r = true
    case neg =>
      have HN := hidK (fun h => hq (hr.2 h))
      have hrf : r = false := by simpa using hq
      clear hr
      go_wp2_with fail
      go_ret
      exact ⟨false, rfl, ⟨fun h => (by cases h), fun h => (HN.out (h.2.2.2.1)).elim⟩, below1 _ _⟩
    have h3 := hidK (hr.1 hq)
    subst hq
    clear hr
    go_wp2_with fail
    refine (szone_any _ _ hm).mono ?_
    rintro e w1 ⟨r, rfl, hr, rfl⟩
    by_cases hq : r = true
    case neg =>
      have HN := hidK (fun h => hq (hr.2 h))
      have hrf : r = false := by simpa using hq
      clear hr
      go_wp2_with fail
      go_ret
      exact ⟨false, rfl, ⟨fun h => (by cases h), fun h => (HN.out (h.2.2.2.2.1)).elim⟩, below1 _ _⟩
    have h4 := hidK (hr.1 hq)
    subst hq
    clear hr
    go_wp2_with fail
    refine (snames_any a len cap zs 6 _ (HR.out.below (below1 _ _))).mono ?_
    rintro e w1 ⟨r, rfl, hr, hb⟩
    obtain ⟨hsl, hb1, -⟩ := slotK hb
    have HB : Hid (Below w.heap.size w w1) := hb1
    by_cases hq : r = true
    case neg =>
      have HN := hidK (fun h => hq (hr.2 h))
      have hrf : r = false := by simpa using hq
      clear hsl hb hb1 hr
      go_wp2_with fail
      go_ret
      exact ⟨false, rfl, ⟨fun h => (by cases h), fun h => (HN.out (names_six h.2.2.2.2.2.2)).elim⟩, HB.out⟩
    have h6 := hidK (hr.1 hq)
    subst hq
    have hc4 : w1.cell? ⟨w.heap.size, 4, none⟩ = some (.bool x) := cellK hsl 4
    have hc7 : w1.cell? ⟨w.heap.size, 7, none⟩ = some (.slice a len cap) := cellK hsl 7
    clear hr hsl hb hb1
    cases x
    · go_wp2_with fail
      go_ret
      exact ⟨true, rfl, ⟨fun _ => ⟨h0.out, h1.out, h2.out, h3.out, h4.out, (fun _ => rfl), by simpa using h6.out⟩, fun _ => rfl⟩, HB.out⟩
    · go_wp2_with fail
      go_ret
      refine ⟨_, rfl, ⟨fun h => ⟨h0.out, h1.out, h2.out, h3.out, h4.out, (fun _ => rfl), ?_, h6.out.2⟩, fun h => ?_⟩, HB.out⟩
      · simp at h ⊢; omega
      · have := h.2.2.2.2.2.2.1
        simp at this ⊢; omega
  have hq9 : m.toList.isEmpty = false := isE_no hm0
  go_enter Tryz.func99, Tryz.ntmps99
  go_wp2_with fail
  refine (sname_any n _ hn).mono ?_
  rintro e w1 ⟨r, rfl, hr, rfl⟩
  by_cases hq : r = true
  case neg =>
    have HN := hidK (fun h => hq (hr.2 h))
    have hrf : r = false := by simpa using hq
    clear hr
    go_wp2_with fail
    go_ret
    exact ⟨false, rfl, ⟨fun h => (by cases h), fun h => (HN.out (h.1)).elim⟩, below1 _ _⟩
  have h0 := hidK (hr.1 hq)
  subst hq
  clear hr
  go_wp2_with fail
  refine (ksize_any c _).mono ?_
  rintro e w1 ⟨r, rfl, hr, rfl⟩
  by_cases hq : r = true
  case neg =>
    have HN := hidK (fun h => hq (hr.2 h))
    have hrf : r = false := by simpa using hq
    clear hr
    go_wp2_with fail
    go_ret
    exact ⟨false, rfl, ⟨fun h => (by cases h), fun h => (HN.out (h.2.1)).elim⟩, below1 _ _⟩
  have h1 := hidK (hr.1 hq)
  subst hq
  clear hr
  go_wp2_with fail
  refine (sname_any z _ hz).mono ?_
  rintro e w1 ⟨r, rfl, hr, rfl⟩
  by_cases hq : r = true
  case neg =>
    have HN := hidK (fun h => hq (hr.2 h))
    have hrf : r = false := by simpa using hq
    clear hr
    go_wp2_with fail
    go_ret
    exact ⟨false, rfl, ⟨fun h => (by cases h), fun h => (HN.out (h.2.2.1)).elim⟩, below1 _ _⟩
  have h2 := hidK (hr.1 hq)
  subst hq
  clear hr
  go_wp2_with fail
  refine (sname_any k _ hk).mono ?_
  rintro e w1 ⟨r, rfl, hr, rfl⟩
  by_cases hq : r = true
  case neg =>
    have HN := hidK (fun h => hq (hr.2 h))
    have hrf : r = false := by simpa using hq
    clear hr
    go_wp2_with fail
    go_ret
    exact ⟨false, rfl, ⟨fun h => (by cases h), fun h => (HN.out (h.2.2.2.1)).elim⟩, below1 _ _⟩
  have h3 := hidK (hr.1 hq)
  subst hq
  clear hr
  go_wp2_with fail
  refine (szone_any _ _ hm).mono ?_
  rintro e w1 ⟨r, rfl, hr, rfl⟩
  by_cases hq : r = true
  case neg =>
    have HN := hidK (fun h => hq (hr.2 h))
    have hrf : r = false := by simpa using hq
    clear hr
    go_wp2_with fail
    go_ret
    exact ⟨false, rfl, ⟨fun h => (by cases h), fun h => (HN.out (h.2.2.2.2.1)).elim⟩, below1 _ _⟩
  have h4 := hidK (hr.1 hq)
  subst hq
  clear hr
  go_wp2
  go_ret
  exact ⟨false, rfl, ⟨fun h => (by cases h), fun h => absurd (h.2.2.2.2.2.1 rfl) hm0⟩, below1 _ _⟩

end Go.Proofs.YtcljghpfclegmaaGreatDoor

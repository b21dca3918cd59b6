/-
  l01Dec of the specification: a number from nought on in digits.
-/
import Derived.Test.YtbpnmhebhmakdaaDoorDecMath
import Derived.Test.YtbpnmhebhmakdaaDoorFmt
import Derived.WalkKit
import Derived.WalkSpells
import Derived.OwnWalk
import Derived.Outline
import Derived.Laws.IdiomStrings
namespace Go.Proofs.YtbpnmhebhmakdaaDoor
open Go.RowKit

/-- What is written, n of u left. -/
def DecAt (u n : Nat) (r : ByteArray) : Prop := n ≤ u ∧ (if n = 0 then [] else Lib.decDigits n) ++ r.data.toList = Lib.decDigits u

/-- The last digit's byte. -/
def dgB (n : Nat) : UInt8 := UInt8.ofNat (48 + n % 10)
theorem DecAt.len {u n : Nat} {r : ByteArray} (h : DecAt u n r) (h1 : u ≤ 9223372036854775807) : r.size ≤ 19 := by
  have h2 := congrArg List.length h.2
  have h3 := dec_len (u := u) (k := 18) (by omega)
  rw [List.length_append] at h2
  rw [Lib.size_eq]; omega
theorem DecAt.step {u n : Nat} {r : ByteArray} (h : DecAt u n r) (hn : ¬ n = 0) : DecAt u (n / 10) (⟨#[dgB n]⟩ ++ r) := by
  obtain ⟨h1, h2⟩ := h
  refine ⟨by omega, ?_⟩
  rw [if_neg hn] at h2
  rw [← h2, ← dec_step n (by omega)]
  simp [dgB]

theorem conv_one (w : World) (n : Nat) : (convert 64 9 (.slice (some ⟨w.heap.size, 0, none⟩) 1 1)).run Tryd.prog (w.alloc (.cells #[.int .u8 (48 + (n : Int) % 10)] 5)) = .ok (.string ⟨#[dgB n]⟩) (w.alloc (.cells #[.int .u8 (48 + (n : Int) % 10)] 5)) :=
  run_convert_bytes_back (P := Tryd.prog) _ 64 9 5 ⟨w.heap.size, 0, none⟩ 1 [UInt8.ofNat (48 + n % 10)] Tryd.underlying64 Tryd.underlying5 Tryd.underlying9 (fun j hj => by
    simp at hj
    subst hj
    simp [Addr.add]
    have := dig_toNat (k := n % 10) (by omega)
    omega)

set_option maxHeartbeats 1600000 in
theorem sdec_any (u : Nat) (w : World) (h1 : u ≤ 9223372036854775807) :
    Calls Tryd.prog 36 #[.int .i64 u] w fun e w' => e = .returned (.string ⟨(Lib.decDigits u).toArray⟩) ∧ Below w.heap.size w w' := by
  by_cases hu : u = 0
  · subst hu
    go_enter Tryd.func36, Tryd.ntmps36
    go_wp2
    go_ret
    exact ⟨by rw [Lib.decDigits, dif_pos (by decide)]; rfl, Below.refl _ _⟩
  have hn0 : decide ((u : Int) < 0) = false := by simp
  have hu0 : ((u : Int) == 0) = false := by simp [hu]
  go_enter Tryd.func36, Tryd.ntmps36
  go_wp2
  clear hu0
  go_loopw [0, 4] (fun vn vr wr => ∃ (n : Nat) (r : ByteArray), vn = .int .i64 n ∧ vr = .string r ∧ DecAt u n r ∧ Below w.heap.size w wr) (fun vn _ _ => (intOf vn).toNat)
  case atStart => exact ⟨u, _, rfl, rfl, ⟨Nat.le_refl _, by rw [if_neg hu]; simp⟩, Below.refl _ _⟩
  case round =>
    obtain ⟨n, r, rfl, rfl, hd, hb⟩ := hrel
    have hle : n ≤ 9223372036854775807 := Nat.le_trans hd.1 h1
    have hr := hd.len h1
    have hr2 : (⟨#[dgB n]⟩ : ByteArray).size + r.size ≤ 9223372036854775807 := by rw [show (⟨#[dgB n]⟩ : ByteArray).size = 1 from rfl]; omega
    have HD : Hid (DecAt u n r) := hd
    clear hd h1 hu
    by_cases hn : n = 0
    · have hn1 : ((n : Int) != 0) = false := by simp [hn]
      go_wp2
      go_ret
      refine ⟨?_, hb⟩
      have := HD.out.2
      rw [if_pos hn] at this
      rw [← this]; rfl
    · have hn1 : ((n : Int) != 0) = true := by simp [hn]
      have hcv := conv_one wr n
      have hm : decide ((n : Int) % 10 < 0) = false := by simp; omega
      go_wp2
      go_roundw
      case rel =>
        refine ⟨n / 10, _, by go_num, rfl, HD.out.step hn, ?_⟩
        exact hb.alloc (by have := hb.size; omega) _
      case measure => simp [intOf]; omega

end Go.Proofs.YtbpnmhebhmakdaaDoor

/-
  Two lists of volumes compared.
-/
import Derived.Test.YtjkgpkgbaapdmaaVList2
namespace Go.Proofs.Ytjkgpkgbaapdmaa
open Go.RowKit

set_option maxHeartbeats 3200000 in
theorem eqVs_any (a a' : Option Addr) (len cap cap' : Nat) (vs : List Vd) (w : World) (hr : VsRow w a len cap vs) (hr' : VsRow w a' len cap' vs) :
    Calls Try.prog 30 #[.slice a len cap, .slice a' len cap'] w fun e w' => e = .returned (.bool true) ∧ Below w.heap.size w w' := by
  have HR := hidK hr
  have HR' := hidK hr'
  have hlc : len ≤ 9223372036854775807 := Nat.le_trans hr.2.1 hr.2.2.1
  clear hr hr'
  go_enter Try.func30, Try.ntmps30
  go_wp2
  go_loopw [5] (fun i wr => ∃ k : Nat, k ≤ len ∧ i = .int .i64 k ∧ Hid (Below w.heap.size w wr)) (fun i _ => len - (intOf i).toNat)
  case atStart => exact ⟨0, by omega, rfl, Below.refl _ _⟩
  case round =>
    obtain ⟨k, hk, rfl, HB⟩ := hrel
    by_cases hlt : k < len
    · obtain ⟨b, o, v, rfl, hb, hv, -, va, vl, vc, hvr, c0, c1, c2, c3, c4, c5, c6, c7⟩ := (HR.out.below HB.out).at hlt
      obtain ⟨b', o', v', rfl, hb', hv', -, va', vl', vc', hvr', d0, d1, d2, d3, d4, d5, d6, d7⟩ := (HR'.out.below HB.out).at hlt
      rw [hv] at hv'
      obtain rfl := Option.some.inj hv'
      clear hv hv'
      have HT := hidK hvr
      have HT' := hidK hvr'
      clear hvr hvr'
      have HE := hidK (fun q : Wd wr => eqVolume_any v.n v.c v.z v.k v.x v.m v.y va vl vc v.zs va' vl' vc' q.w (HT.out.below q.b) (HT'.out.below q.b))
      have hne := Wd.ne wr
      have e0 : ∀ q : Wd wr, q.w.cell? ⟨b, o + k * 8, none⟩ = some (.string v.n) := fun q => (q.cell hb).trans c0
      have e1 : ∀ q : Wd wr, q.w.cell? ⟨b, o + k * 8 + 1, none⟩ = some (.int .i64 v.c) := fun q => (q.cell hb).trans c1
      have e2 : ∀ q : Wd wr, q.w.cell? ⟨b, o + k * 8 + 2, none⟩ = some (.string v.z) := fun q => (q.cell hb).trans c2
      have e3 : ∀ q : Wd wr, q.w.cell? ⟨b, o + k * 8 + 3, none⟩ = some (.string v.k) := fun q => (q.cell hb).trans c3
      have e4 : ∀ q : Wd wr, q.w.cell? ⟨b, o + k * 8 + 4, none⟩ = some (.bool v.x) := fun q => (q.cell hb).trans c4
      have e5 : ∀ q : Wd wr, q.w.cell? ⟨b, o + k * 8 + 5, none⟩ = some (.string v.m) := fun q => (q.cell hb).trans c5
      have e6 : ∀ q : Wd wr, q.w.cell? ⟨b, o + k * 8 + 6, none⟩ = some (.bool v.y) := fun q => (q.cell hb).trans c6
      have e7 : ∀ q : Wd wr, q.w.cell? ⟨b, o + k * 8 + 7, none⟩ = some (.slice va vl vc) := fun q => (q.cell hb).trans c7
      have f0 : ∀ q : Wd wr, q.w.cell? ⟨b', o' + k * 8, none⟩ = some (.string v.n) := fun q => (q.cell hb').trans d0
      have f1 : ∀ q : Wd wr, q.w.cell? ⟨b', o' + k * 8 + 1, none⟩ = some (.int .i64 v.c) := fun q => (q.cell hb').trans d1
      have f2 : ∀ q : Wd wr, q.w.cell? ⟨b', o' + k * 8 + 2, none⟩ = some (.string v.z) := fun q => (q.cell hb').trans d2
      have f3 : ∀ q : Wd wr, q.w.cell? ⟨b', o' + k * 8 + 3, none⟩ = some (.string v.k) := fun q => (q.cell hb').trans d3
      have f4 : ∀ q : Wd wr, q.w.cell? ⟨b', o' + k * 8 + 4, none⟩ = some (.bool v.x) := fun q => (q.cell hb').trans d4
      have f5 : ∀ q : Wd wr, q.w.cell? ⟨b', o' + k * 8 + 5, none⟩ = some (.string v.m) := fun q => (q.cell hb').trans d5
      have f6 : ∀ q : Wd wr, q.w.cell? ⟨b', o' + k * 8 + 6, none⟩ = some (.bool v.y) := fun q => (q.cell hb').trans d6
      have f7 : ∀ q : Wd wr, q.w.cell? ⟨b', o' + k * 8 + 7, none⟩ = some (.slice va' vl' vc') := fun q => (q.cell hb').trans d7
      clear c0 c1 c2 c3 c4 c5 c6 c7 d0 d1 d2 d3 d4 d5 d6 d7
      go_wp2_with fail
      refine wp_region_wide (by kernel_rfl) (by kernel_rfl) ?_
      repeat (go_big_quiet_step (first | (go_at_call 26; exact Calls.wide (HE.out _)) | fail))
      refine wpQuiet_nil ?_
      rintro _ ⟨q, rfl⟩
      go_wp2_with fail
      exact ⟨⟨k + 1, by omega, by go_num, HB.out.trans (q.b.mono HB.out.size)⟩, by simp [intOf]; omega⟩
    · obtain rfl : k = len := by omega
      go_wp2
      go_ret
      exact ⟨rfl, HB.out⟩

end Go.Proofs.Ytjkgpkgbaapdmaa

/-
  Pod: looked up by its name; a row of them that is right.
-/
import Derived.Test.YtcljghpfclegmaaGreatDoorOrd
import Derived.Test.YtcljghpfclegmaaGreatDoorKVol
namespace Go.Proofs.YtcljghpfclegmaaGreatDoor
open Go.RowKit
namespace Rc
open Mk

set_option maxHeartbeats 800000 in
theorem calledpd_any (x : Pd) (va : Option Addr) (vl vc : Nat) (w : World) :
    Calls Tryz.prog 257 #[.agg #[.string x.n, .int .i64 x.c, .string x.z, .slice va vl vc, .string x.d, .int .i64 x.p]] w fun e w' => e = .returned (.string x.n) ∧ Below w.heap.size w w' := by
  go_enter Tryz.func257, Tryz.ntmps257
  go_wp2
  go_ret
  exact ⟨rfl, below1 _ _⟩

set_option maxHeartbeats 800000 in
theorem rightpd_any (x : Pd) (va : Option Addr) (vl vc : Nat) (w : World) (hn : x.n.size ≤ 9223372036854775807) (hz : x.z.size ≤ 9223372036854775807) (hd : x.d.size ≤ 9223372036854775807) (hr : TxRow w va vl vc x.zs) :
    Calls Tryz.prog 258 #[.agg #[.string x.n, .int .i64 x.c, .string x.z, .slice va vl vc, .string x.d, .int .i64 x.p]] w (BoolB (pdOk x) w) := by
  have HR := hidK (hr.below (below1 w (.cells #[.string x.n, .int .i64 x.c, .string x.z, .slice va vl vc, .string x.d, .int .i64 x.p] 76)))
  clear hr
  go_enter Tryz.func258, Tryz.ntmps258
  go_wp2_with fail
  refine (ipod_any x.n x.c x.z va vl vc x.zs x.d x.p _ hn hz hd HR.out).mono ?_
  rintro e w1 ⟨r, rfl, hr1, hb⟩
  have HB := hidK (slotK hb).2.1
  have HI := hidK hr1
  clear hb hr1
  go_wp2
  go_ret
  exact ⟨r, rfl, HI.out, HB.out⟩

set_option maxRecDepth 100000 in
set_option maxHeartbeats 1600000 in
theorem placepd_any (a : Option Addr) (len cap : Nat) (xs : List Pd) (t : ByteArray) (w : World) (hr : RRow w a len cap 6 (xs.map pdF)) :
    Calls Tryz.prog 196 #[.slice a len cap, .string t] w fun e w' => e = .returned (.tuple #[.int .i64 (pl Pd.n xs t : Nat), .bool (hit Pd.n xs t)]) ∧ Below w.heap.size w w' := by
  have HR := hidK hr
  have hxl : xs.length = len := by simpa using hr.1
  have hlc : len ≤ 9223372036854775807 := Nat.le_trans hr.2.1 hr.2.2.1
  clear hr
  have hmcalled : ∀ (v : Value) (w : World), (method 371 76 v "loop.example/g00571/impl.called").run Tryz.prog w = .ok (257, v) w := fun _ _ => by kernel_rfl
  go_enter Tryz.func196, Tryz.ntmps196
  go_wp2
  go_loopw [10] (fun i wr => ∃ k : Nat, k ≤ len ∧ i = .int .i64 k ∧ Hid (∀ (j : Nat) y, j < k → xs[j]? = some y → Op.bytesLess y.n.toList t.toList = true) ∧ Hid (Below w.heap.size w wr)) (fun i _ => len - (intOf i).toNat)
  case atStart => exact ⟨0, by omega, rfl, fun j y hj => by omega, Below.refl _ _⟩
  case round =>
    obtain ⟨k, hk, rfl, HE, HB⟩ := hrel
    by_cases hlt : k < len
    · obtain ⟨b, o, x, rfl, hb, hx, hat⟩ := pd_at (HR.out.below HB.out) hlt
      obtain ⟨va, vl, vc, hvr, z0, z2, z4, c0, c1, c2, c3, c4, c5⟩ := pd_cells hat
      have HX := hidK hx
      clear hat hx z0 z2 z4 hvr
      have HC := hidK (fun v : World => calledpd_any x va vl vc v)
      have HB1 := hidK (HB.out.alloc HB.out.size (.cells #[.string x.n, .int .i64 x.c, .string x.z, .slice va vl vc, .string x.d, .int .i64 x.p] 76))
      go_wp2_with fail
      refine (HC.out _).mono ?_
      rintro e w1 ⟨rfl, hb1⟩
      obtain ⟨g1, -, -⟩ := slotK hb1
      have hs1 := hb1.size
      rw [show (wr.alloc (.cells #[.string x.n, .int .i64 x.c, .string x.z, .slice va vl vc, .string x.d, .int .i64 x.p] 76)).heap.size = wr.heap.size + 1 from by simp] at hs1
      have HB2 := hidK (HB1.out.trans (hb1.mono HB1.out.size))
      have d0 : w1.cell? ⟨wr.heap.size, 0, none⟩ = some (.string x.n) := cellK g1 0
      have d1 : w1.cell? ⟨wr.heap.size, 1, none⟩ = some (.int .i64 x.c) := cellK g1 1
      have d2 : w1.cell? ⟨wr.heap.size, 2, none⟩ = some (.string x.z) := cellK g1 2
      have d3 : w1.cell? ⟨wr.heap.size, 3, none⟩ = some (.slice va vl vc) := cellK g1 3
      have d4 : w1.cell? ⟨wr.heap.size, 4, none⟩ = some (.string x.d) := cellK g1 4
      have d5 : w1.cell? ⟨wr.heap.size, 5, none⟩ = some (.int .i64 x.p) := cellK g1 5
      clear g1 hb1 c0 c1 c2 c3 c4 c5 HB1
      cases hless : Op.bytesLess x.n.toList t.toList
      · go_wp2_with fail
        refine (HC.out _).mono ?_
        rintro e w2 ⟨rfl, hb2⟩
        have HB3 := hidK (HB2.out.trans (hb2.mono (Nat.le_trans HB.out.size (Nat.le_trans (Nat.le_succ _) hs1))))
        have hp := pl_at HE.out HX.out hless
        clear hb2
        go_wp2_with fail
        refine bodyPost_ret (v := .tuple #[.int .i64 k, .bool (x.n.toList == t.toList)]) (by simp [results, Tryz.results196, go_sem]) rfl ⟨?_, HB3.out⟩
        unfold hit
        rw [hp, HX.out]
      · go_wp2_with fail
        refine ⟨⟨k + 1, by omega, by go_num, fun j y hj hy => ?_, HB2.out⟩, by simp [intOf]; omega⟩
        by_cases e : j = k
        · subst e
          rw [HX.out] at hy
          obtain rfl := Option.some.inj hy
          exact hless
        · exact HE.out j y (by omega) hy
    · obtain rfl : k = len := by omega
      have hp : pl Pd.n xs t = xs.length := pl_end (fun j y hy => HE.out j y (by have := (List.getElem?_eq_some_iff.1 hy).1; omega) hy)
      have hh : hit Pd.n xs t = false := by unfold hit; rw [hp, List.getElem?_eq_none (Nat.le_refl _)]
      have HP := hidK hp
      have HH := hidK hh
      clear hp hh
      go_wp2
      exact bodyPost_ret (v := .tuple #[.int .i64 k, .bool false]) (by simp [results, Tryz.results196, go_sem]) rfl ⟨by rw [HP.out, HH.out, hxl], HB.out⟩

/-- What is found. -/
def Fndpd (xs : List Pd) (t : ByteArray) (r w : World) (e : Ending) (w' : World) : Prop :=
  Below w.heap.size w w' ∧ ((hit Pd.n xs t = true ∧ ∃ (x : Pd) (va : Option Addr) (vl vc : Nat), xs[pl Pd.n xs t]? = some x ∧ x.n = t ∧ e = .returned (.tuple #[.agg #[.string x.n, .int .i64 x.c, .string x.z, .slice va vl vc, .string x.d, .int .i64 x.p], .bool true]) ∧ x.n.size ≤ 9223372036854775807 ∧ x.z.size ≤ 9223372036854775807 ∧ x.d.size ≤ 9223372036854775807 ∧ TxRow r va vl vc x.zs) ∨ (hit Pd.n xs t = false ∧ e = .returned (.tuple #[.agg #[.string ⟨#[]⟩, .int .i64 0, .string ⟨#[]⟩, .slice none 0 0, .string ⟨#[]⟩, .int .i64 0], .bool false])))

set_option maxRecDepth 100000 in
set_option maxHeartbeats 1600000 in
theorem findpd_any (a : Option Addr) (len cap : Nat) (xs : List Pd) (t : ByteArray) (r w : World) (hr : RRow r a len cap 6 (xs.map pdF)) (hrw : Below r.heap.size r w) :
    Calls Tryz.prog 200 #[.slice a len cap, .string t] w (Fndpd xs t r w) := by
  have HR := hidK hr
  have HRW := hidK hrw
  have hxl : xs.length = len := by simpa using hr.1
  have hlc : len ≤ 9223372036854775807 := Nat.le_trans hr.2.1 hr.2.2.1
  have HR1 := hidK ((hr.below hrw).below (below1 w (.cells #[.string ⟨#[]⟩, .int .i64 0, .string ⟨#[]⟩, .slice none 0 0, .string ⟨#[]⟩, .int .i64 0] 76)))
  have hsr := hrw.size
  clear hr hrw
  go_enter Tryz.func200, Tryz.ntmps200
  go_wp2_with fail
  refine (placepd_any a len cap xs t _ HR1.out).mono ?_
  rintro e w1 ⟨rfl, hb⟩
  obtain ⟨g1, hb1, -⟩ := slotK hb
  have d0 : w1.cell? ⟨w.heap.size, 0, none⟩ = some (.string ⟨#[]⟩) := cellK g1 0
  have f0 : w1.frozen? ⟨w.heap.size, 0, none⟩ = false := froK g1 0
  have d1 : w1.cell? ⟨w.heap.size, 1, none⟩ = some (.int .i64 0) := cellK g1 1
  have f1 : w1.frozen? ⟨w.heap.size, 1, none⟩ = false := froK g1 1
  have d2 : w1.cell? ⟨w.heap.size, 2, none⟩ = some (.string ⟨#[]⟩) := cellK g1 2
  have f2 : w1.frozen? ⟨w.heap.size, 2, none⟩ = false := froK g1 2
  have d3 : w1.cell? ⟨w.heap.size, 3, none⟩ = some (.slice none 0 0) := cellK g1 3
  have f3 : w1.frozen? ⟨w.heap.size, 3, none⟩ = false := froK g1 3
  have d4 : w1.cell? ⟨w.heap.size, 4, none⟩ = some (.string ⟨#[]⟩) := cellK g1 4
  have f4 : w1.frozen? ⟨w.heap.size, 4, none⟩ = false := froK g1 4
  have d5 : w1.cell? ⟨w.heap.size, 5, none⟩ = some (.int .i64 0) := cellK g1 5
  have f5 : w1.frozen? ⟨w.heap.size, 5, none⟩ = false := froK g1 5
  have HB := hidK hb1
  have hs1 := hb.size
  rw [show (w.alloc (.cells #[.string ⟨#[]⟩, .int .i64 0, .string ⟨#[]⟩, .slice none 0 0, .string ⟨#[]⟩, .int .i64 0] 76)).heap.size = w.heap.size + 1 from by simp] at hs1
  have hlt1 : w.heap.size < w1.heap.size := by omega
  clear hb g1 HR1 hs1
  cases hh : hit Pd.n xs t
  · generalize pl Pd.n xs t = j
    have HH := hidK hh
    clear hh hb1 HR hxl hlc
    go_wp2
    refine bodyPost_ret (v := .tuple #[.agg #[.string ⟨#[]⟩, .int .i64 0, .string ⟨#[]⟩, .slice none 0 0, .string ⟨#[]⟩, .int .i64 0], .bool false]) (by simp [results, Tryz.results200, go_sem, *]) rfl ⟨?_, .inr ⟨HH.out, rfl⟩⟩
    exact Below.alloc (set_below (Nat.le_refl _) (set_below (Nat.le_refl _) (set_below (Nat.le_refl _) (set_below (Nat.le_refl _) (set_below (Nat.le_refl _) (set_below (Nat.le_refl _) (HB.out))))))) (by simp [World.setCell]; omega) _
  · obtain ⟨x, hx, hn⟩ := hit_yes hh
    have hj : pl Pd.n xs t < len := by have := (List.getElem?_eq_some_iff.1 hx).1; omega
    obtain ⟨b, o, y, rfl, hbl, hy, hat⟩ := pd_at HR.out hj
    rw [hx] at hy
    obtain rfl := Option.some.inj hy
    obtain ⟨va, vl, vc, hvr, z0, z2, z4, c0, c1, c2, c3, c4, c5⟩ := pd_cells hat
    have hbw : b < w.heap.size := Nat.lt_of_lt_of_le hbl HRW.out.size
    have e0 := (cell_below hb1 hbw).trans ((cell_below HRW.out hbl).trans c0)
    have e1 := (cell_below hb1 hbw).trans ((cell_below HRW.out hbl).trans c1)
    have e2 := (cell_below hb1 hbw).trans ((cell_below HRW.out hbl).trans c2)
    have e3 := (cell_below hb1 hbw).trans ((cell_below HRW.out hbl).trans c3)
    have e4 := (cell_below hb1 hbw).trans ((cell_below HRW.out hbl).trans c4)
    have e5 := (cell_below hb1 hbw).trans ((cell_below HRW.out hbl).trans c5)
    have HI : Hid (Fndpd xs t r w (.returned (.tuple #[.agg #[.string x.n, .int .i64 x.c, .string x.z, .slice va vl vc, .string x.d, .int .i64 x.p], .bool true])) w) := ⟨Below.refl _ _, .inl ⟨hh, x, va, vl, vc, hx, hn, rfl, z0, z2, z4, hvr⟩⟩
    clear c0 c1 c2 c3 c4 c5 hat hx hn hy hh z0 z2 z4 hvr HR HRW hb1 hsr
    have hne : ¬ b = w.heap.size := by omega
    obtain ⟨j, hjj⟩ : ∃ j, pl Pd.n xs t = j := ⟨_, rfl⟩
    rw [hjj] at hj
    simp only [hjj] at *
    clear hjj
    go_wp2
    refine bodyPost_ret (v := .tuple #[.agg #[.string x.n, .int .i64 x.c, .string x.z, .slice va vl vc, .string x.d, .int .i64 x.p], .bool true]) (by simp [results, Tryz.results200, go_sem, *]) rfl ⟨?_, HI.out.2⟩
    exact set_below (Nat.le_refl _) (set_below (Nat.le_refl _) (set_below (Nat.le_refl _) (set_below (Nat.le_refl _) (set_below (Nat.le_refl _) (set_below (Nat.le_refl _) (HB.out))))))

end Rc
end Go.Proofs.YtcljghpfclegmaaGreatDoor

/-
  Node: looked up by its name; a row of them that is right.
-/
import Derived.Test.YtcljghpfclegmaaGreatDoorOrd
import Derived.Test.YtcljghpfclegmaaGreatDoorKVol
namespace Go.Proofs.YtcljghpfclegmaaGreatDoor
open Go.RowKit
namespace Rc
open Mk

set_option maxHeartbeats 800000 in
theorem callednd_any (x : Nd) (va : Option Addr) (vl vc : Nat) (w : World) :
    Calls Tryz.prog 259 #[.agg #[.string x.n, .string x.z, .int .i64 x.c, .int .i64 x.s, .int .i64 x.u, .bool x.d, .slice va vl vc]] w fun e w' => e = .returned (.string x.n) ∧ Below w.heap.size w w' := by
  go_enter Tryz.func259, Tryz.ntmps259
  go_wp2
  go_ret
  exact ⟨rfl, below1 _ _⟩

set_option maxHeartbeats 800000 in
theorem rightnd_any (x : Nd) (va : Option Addr) (vl vc : Nat) (w : World) (hn : x.n.size ≤ 9223372036854775807) (hz : x.z.size ≤ 9223372036854775807) (hr : TxRow w va vl vc x.zs) :
    Calls Tryz.prog 260 #[.agg #[.string x.n, .string x.z, .int .i64 x.c, .int .i64 x.s, .int .i64 x.u, .bool x.d, .slice va vl vc]] w (BoolB (ndOk x) w) := by
  have HR := hidK (hr.below (below1 w (.cells #[.string x.n, .string x.z, .int .i64 x.c, .int .i64 x.s, .int .i64 x.u, .bool x.d, .slice va vl vc] 102)))
  clear hr
  go_enter Tryz.func260, Tryz.ntmps260
  go_wp2_with fail
  refine (inode_any x.n x.z x.c x.s x.u x.d va vl vc x.zs _ hn hz HR.out).mono ?_
  rintro e w1 ⟨r, rfl, hr1, hb⟩
  have HB := hidK (slotK hb).2.1
  have HI := hidK hr1
  clear hb hr1
  go_wp2
  go_ret
  exact ⟨r, rfl, HI.out, HB.out⟩

set_option maxRecDepth 100000 in
set_option maxHeartbeats 1600000 in
theorem placend_any (a : Option Addr) (len cap : Nat) (xs : List Nd) (t : ByteArray) (w : World) (hr : RRow w a len cap 7 (xs.map ndF)) :
    Calls Tryz.prog 167 #[.slice a len cap, .string t] w fun e w' => e = .returned (.tuple #[.int .i64 (pl Nd.n xs t : Nat), .bool (hit Nd.n xs t)]) ∧ Below w.heap.size w w' := by
  have HR := hidK hr
  have hxl : xs.length = len := by simpa using hr.1
  have hlc : len ≤ 9223372036854775807 := Nat.le_trans hr.2.1 hr.2.2.1
  clear hr
  have hmcalled : ∀ (v : Value) (w : World), (method 371 102 v "loop.example/g00571/impl.called").run Tryz.prog w = .ok (259, v) w := fun _ _ => by kernel_rfl
  go_enter Tryz.func167, Tryz.ntmps167
  go_wp2
  go_loopw [10] (fun i wr => ∃ k : Nat, k ≤ len ∧ i = .int .i64 k ∧ Hid (∀ (j : Nat) y, j < k → xs[j]? = some y → Op.bytesLess y.n.toList t.toList = true) ∧ Hid (Below w.heap.size w wr)) (fun i _ => len - (intOf i).toNat)
  case atStart => exact ⟨0, by omega, rfl, fun j y hj => by omega, Below.refl _ _⟩
  case round =>
    obtain ⟨k, hk, rfl, HE, HB⟩ := hrel
    by_cases hlt : k < len
    · obtain ⟨b, o, x, rfl, hb, hx, hat⟩ := nd_at (HR.out.below HB.out) hlt
      obtain ⟨va, vl, vc, hvr, z0, z1, c0, c1, c2, c3, c4, c5, c6⟩ := nd_cells hat
      have HX := hidK hx
      clear hat hx z0 z1 hvr
      have HC := hidK (fun v : World => callednd_any x va vl vc v)
      have HB1 := hidK (HB.out.alloc HB.out.size (.cells #[.string x.n, .string x.z, .int .i64 x.c, .int .i64 x.s, .int .i64 x.u, .bool x.d, .slice va vl vc] 102))
      go_wp2_with fail
      refine (HC.out _).mono ?_
      rintro e w1 ⟨rfl, hb1⟩
      obtain ⟨g1, -, -⟩ := slotK hb1
      have hs1 := hb1.size
      rw [show (wr.alloc (.cells #[.string x.n, .string x.z, .int .i64 x.c, .int .i64 x.s, .int .i64 x.u, .bool x.d, .slice va vl vc] 102)).heap.size = wr.heap.size + 1 from by simp] at hs1
      have HB2 := hidK (HB1.out.trans (hb1.mono HB1.out.size))
      have d0 : w1.cell? ⟨wr.heap.size, 0, none⟩ = some (.string x.n) := cellK g1 0
      have d1 : w1.cell? ⟨wr.heap.size, 1, none⟩ = some (.string x.z) := cellK g1 1
      have d2 : w1.cell? ⟨wr.heap.size, 2, none⟩ = some (.int .i64 x.c) := cellK g1 2
      have d3 : w1.cell? ⟨wr.heap.size, 3, none⟩ = some (.int .i64 x.s) := cellK g1 3
      have d4 : w1.cell? ⟨wr.heap.size, 4, none⟩ = some (.int .i64 x.u) := cellK g1 4
      have d5 : w1.cell? ⟨wr.heap.size, 5, none⟩ = some (.bool x.d) := cellK g1 5
      have d6 : w1.cell? ⟨wr.heap.size, 6, none⟩ = some (.slice va vl vc) := cellK g1 6
      clear g1 hb1 c0 c1 c2 c3 c4 c5 c6 HB1
      cases hless : Op.bytesLess x.n.toList t.toList
      · go_wp2_with fail
        refine (HC.out _).mono ?_
        rintro e w2 ⟨rfl, hb2⟩
        have HB3 := hidK (HB2.out.trans (hb2.mono (Nat.le_trans HB.out.size (Nat.le_trans (Nat.le_succ _) hs1))))
        have hp := pl_at HE.out HX.out hless
        clear hb2
        go_wp2_with fail
        refine bodyPost_ret (v := .tuple #[.int .i64 k, .bool (x.n.toList == t.toList)]) (by simp [results, Tryz.results167, go_sem]) rfl ⟨?_, HB3.out⟩
        unfold hit
        rw [hp, HX.out]
      · go_wp2_with fail
        refine ⟨⟨k + 1, by omega, by go_num, fun j y hj hy => ?_, HB2.out⟩, by simp [intOf]; omega⟩
        by_cases e : j = k
        · subst e
          rw [HX.out] at hy
          obtain rfl := Option.some.inj hy
          exact hless
        · exact HE.out j y (by omega) hy
    · obtain rfl : k = len := by omega
      have hp : pl Nd.n xs t = xs.length := pl_end (fun j y hy => HE.out j y (by have := (List.getElem?_eq_some_iff.1 hy).1; omega) hy)
      have hh : hit Nd.n xs t = false := by unfold hit; rw [hp, List.getElem?_eq_none (Nat.le_refl _)]
      have HP := hidK hp
      have HH := hidK hh
      clear hp hh
      go_wp2
      exact bodyPost_ret (v := .tuple #[.int .i64 k, .bool false]) (by simp [results, Tryz.results167, go_sem]) rfl ⟨by rw [HP.out, HH.out, hxl], HB.out⟩

/-- What is found. -/
def Fndnd (xs : List Nd) (t : ByteArray) (r w : World) (e : Ending) (w' : World) : Prop :=
  Below w.heap.size w w' ∧ ((hit Nd.n xs t = true ∧ ∃ (x : Nd) (va : Option Addr) (vl vc : Nat), xs[pl Nd.n xs t]? = some x ∧ x.n = t ∧ e = .returned (.tuple #[.agg #[.string x.n, .string x.z, .int .i64 x.c, .int .i64 x.s, .int .i64 x.u, .bool x.d, .slice va vl vc], .bool true]) ∧ x.n.size ≤ 9223372036854775807 ∧ x.z.size ≤ 9223372036854775807 ∧ TxRow r va vl vc x.zs) ∨ (hit Nd.n xs t = false ∧ e = .returned (.tuple #[.agg #[.string ⟨#[]⟩, .string ⟨#[]⟩, .int .i64 0, .int .i64 0, .int .i64 0, .bool false, .slice none 0 0], .bool false])))

set_option maxRecDepth 100000 in
set_option maxHeartbeats 1600000 in
theorem findnd_any (a : Option Addr) (len cap : Nat) (xs : List Nd) (t : ByteArray) (r w : World) (hr : RRow r a len cap 7 (xs.map ndF)) (hrw : Below r.heap.size r w) :
    Calls Tryz.prog 205 #[.slice a len cap, .string t] w (Fndnd xs t r w) := by
  have HR := hidK hr
  have HRW := hidK hrw
  have hxl : xs.length = len := by simpa using hr.1
  have hlc : len ≤ 9223372036854775807 := Nat.le_trans hr.2.1 hr.2.2.1
  have HR1 := hidK ((hr.below hrw).below (below1 w (.cells #[.string ⟨#[]⟩, .string ⟨#[]⟩, .int .i64 0, .int .i64 0, .int .i64 0, .bool false, .slice none 0 0] 102)))
  have hsr := hrw.size
  clear hr hrw
  go_enter Tryz.func205, Tryz.ntmps205
  go_wp2_with fail
  refine (placend_any a len cap xs t _ HR1.out).mono ?_
  rintro e w1 ⟨rfl, hb⟩
  obtain ⟨g1, hb1, -⟩ := slotK hb
  have d0 : w1.cell? ⟨w.heap.size, 0, none⟩ = some (.string ⟨#[]⟩) := cellK g1 0
  have f0 : w1.frozen? ⟨w.heap.size, 0, none⟩ = false := froK g1 0
  have d1 : w1.cell? ⟨w.heap.size, 1, none⟩ = some (.string ⟨#[]⟩) := cellK g1 1
  have f1 : w1.frozen? ⟨w.heap.size, 1, none⟩ = false := froK g1 1
  have d2 : w1.cell? ⟨w.heap.size, 2, none⟩ = some (.int .i64 0) := cellK g1 2
  have f2 : w1.frozen? ⟨w.heap.size, 2, none⟩ = false := froK g1 2
  have d3 : w1.cell? ⟨w.heap.size, 3, none⟩ = some (.int .i64 0) := cellK g1 3
  have f3 : w1.frozen? ⟨w.heap.size, 3, none⟩ = false := froK g1 3
  have d4 : w1.cell? ⟨w.heap.size, 4, none⟩ = some (.int .i64 0) := cellK g1 4
  have f4 : w1.frozen? ⟨w.heap.size, 4, none⟩ = false := froK g1 4
  have d5 : w1.cell? ⟨w.heap.size, 5, none⟩ = some (.bool false) := cellK g1 5
  have f5 : w1.frozen? ⟨w.heap.size, 5, none⟩ = false := froK g1 5
  have d6 : w1.cell? ⟨w.heap.size, 6, none⟩ = some (.slice none 0 0) := cellK g1 6
  have f6 : w1.frozen? ⟨w.heap.size, 6, none⟩ = false := froK g1 6
  have HB := hidK hb1
  have hs1 := hb.size
  rw [show (w.alloc (.cells #[.string ⟨#[]⟩, .string ⟨#[]⟩, .int .i64 0, .int .i64 0, .int .i64 0, .bool false, .slice none 0 0] 102)).heap.size = w.heap.size + 1 from by simp] at hs1
  have hlt1 : w.heap.size < w1.heap.size := by omega
  clear hb g1 HR1 hs1
  cases hh : hit Nd.n xs t
  · generalize pl Nd.n xs t = j
    have HH := hidK hh
    clear hh hb1 HR hxl hlc
    go_wp2
    refine bodyPost_ret (v := .tuple #[.agg #[.string ⟨#[]⟩, .string ⟨#[]⟩, .int .i64 0, .int .i64 0, .int .i64 0, .bool false, .slice none 0 0], .bool false]) (by simp [results, Tryz.results205, go_sem, *]) rfl ⟨?_, .inr ⟨HH.out, rfl⟩⟩
    exact Below.alloc (set_below (Nat.le_refl _) (set_below (Nat.le_refl _) (set_below (Nat.le_refl _) (set_below (Nat.le_refl _) (set_below (Nat.le_refl _) (set_below (Nat.le_refl _) (set_below (Nat.le_refl _) (HB.out)))))))) (by simp [World.setCell]; omega) _
  · obtain ⟨x, hx, hn⟩ := hit_yes hh
    have hj : pl Nd.n xs t < len := by have := (List.getElem?_eq_some_iff.1 hx).1; omega
    obtain ⟨b, o, y, rfl, hbl, hy, hat⟩ := nd_at HR.out hj
    rw [hx] at hy
    obtain rfl := Option.some.inj hy
    obtain ⟨va, vl, vc, hvr, z0, z1, c0, c1, c2, c3, c4, c5, c6⟩ := nd_cells hat
    have hbw : b < w.heap.size := Nat.lt_of_lt_of_le hbl HRW.out.size
    have e0 := (cell_below hb1 hbw).trans ((cell_below HRW.out hbl).trans c0)
    have e1 := (cell_below hb1 hbw).trans ((cell_below HRW.out hbl).trans c1)
    have e2 := (cell_below hb1 hbw).trans ((cell_below HRW.out hbl).trans c2)
    have e3 := (cell_below hb1 hbw).trans ((cell_below HRW.out hbl).trans c3)
    have e4 := (cell_below hb1 hbw).trans ((cell_below HRW.out hbl).trans c4)
    have e5 := (cell_below hb1 hbw).trans ((cell_below HRW.out hbl).trans c5)
    have e6 := (cell_below hb1 hbw).trans ((cell_below HRW.out hbl).trans c6)
    have HI : Hid (Fndnd xs t r w (.returned (.tuple #[.agg #[.string x.n, .string x.z, .int .i64 x.c, .int .i64 x.s, .int .i64 x.u, .bool x.d, .slice va vl vc], .bool true])) w) := ⟨Below.refl _ _, .inl ⟨hh, x, va, vl, vc, hx, hn, rfl, z0, z1, hvr⟩⟩
    clear c0 c1 c2 c3 c4 c5 c6 hat hx hn hy hh z0 z1 hvr HR HRW hb1 hsr
    have hne : ¬ b = w.heap.size := by omega
    obtain ⟨j, hjj⟩ : ∃ j, pl Nd.n xs t = j := ⟨_, rfl⟩
    rw [hjj] at hj
    simp only [hjj] at *
    clear hjj
    go_wp2
    refine bodyPost_ret (v := .tuple #[.agg #[.string x.n, .string x.z, .int .i64 x.c, .int .i64 x.s, .int .i64 x.u, .bool x.d, .slice va vl vc], .bool true]) (by simp [results, Tryz.results205, go_sem, *]) rfl ⟨?_, HI.out.2⟩
    exact set_below (Nat.le_refl _) (set_below (Nat.le_refl _) (set_below (Nat.le_refl _) (set_below (Nat.le_refl _) (set_below (Nat.le_refl _) (set_below (Nat.le_refl _) (set_below (Nat.le_refl _) (HB.out)))))))

set_option maxRecDepth 100000 in
set_option maxHeartbeats 1600000 in
theorem thend_any (d : Ad) (now : Int) (xs : List Nd) (t : ByteArray) (r w : World) (hr : RRow r d.a1 d.l1 d.c1 7 (xs.map ndF)) (hrw : Below r.heap.size r w) :
    Calls Tryz.prog 154 #[.agg #[.slice d.a1 d.l1 d.c1, .slice d.a2 d.l2 d.c2, .slice d.a3 d.l3 d.c3, .slice d.a4 d.l4 d.c4, .slice d.a5 d.l5 d.c5, .int .i64 now], .string t] w (Fndnd xs t r w) := by
  have HR := hidK hr
  have HRW := hidK (hrw.trans ((below2 w (.cells #[.slice d.a1 d.l1 d.c1, .slice d.a2 d.l2 d.c2, .slice d.a3 d.l3 d.c3, .slice d.a4 d.l4 d.c4, .slice d.a5 d.l5 d.c5, .int .i64 now] 37) (.cells #[.string ⟨#[]⟩, .string ⟨#[]⟩, .int .i64 0, .int .i64 0, .int .i64 0, .bool false, .slice none 0 0] 102)).mono hrw.size))
  clear hr hrw
  go_enter Tryz.func154, Tryz.ntmps154
  go_wp2_with fail
  refine (findnd_any _ _ _ xs t r _ HR.out HRW.out).mono ?_
  rintro e w1 ⟨hb, hf⟩
  have g1 := (hb.block (w.heap.size + 1) (by simp)).trans (heap2_1 _ _ _)
  have d0 : w1.cell? ⟨w.heap.size + 1, 0, none⟩ = some (.string ⟨#[]⟩) := cellK g1 0
  have f0 : w1.frozen? ⟨w.heap.size + 1, 0, none⟩ = false := froK g1 0
  have d1 : w1.cell? ⟨w.heap.size + 1, 1, none⟩ = some (.string ⟨#[]⟩) := cellK g1 1
  have f1 : w1.frozen? ⟨w.heap.size + 1, 1, none⟩ = false := froK g1 1
  have d2 : w1.cell? ⟨w.heap.size + 1, 2, none⟩ = some (.int .i64 0) := cellK g1 2
  have f2 : w1.frozen? ⟨w.heap.size + 1, 2, none⟩ = false := froK g1 2
  have d3 : w1.cell? ⟨w.heap.size + 1, 3, none⟩ = some (.int .i64 0) := cellK g1 3
  have f3 : w1.frozen? ⟨w.heap.size + 1, 3, none⟩ = false := froK g1 3
  have d4 : w1.cell? ⟨w.heap.size + 1, 4, none⟩ = some (.int .i64 0) := cellK g1 4
  have f4 : w1.frozen? ⟨w.heap.size + 1, 4, none⟩ = false := froK g1 4
  have d5 : w1.cell? ⟨w.heap.size + 1, 5, none⟩ = some (.bool false) := cellK g1 5
  have f5 : w1.frozen? ⟨w.heap.size + 1, 5, none⟩ = false := froK g1 5
  have d6 : w1.cell? ⟨w.heap.size + 1, 6, none⟩ = some (.slice none 0 0) := cellK g1 6
  have f6 : w1.frozen? ⟨w.heap.size + 1, 6, none⟩ = false := froK g1 6
  have HB : Hid (Below w.heap.size w w1) := (below2 _ _ _).trans (hb.mono (by simp; omega))
  clear g1 hb HR HRW
  rcases hf with ⟨hh, x, va, vl, vc, hx, hn, rfl, z0, z1, hvr⟩ | ⟨hh, rfl⟩
  · have HI : Hid (Fndnd xs t r w (.returned (.tuple #[.agg #[.string x.n, .string x.z, .int .i64 x.c, .int .i64 x.s, .int .i64 x.u, .bool x.d, .slice va vl vc], .bool true])) w) := ⟨Below.refl _ _, .inl ⟨hh, x, va, vl, vc, hx, hn, rfl, z0, z1, hvr⟩⟩
    clear hx hn hh z0 z1 hvr
    go_wp2
    refine bodyPost_ret (v := .tuple #[.agg #[.string x.n, .string x.z, .int .i64 x.c, .int .i64 x.s, .int .i64 x.u, .bool x.d, .slice va vl vc], .bool true]) (by simp [results, Tryz.results154, go_sem, *]) rfl ⟨?_, HI.out.2⟩
    exact set_below (Nat.le_succ _) (set_below (Nat.le_succ _) (set_below (Nat.le_succ _) (set_below (Nat.le_succ _) (set_below (Nat.le_succ _) (set_below (Nat.le_succ _) (set_below (Nat.le_succ _) (HB.out)))))))
  · have HH := hidK hh
    clear hh
    go_wp2
    refine bodyPost_ret (v := .tuple #[.agg #[.string ⟨#[]⟩, .string ⟨#[]⟩, .int .i64 0, .int .i64 0, .int .i64 0, .bool false, .slice none 0 0], .bool false]) (by simp [results, Tryz.results154, go_sem, *]) rfl ⟨?_, .inr ⟨HH.out, rfl⟩⟩
    exact set_below (Nat.le_succ _) (set_below (Nat.le_succ _) (set_below (Nat.le_succ _) (set_below (Nat.le_succ _) (set_below (Nat.le_succ _) (set_below (Nat.le_succ _) (set_below (Nat.le_succ _) (HB.out)))))))

end Rc
end Go.Proofs.YtcljghpfclegmaaGreatDoor

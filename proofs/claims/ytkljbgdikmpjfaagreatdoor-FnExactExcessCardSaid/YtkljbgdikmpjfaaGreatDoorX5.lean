import Derived.Test.YtkljbgdikmpjfaaGreatDoorX4
import Derived.Laws.StructEq
import Derived.Deep.Strs
import Derived.Deep.Fields
import Derived.WideShapes
import Derived.ChangeArms
/-
  Pairs in their order, as the specification puts them.
-/
namespace Go.Proofs.YtkljbgdikmpjfaaGreatDoor
open Go.RowKit
namespace Rc
open Mk

theorem infoqd : (Tryz.prog.info? 63).map (fun i => (i.zero, i.size, i.bytes)) = some (some (.agg #[.string ⟨#[]⟩, .string ⟨#[]⟩]), 2, 32) := by kernel_rfl
set_option maxRecDepth 100000 in
set_option maxHeartbeats 3200000 in
theorem slessQ_any (a b : Qd) (w : World) :
    Calls Tryz.prog 133 #[.agg #[.string a.n, .string a.d], .agg #[.string b.n, .string b.d]] w fun e w' => e = .returned (.bool (lessQ a b)) ∧ Below w.heap.size w w' := by
  obtain ⟨r, hr⟩ : ∃ r, r = lessQ a b := ⟨_, rfl⟩
  rw [← hr]
  have hr2 : (Op.bytesLess a.n.toList b.n.toList = true ∧ r = true) ∨ (Op.bytesLess a.n.toList b.n.toList = false ∧ (a.n.toList == b.n.toList) = false ∧ r = false) ∨ (Op.bytesLess a.n.toList b.n.toList = false ∧ (a.n.toList == b.n.toList) = true ∧ Op.bytesLess a.d.toList b.d.toList = r) := by
    unfold lessQ at hr
    cases h1 : Op.bytesLess a.n.toList b.n.toList
    · cases h2 : (a.n.toList == b.n.toList)
      · rw [h1, h2] at hr; exact .inr (.inl ⟨rfl, rfl, hr⟩)
      · rw [h1, h2] at hr; exact .inr (.inr ⟨rfl, rfl, by rw [hr]; simp⟩)
    · rw [h1] at hr; exact .inl ⟨rfl, hr⟩
  clear hr
  rcases hr2 with ⟨h1, rfl⟩ | ⟨h1, h2, rfl⟩ | ⟨h1, h2, h3⟩
  all_goals (
    go_enter Tryz.func133, Tryz.ntmps133
    go_wp2
    go_ret
    first | exact ⟨rfl, below2 _ _ _⟩ | exact ⟨by rw [h3], below2 _ _ _⟩)

theorem eqQ (a b c d : ByteArray) (w : World) : (Op.equalIn 10000 63 (.agg #[.string a, .string b]) (.agg #[.string c, .string d])).run Tryz.prog w = .ok ((a.toList == c.toList) && (b.toList == d.toList)) w := by
  have u3 := Tryz.underlying9
  have hS : Tryz.prog.underlying 63 = some (.struct (Tryz.prog.fieldsOf 63)) := by kernel_rfl
  have hp : Tryz.prog.stoodInHeld 63 = false := by kernel_rfl
  rw [show (10000 : Nat) = 9999 + 1 from rfl, run_equalIn_agg w 9999 63 _ _ hS hp]
  simp only [Program.fieldsOf, Tryz.underlying63]
  go_simp
  by_cases h1 : a.toList = c.toList
  · by_cases h2 : b.toList = d.toList <;> simp [h1, h2]
  · simp [h1]
theorem qd_ins {w w4 : World} {v4 : Value} {base n j : Nat} {xs : List Qd} {x : Qd} {vss : List (List Value)} {H : Nat → Nat → Nat} {Q : Nat → Prop} (hV : VRecs w Q 2 (xs.map qdF) vss H) (hxl : xs.length = n) (hjn : j ≤ n) (hB4 : Below w.heap.size w w4) (hx1 : x.n.size ≤ 9223372036854775807) (hx2 : x.d.size ≤ 9223372036854775807) (hQ : ∀ k, base ≤ k → Q k)
    (ho4 : w4.ownsRow base 63 2 v4 (n + 1) (inAt j [.string x.n, .string x.d] vss).flatten) : ∃ a' c', v4 = .slice a' (n + 1) c' ∧ ROwn w4 a' (n + 1) c' 2 63 ((inAt j x xs).map qdF) Q := by
  obtain ⟨H4, hV5⟩ := (hV.below hB4).ins (p := j) (r := qdF x) (vs := [.string x.n, .string x.d]) (hh := fun _ => 0) rfl rfl (fun i f hf => by
    rcases i with _ | _ | i <;> simp [qdF] at hf <;> subst hf
    · exact ⟨_, rfl, rfl, hx1⟩
    · exact ⟨_, rfl, rfl, hx2⟩) (fun i zs h hz => by rcases i with _ | _ | i <;> simp [qdF] at h) (fun i i2 zs zs2 h => by rcases i with _ | _ | i <;> simp [qdF] at h) (by rw [List.length_map]; omega)
  have h45 : VRecs w4 Q 2 ((inAt j x xs).map qdF) (inAt j [.string x.n, .string x.d] vss) H4 := by rw [inAt_map]; exact hV5
  have hle : ((inAt j x xs).map qdF).length = n + 1 := by rw [List.length_map, inAt_len (by omega), hxl]
  obtain ⟨a', c', e, hR⟩ := h45.own ho4 hle.symm (by decide) (fun g hg => hQ g (ho4.lt g hg).1)
  rw [hle] at e hR
  exact ⟨a', c', e, hR⟩
theorem slessQ_is (a b : Qd) (w : World) (r : Bool) (h : lessQ a b = r) : Calls Tryz.prog 133 #[.agg #[.string a.n, .string a.d], .agg #[.string b.n, .string b.d]] w fun e w' => e = .returned (.bool r) ∧ Below w.heap.size w w' := by
  rw [← h]
  exact slessQ_any a b w

def PutQAns (t : Qd) (zs : List Qd) (B : Nat) (w : World) (e : Ending) (w' : World) : Prop := ∃ a' l' c' zs', e = .returned (.slice a' l' c') ∧ ROwn w' a' l' c' 2 63 (zs'.map qdF) (fun k => B ≤ k) ∧ PutQ t zs zs' ∧ Below w.heap.size w w'

set_option maxRecDepth 100000 in
set_option maxHeartbeats 6400000 in
theorem sputQ_any (a : Option Addr) (len cap : Nat) (zs : List Qd) (x : Qd) (B : Nat) (w : World) (ho : ROwn w a len cap 2 63 (zs.map qdF) (fun k => B ≤ k)) (hB : B ≤ w.heap.size) (hl : len ≤ 64) (hx1 : x.n.size ≤ 9223372036854775807) (hx2 : x.d.size ≤ 9223372036854775807) :
    Calls Tryz.prog 76 #[.slice a len cap, .agg #[.string x.n, .string x.d]] w (PutQAns x zs B w) := by
  have hll : zs.length = len := by simpa using ho.1
  have hlc : len ≤ cap := ho.2.1
  have hcm : cap ≤ 9223372036854775807 := ho.2.2.1
  have HR := hidK ho.row
  have HOW0 := hidK ho
  obtain ⟨vss, H, hV, hcell⟩ := ho.recs
  have hvl : vss.length = len := by rw [hV.len, List.length_map, hll]
  have HC : Hid (∀ (j : Nat) u, vss.flatten[j]? = some u → ∃ b, a = some ⟨b, 0, none⟩ ∧ w.cell? ⟨b, j, none⟩ = some u) := fun j u hj => by
    obtain ⟨b, e, _, h3⟩ := hcell j u hj
    exact ⟨b, e, h3⟩
  have HVA := hidK hV.all
  have HV1 := hidK hV.one
  have HFIN : Hid (∀ (w4 : World) v4 base k, k ≤ len → w.heap.size ≤ base → Below w.heap.size w w4 → w4.ownsRow base 63 2 v4 (len + 1) (inAt k [.string x.n, .string x.d] vss).flatten → ∃ a' c', v4 = .slice a' (len + 1) c' ∧ ROwn w4 a' (len + 1) c' 2 63 ((inAt k x zs).map qdF) (fun k => B ≤ k)) := fun w4 v4 base k hk hbs hB4 ho4 => qd_ins hV hll hk hB4 hx1 hx2 (fun k hk => by omega) ho4
  obtain ⟨i5, hi5', hz0, hz1, hz2⟩ := info_parts infoqd
  have HI0 := hidK (And.intro hi5' (And.intro hz0 (And.intro hz1 hz2)))
  clear hi5' hz0 hz1 hz2 hV hcell ho
  go_enter Tryz.func76, Tryz.ntmps76
  go_wp2
  go_loopw [5] (fun vi wr => ∃ k : Nat, k ≤ len ∧ vi = .int .i64 k ∧ Hid (∀ (j : Nat) y, j < k → zs[j]? = some y → lessQ y x = true) ∧ Hid (Below (w.heap.size + 1) (w.alloc (.cells #[.string x.n, .string x.d] 63)) wr)) (fun vi _ => len - (intOf vi).toNat)
  case atStart => exact ⟨0, by omega, rfl, fun j y hj => by omega, Below.refl _ _⟩
  case round =>
    obtain ⟨k, hk, rfl, HE, HL⟩ := hrel
    have hLs : w.heap.size + 1 ≤ wr.heap.size := by have := HL.out.size; simpa using this
    have HB := hidK ((below1 w (.cells #[.string x.n, .string x.d] 63)).trans (HL.out.mono (by omega)))
    have Bx := hidK ((HL.out.block w.heap.size (by omega)).trans (heap_alloc_new w (.cells #[.string x.n, .string x.d] 63)))
    by_cases hlt : k < len
    · obtain ⟨b, o, y, rfl, hb, hx, hat⟩ := qd_at (HR.out.below HB.out) hlt
      obtain ⟨-, -, hc0, hc1⟩ := qd_cells hat
      have HXy := hidK hx
      have hbw : b < wr.heap.size := hb
      have HC0 := hidK hc0
      have HC1 := hidK hc1
      have HBW := hidK hbw
      have hk1 : (k : Int) < len := by omega
      have hk2 : decide ((k : Int) < len) = true := by simp; omega
      clear hb hat hx
      cases hless : lessQ y x
      · have HLS := hidK hless
        clear hless
        have Gx : Hid (wr.heap[w.heap.size]? = some (.cells #[.string x.n, .string x.d] 63 (0, 0))) := Bx.out
        have HW : Hid (Below w.heap.size w wr) := HB.out
        have x0 := fun q : Wd wr => q.slot (o := 0) Gx.out rfl
        have x1 := fun q : Wd wr => q.slot (o := 1) Gx.out rfl
        have yn : ∀ q : Wd wr, q.w.cell? ⟨b, o + k * 2, none⟩ = some (.string y.n) := fun q => (q.cell (hbw)).trans (hc0)
        have yd : ∀ q : Wd wr, q.w.cell? ⟨b, o + k * 2 + 1, none⟩ = some (.string y.d) := fun q => (q.cell (hbw)).trans (hc1)
        have hne0 := Wd.ne wr
        have HC0 := hidK (fun q : Wd wr => slessQ_is y x q.w false HLS.out)
        go_wp2_with fail
        refine wp_region_wide (by kernel_rfl) (by kernel_rfl) ?_
        repeat (go_big_quiet_step (first | (go_at_call 133; exact Calls.wide (HC0.out _)) | fail))
        refine wpQuiet_nil ?_
        rintro _ ⟨q2, rfl⟩
        have HB1 := upB HW q2.b
        have Cx := upK Gx q2.b
        clear hne0 HW HB HC0 x0 x1 yn yd Gx Bx hc0 hc1 hbw
        have HB := HB1
        clear HB1
        have Bx := Cx
        clear Cx
        have hbw : b < q2.w.heap.size := Nat.lt_of_lt_of_le HBW.out q2.b.size
        have hc0 := (q2.cell HBW.out).trans HC0.out
        have hc1 := (q2.cell HBW.out).trans HC1.out
        by_cases he : y = x
        · have HP : Hid (PutQ x zs zs) := .inl ⟨he ▸ List.mem_of_getElem? HXy.out, rfl⟩
          have hq1 : (y.n.toList == x.n.toList) = true := tl_yes (by rw [he])
          have hq2 : (y.d.toList == x.d.toList) = true := tl_yes (by rw [he])
          have hn1 : y.n = x.n := by rw [he]
          have hn2 : y.d = x.d := by rw [he]
          clear he
          have hqe : ∀ W : World, (Op.equalIn 10000 63 (.agg #[.string y.n, .string y.d]) (.agg #[.string x.n, .string x.d])).run Tryz.prog W = .ok true W := fun W => by rw [eqQ, hq1, hq2]; rfl
          clear hn1 hn2
          have Gx : Hid (q2.w.heap[w.heap.size]? = some (.cells #[.string x.n, .string x.d] 63 (0, 0))) := Bx.out
          have HW : Hid (Below w.heap.size w q2.w) := HB.out
          have x0 := fun q : Wd q2.w => q.slot (o := 0) Gx.out rfl
          have x1 := fun q : Wd q2.w => q.slot (o := 1) Gx.out rfl
          have yn : ∀ q : Wd q2.w, q.w.cell? ⟨b, o + k * 2, none⟩ = some (.string y.n) := fun q => (q.cell (hbw)).trans (hc0)
          have yd : ∀ q : Wd q2.w, q.w.cell? ⟨b, o + k * 2 + 1, none⟩ = some (.string y.d) := fun q => (q.cell (hbw)).trans (hc1)
          have hne0 := Wd.ne q2.w
          go_wp2_with fail
          refine wp_region_wide (by kernel_rfl) (by kernel_rfl) ?_
          repeat (go_big_quiet_step (first | fail))
          refine wpQuiet_nil ?_
          rintro _ ⟨q3, rfl⟩
          have HB2 := upB HW q3.b
          have Cx := upK Gx q3.b
          clear hne0 HW HB x0 x1 yn yd Gx Bx hc0 hc1 hbw hqe
          have HB := HB2
          clear HB2
          have Bx := Cx
          clear Cx
          go_wp2
          go_ret
          exact ⟨_, _, _, _, rfl, HOW0.out.below HB.out, HP.out, HB.out⟩
        have HP : Hid (PutQ x zs (inAt k x zs)) := .inr ⟨k, by omega, rfl, HE.out, fun z hz => by rw [HXy.out] at hz; cases hz; exact lessQ_tot HLS.out he⟩
        have hq1 : ((y.n.toList == x.n.toList) && (y.d.toList == x.d.toList)) = false := by
          cases h1 : (y.n.toList == x.n.toList)
          · rfl
          · cases h2 : (y.d.toList == x.d.toList)
            · rfl
            · exact absurd (by have e1 := tl_inj h1; have e2 := tl_inj h2; obtain ⟨y1, y2⟩ := y; obtain ⟨x1, x2⟩ := x; cases e1; cases e2; rfl) he
        have hqe : ∀ W : World, (Op.equalIn 10000 63 (.agg #[.string y.n, .string y.d]) (.agg #[.string x.n, .string x.d])).run Tryz.prog W = .ok false W := fun W => by rw [eqQ, hq1]
        clear he
        have Gx : Hid (q2.w.heap[w.heap.size]? = some (.cells #[.string x.n, .string x.d] 63 (0, 0))) := Bx.out
        have HW : Hid (Below w.heap.size w q2.w) := HB.out
        have x0 := fun q : Wd q2.w => q.slot (o := 0) Gx.out rfl
        have x1 := fun q : Wd q2.w => q.slot (o := 1) Gx.out rfl
        have yn : ∀ q : Wd q2.w, q.w.cell? ⟨b, o + k * 2, none⟩ = some (.string y.n) := fun q => (q.cell (hbw)).trans (hc0)
        have yd : ∀ q : Wd q2.w, q.w.cell? ⟨b, o + k * 2 + 1, none⟩ = some (.string y.d) := fun q => (q.cell (hbw)).trans (hc1)
        have hne0 := Wd.ne q2.w
        go_wp2_with fail
        refine wp_region_wide (by kernel_rfl) (by kernel_rfl) ?_
        repeat (go_big_quiet_step (first | fail))
        refine wpQuiet_nil ?_
        rintro _ ⟨q3, rfl⟩
        have HB2 := upB HW q3.b
        have Cx := upK Gx q3.b
        clear hne0 HW HB x0 x1 yn yd Gx Bx hc0 hc1 hbw hqe
        have HB := HB2
        clear HB2
        have Bx := Cx
        clear Cx
        clear hq1
        have HCQ : Hid (∀ (j : Nat) u, vss.flatten[j]? = some u → ∃ b9, (some ⟨b, o, none⟩ : Option Addr) = some ⟨b9, 0, none⟩ ∧ b9 < q3.w.heap.size ∧ q3.w.cell? ⟨b9, j, none⟩ = some u) := fun j u hj => by
          obtain ⟨b, e, h3⟩ := HC.out j u hj
          exact ⟨b, e, Nat.lt_of_lt_of_le (cell_lt h3) HB.out.size, (cell_below HB.out (cell_lt h3)).trans h3⟩
        have HOW : Hid ((q3.w.alloc (.cells #[] 63)).ownsRow q3.w.heap.size 63 2 (.slice (some ⟨q3.w.heap.size, 0, none⟩) 0 0) 0 []) := World.ownsRow_made q3.w #[] 0 (Nat.le_refl _) (Nat.zero_le _) (by simp)
        have hik : (k : Int) ≤ cap := by omega
        have hkn : k ≤ cap := by omega
        have hcap : ¬ cap = k := by omega
        all_goals (
          go_wp2_with (first | (at_builtin; refine wpList_append_any rfl _ _ 30 rfl q3.w.heap.size 63 i5 (.agg #[.string ⟨#[]⟩, .string ⟨#[]⟩]) 2 32 Tryz.underlying30 HI0.out.1 HI0.out.2.1 HI0.out.2.2.1 HI0.out.2.2.2 rfl (by decide) _ _ _ rfl (HOW.out) _ k _ (vss.take k).flatten rfl (take_flat HVA.out (by omega)) (fun j u hu => by obtain ⟨g, e, hgl, h3⟩ := HCQ.out _ _ (take_at hu); cases e <;> exact ⟨_, rfl, by simp only [Addr.add_lit, Nat.zero_add]; exact (cell_below (below1 q3.w _) hgl).trans h3⟩) (mem_take_one HV1.out k).1 (by unfold maxLen; omega) (by omega) (by simp) ?_))
          intro v5 w5 hown5 hgr5
          replace hown5 : w5.ownsRow q3.w.heap.size 63 2 v5 k (vss.take k).flatten := by simpa using hown5
          have hb5 : Below q3.w.heap.size q3.w w5 := (below1 q3.w (.cells #[] 63)).grown hgr5 (by simp) (fun g hg => by simp [Value.ownBlock] at hg; omega)
          obtain ⟨s1, s2, s3, rfl⟩ := owns_slice hown5
          have HO5 := hidK hown5
          have H5 := hidK hb5
          have hs6 := hb5.size
          have Bx5 := upK Bx hb5
          obtain ⟨x0, x1⟩ := cs2 Bx5.out
          have hxl := lt_of_some Bx5.out
          clear hown5 hgr5 hb5 HOW
          go_wp2_with (first | (at_builtin; refine wpList_append_any rfl _ _ 30 rfl q3.w.heap.size 63 i5 (.agg #[.string ⟨#[]⟩, .string ⟨#[]⟩]) 2 32 Tryz.underlying30 HI0.out.1 HI0.out.2.1 HI0.out.2.2.1 HI0.out.2.2.2 rfl (by decide) _ _ _ rfl (HO5.out.alloc _) _ 1 _ [.string x.n, .string x.d] rfl rfl (fun j u hu => ⟨_, rfl, by rw [Addr.add_lit, Nat.zero_add, cellK (heap_alloc_new w5 _)]; simpa using hu⟩) (by simp [Value.oneCell']) (by unfold maxLen; omega) (by omega) (by simp; omega) ?_))
          intro v6 w6 hown6 hgr6
          have hb6 : Below q3.w.heap.size q3.w w6 := (H5.out.alloc H5.out.size _).grown hgr6 (by simp; omega) (fun g hg => (HO5.out.lt g hg).1)
          obtain ⟨r1, r2, r3, rfl⟩ := owns_slice hown6
          have HO6 := hidK hown6
          have H6 := hidK hb6
          have hs7 := hb6.size
          clear hown6 hgr6 hb6 x0 x1 hxl
          go_wp2_with (first | (at_builtin; refine wpList_append_any rfl _ _ 30 rfl q3.w.heap.size 63 i5 (.agg #[.string ⟨#[]⟩, .string ⟨#[]⟩]) 2 32 Tryz.underlying30 HI0.out.1 HI0.out.2.1 HI0.out.2.2.1 HI0.out.2.2.2 rfl (by decide) _ _ _ rfl (HO6.out) _ (len - k) _ (vss.drop k).flatten rfl (by rw [drop_flat HVA.out, hvl]) (fun j u hu => by first | (rw [List.drop_eq_nil_of_le (by omega)] at hu; simp at hu; done) | (obtain ⟨g, e, hgl, h3⟩ := HCQ.out _ _ (drop_at HVA.out (by omega) hu); cases e <;> exact ⟨_, rfl, by simp only [Addr.add_lit, Nat.zero_add]; exact (cell_below H6.out hgl).trans h3⟩)) (mem_take_one HV1.out k).2 (by unfold maxLen; omega) (by omega) (by omega) ?_))
          intro v7 w7 hown7 hgr7
          have hb7 : Below q3.w.heap.size q3.w w7 := H6.out.grown hgr7 (by omega) (fun g hg => (HO6.out.lt g hg).1)
          replace hown7 : w7.ownsRow q3.w.heap.size 63 2 v7 (len + 1) (inAt k [.string x.n, .string x.d] vss).flatten := by
            have e9 : k + 1 + (len - k) = len + 1 := by omega
            try rw [e9] at hown7
            simpa [inAt] using hown7
          have HB7 := upB HB hb7
          obtain ⟨a', c', rfl, hR⟩ := HFIN.out w7 v7 q3.w.heap.size k (by omega) HB.out.size HB7.out hown7
          have HR7 := hidK hR
          clear hown7 hgr7 hb7 hR hik hkn hcap
          go_wp2
          go_ret
          exact ⟨a', _, c', _, rfl, HR7.out, HP.out, HB7.out⟩)
      · have HLS := hidK hless
        clear hless
        have Gx : Hid (wr.heap[w.heap.size]? = some (.cells #[.string x.n, .string x.d] 63 (0, 0))) := Bx.out
        have HW : Hid (Below w.heap.size w wr) := HB.out
        have x0 := fun q : Wd wr => q.slot (o := 0) Gx.out rfl
        have x1 := fun q : Wd wr => q.slot (o := 1) Gx.out rfl
        have yn : ∀ q : Wd wr, q.w.cell? ⟨b, o + k * 2, none⟩ = some (.string y.n) := fun q => (q.cell (hbw)).trans (hc0)
        have yd : ∀ q : Wd wr, q.w.cell? ⟨b, o + k * 2 + 1, none⟩ = some (.string y.d) := fun q => (q.cell (hbw)).trans (hc1)
        have hne0 := Wd.ne wr
        have HC0 := hidK (fun q : Wd wr => slessQ_is y x q.w true HLS.out)
        go_wp2_with fail
        refine wp_region_wide (by kernel_rfl) (by kernel_rfl) ?_
        repeat (go_big_quiet_step (first | (go_at_call 133; exact Calls.wide (HC0.out _)) | fail))
        refine wpQuiet_nil ?_
        rintro _ ⟨q2, rfl⟩
        have HB1 := upB HW q2.b
        have Cx := upK Gx q2.b
        clear hne0 HW HB HC0 x0 x1 yn yd Gx Bx hc0 hc1 hbw
        have HB := HB1
        clear HB1
        have Bx := Cx
        clear Cx
        go_wp2
        refine ⟨⟨k + 1, by omega, by go_num, fun j z hj hz => ?_, HL.out.trans (q2.b.mono (by omega))⟩, by simp [intOf]; omega⟩
        by_cases e : j = k
        · subst e
          rw [HXy.out] at hz
          obtain rfl := Option.some.inj hz
          exact HLS.out
        · exact HE.out j z (by omega) hz
    · have hk1 : ¬ (k : Int) < len := by omega
      have hk2 : decide ((k : Int) < len) = false := by simp; omega
      have HP : Hid (PutQ x zs (inAt k x zs)) := .inr ⟨k, by omega, rfl, HE.out, fun z hz => by have := (List.getElem?_eq_some_iff.1 hz).1; omega⟩
      have Gx : Hid (wr.heap[w.heap.size]? = some (.cells #[.string x.n, .string x.d] 63 (0, 0))) := Bx.out
      have HW : Hid (Below w.heap.size w wr) := HB.out
      have x0 := fun q : Wd wr => q.slot (o := 0) Gx.out rfl
      have x1 := fun q : Wd wr => q.slot (o := 1) Gx.out rfl
      have hne0 := Wd.ne wr
      go_wp2_with fail
      refine wp_region_wide (by kernel_rfl) (by kernel_rfl) ?_
      repeat (go_big_quiet_step (first | fail))
      refine wpQuiet_nil ?_
      rintro _ ⟨q2, rfl⟩
      have HB1 := upB HW q2.b
      have Cx := upK Gx q2.b
      clear hne0 HW HB x0 x1 Gx Bx
      have HB := HB1
      clear HB1
      have Bx := Cx
      clear Cx
      have Gx : Hid (q2.w.heap[w.heap.size]? = some (.cells #[.string x.n, .string x.d] 63 (0, 0))) := Bx.out
      have HW : Hid (Below w.heap.size w q2.w) := HB.out
      have x0 := fun q : Wd q2.w => q.slot (o := 0) Gx.out rfl
      have x1 := fun q : Wd q2.w => q.slot (o := 1) Gx.out rfl
      have hne0 := Wd.ne q2.w
      go_wp2_with fail
      refine wp_region_wide (by kernel_rfl) (by kernel_rfl) ?_
      repeat (go_big_quiet_step (first | fail))
      refine wpQuiet_nil ?_
      rintro _ ⟨q3, rfl⟩
      have HB2 := upB HW q3.b
      have Cx := upK Gx q3.b
      clear hne0 HW HB x0 x1 Gx Bx
      have HB := HB2
      clear HB2
      have Bx := Cx
      clear Cx
      have HCQ : Hid (∀ (j : Nat) u, vss.flatten[j]? = some u → ∃ b9, a = some ⟨b9, 0, none⟩ ∧ b9 < q3.w.heap.size ∧ q3.w.cell? ⟨b9, j, none⟩ = some u) := fun j u hj => by
        obtain ⟨b, e, h3⟩ := HC.out j u hj
        exact ⟨b, e, Nat.lt_of_lt_of_le (cell_lt h3) HB.out.size, (cell_below HB.out (cell_lt h3)).trans h3⟩
      have HOW : Hid ((q3.w.alloc (.cells #[] 63)).ownsRow q3.w.heap.size 63 2 (.slice (some ⟨q3.w.heap.size, 0, none⟩) 0 0) 0 []) := World.ownsRow_made q3.w #[] 0 (Nat.le_refl _) (Nat.zero_le _) (by simp)
      have hik : (k : Int) ≤ cap := by omega
      have hkn : k ≤ cap := by omega
      rcases a with _ | ⟨b2, f2, sp⟩
      · have hl0 : len = 0 := Classical.byContradiction fun hne0 => by
          have h1 : vss[0]? = some (vss[0]'(by omega)) := List.getElem?_eq_getElem _
          have h2 : 0 < (vss[0]'(by omega)).length := by rw [HVA.out 0 _ h1]; decide
          obtain ⟨g, e, _⟩ := HCQ.out _ _ (flat_at HVA.out h1 (List.getElem?_eq_getElem h2))
          cases e
        obtain rfl : k = 0 := by omega
        subst hl0
        by_cases hcap : cap = 0
        all_goals (
          go_wp2_with (first | (at_builtin; refine wpList_append_any rfl _ _ 30 rfl q3.w.heap.size 63 i5 (.agg #[.string ⟨#[]⟩, .string ⟨#[]⟩]) 2 32 Tryz.underlying30 HI0.out.1 HI0.out.2.1 HI0.out.2.2.1 HI0.out.2.2.2 rfl (by decide) _ _ _ rfl (HOW.out) _ 0 _ (vss.take 0).flatten rfl (take_flat HVA.out (by omega)) (fun j u hu => by obtain ⟨g, e, hgl, h3⟩ := HCQ.out _ _ (take_at hu); cases e <;> exact ⟨_, rfl, by simp only [Addr.add_lit, Nat.zero_add]; exact (cell_below (below1 q3.w _) hgl).trans h3⟩) (mem_take_one HV1.out 0).1 (by unfold maxLen; omega) (by omega) (by simp) ?_))
          intro v5 w5 hown5 hgr5
          replace hown5 : w5.ownsRow q3.w.heap.size 63 2 v5 0 (vss.take 0).flatten := by simpa using hown5
          have hb5 : Below q3.w.heap.size q3.w w5 := (below1 q3.w (.cells #[] 63)).grown hgr5 (by simp) (fun g hg => by simp [Value.ownBlock] at hg; omega)
          obtain ⟨s1, s2, s3, rfl⟩ := owns_slice hown5
          have HO5 := hidK hown5
          have H5 := hidK hb5
          have hs6 := hb5.size
          have Bx5 := upK Bx hb5
          obtain ⟨x0, x1⟩ := cs2 Bx5.out
          have hxl := lt_of_some Bx5.out
          clear hown5 hgr5 hb5 HOW
          go_wp2_with (first | (at_builtin; refine wpList_append_any rfl _ _ 30 rfl q3.w.heap.size 63 i5 (.agg #[.string ⟨#[]⟩, .string ⟨#[]⟩]) 2 32 Tryz.underlying30 HI0.out.1 HI0.out.2.1 HI0.out.2.2.1 HI0.out.2.2.2 rfl (by decide) _ _ _ rfl (HO5.out.alloc _) _ 1 _ [.string x.n, .string x.d] rfl rfl (fun j u hu => ⟨_, rfl, by rw [Addr.add_lit, Nat.zero_add, cellK (heap_alloc_new w5 _)]; simpa using hu⟩) (by simp [Value.oneCell']) (by unfold maxLen; omega) (by omega) (by simp; omega) ?_))
          intro v6 w6 hown6 hgr6
          have hb6 : Below q3.w.heap.size q3.w w6 := (H5.out.alloc H5.out.size _).grown hgr6 (by simp; omega) (fun g hg => (HO5.out.lt g hg).1)
          obtain ⟨r1, r2, r3, rfl⟩ := owns_slice hown6
          have HO6 := hidK hown6
          have H6 := hidK hb6
          have hs7 := hb6.size
          clear hown6 hgr6 hb6 x0 x1 hxl
          go_wp2_with (first | (at_builtin; refine wpList_append_any rfl _ _ 30 rfl q3.w.heap.size 63 i5 (.agg #[.string ⟨#[]⟩, .string ⟨#[]⟩]) 2 32 Tryz.underlying30 HI0.out.1 HI0.out.2.1 HI0.out.2.2.1 HI0.out.2.2.2 rfl (by decide) _ _ _ rfl (HO6.out) _ (0 - 0) _ (vss.drop 0).flatten rfl (by rw [drop_flat HVA.out, hvl]) (fun j u hu => by first | (rw [List.drop_eq_nil_of_le (by omega)] at hu; simp at hu; done) | (obtain ⟨g, e, hgl, h3⟩ := HCQ.out _ _ (drop_at HVA.out (by omega) hu); cases e <;> exact ⟨_, rfl, by simp only [Addr.add_lit, Nat.zero_add]; exact (cell_below H6.out hgl).trans h3⟩)) (mem_take_one HV1.out 0).2 (by unfold maxLen; omega) (by omega) (by omega) ?_))
          intro v7 w7 hown7 hgr7
          have hb7 : Below q3.w.heap.size q3.w w7 := H6.out.grown hgr7 (by omega) (fun g hg => (HO6.out.lt g hg).1)
          replace hown7 : w7.ownsRow q3.w.heap.size 63 2 v7 (0 + 1) (inAt 0 [.string x.n, .string x.d] vss).flatten := by
            have e9 : 0 + 1 + (0 - 0) = 0 + 1 := by omega
            try rw [e9] at hown7
            simpa [inAt] using hown7
          have HB7 := upB HB hb7
          obtain ⟨a', c', rfl, hR⟩ := HFIN.out w7 v7 q3.w.heap.size 0 (by omega) HB.out.size HB7.out hown7
          have HR7 := hidK hR
          clear hown7 hgr7 hb7 hR hik hkn hcap
          go_wp2
          go_ret
          exact ⟨a', _, c', _, rfl, HR7.out, HP.out, HB7.out⟩)
      by_cases hcap : cap = k
      all_goals (
        go_wp2_with (first | (at_builtin; refine wpList_append_any rfl _ _ 30 rfl q3.w.heap.size 63 i5 (.agg #[.string ⟨#[]⟩, .string ⟨#[]⟩]) 2 32 Tryz.underlying30 HI0.out.1 HI0.out.2.1 HI0.out.2.2.1 HI0.out.2.2.2 rfl (by decide) _ _ _ rfl (HOW.out) _ k _ (vss.take k).flatten rfl (take_flat HVA.out (by omega)) (fun j u hu => by obtain ⟨g, e, hgl, h3⟩ := HCQ.out _ _ (take_at hu); cases e <;> exact ⟨_, rfl, by simp only [Addr.add_lit, Nat.zero_add]; exact (cell_below (below1 q3.w _) hgl).trans h3⟩) (mem_take_one HV1.out k).1 (by unfold maxLen; omega) (by omega) (by simp) ?_))
        intro v5 w5 hown5 hgr5
        replace hown5 : w5.ownsRow q3.w.heap.size 63 2 v5 k (vss.take k).flatten := by simpa using hown5
        have hb5 : Below q3.w.heap.size q3.w w5 := (below1 q3.w (.cells #[] 63)).grown hgr5 (by simp) (fun g hg => by simp [Value.ownBlock] at hg; omega)
        obtain ⟨s1, s2, s3, rfl⟩ := owns_slice hown5
        have HO5 := hidK hown5
        have H5 := hidK hb5
        have hs6 := hb5.size
        have Bx5 := upK Bx hb5
        obtain ⟨x0, x1⟩ := cs2 Bx5.out
        have hxl := lt_of_some Bx5.out
        clear hown5 hgr5 hb5 HOW
        go_wp2_with (first | (at_builtin; refine wpList_append_any rfl _ _ 30 rfl q3.w.heap.size 63 i5 (.agg #[.string ⟨#[]⟩, .string ⟨#[]⟩]) 2 32 Tryz.underlying30 HI0.out.1 HI0.out.2.1 HI0.out.2.2.1 HI0.out.2.2.2 rfl (by decide) _ _ _ rfl (HO5.out.alloc _) _ 1 _ [.string x.n, .string x.d] rfl rfl (fun j u hu => ⟨_, rfl, by rw [Addr.add_lit, Nat.zero_add, cellK (heap_alloc_new w5 _)]; simpa using hu⟩) (by simp [Value.oneCell']) (by unfold maxLen; omega) (by omega) (by simp; omega) ?_))
        intro v6 w6 hown6 hgr6
        have hb6 : Below q3.w.heap.size q3.w w6 := (H5.out.alloc H5.out.size _).grown hgr6 (by simp; omega) (fun g hg => (HO5.out.lt g hg).1)
        obtain ⟨r1, r2, r3, rfl⟩ := owns_slice hown6
        have HO6 := hidK hown6
        have H6 := hidK hb6
        have hs7 := hb6.size
        clear hown6 hgr6 hb6 x0 x1 hxl
        go_wp2_with (first | (at_builtin; refine wpList_append_any rfl _ _ 30 rfl q3.w.heap.size 63 i5 (.agg #[.string ⟨#[]⟩, .string ⟨#[]⟩]) 2 32 Tryz.underlying30 HI0.out.1 HI0.out.2.1 HI0.out.2.2.1 HI0.out.2.2.2 rfl (by decide) _ _ _ rfl (HO6.out) _ (len - k) _ (vss.drop k).flatten rfl (by rw [drop_flat HVA.out, hvl]) (fun j u hu => by first | (rw [List.drop_eq_nil_of_le (by omega)] at hu; simp at hu; done) | (obtain ⟨g, e, hgl, h3⟩ := HCQ.out _ _ (drop_at HVA.out (by omega) hu); cases e <;> exact ⟨_, rfl, by simp only [Addr.add_lit, Nat.zero_add]; exact (cell_below H6.out hgl).trans h3⟩)) (mem_take_one HV1.out k).2 (by unfold maxLen; omega) (by omega) (by omega) ?_))
        intro v7 w7 hown7 hgr7
        have hb7 : Below q3.w.heap.size q3.w w7 := H6.out.grown hgr7 (by omega) (fun g hg => (HO6.out.lt g hg).1)
        replace hown7 : w7.ownsRow q3.w.heap.size 63 2 v7 (len + 1) (inAt k [.string x.n, .string x.d] vss).flatten := by
          have e9 : k + 1 + (len - k) = len + 1 := by omega
          try rw [e9] at hown7
          simpa [inAt] using hown7
        have HB7 := upB HB hb7
        obtain ⟨a', c', rfl, hR⟩ := HFIN.out w7 v7 q3.w.heap.size k (by omega) HB.out.size HB7.out hown7
        have HR7 := hidK hR
        clear hown7 hgr7 hb7 hR hik hkn hcap
        go_wp2
        go_ret
        exact ⟨a', _, c', _, rfl, HR7.out, HP.out, HB7.out⟩)

def Wn (c : Cl) (k : Nat) (q : Qd) : Prop := ∃ (j : Nat) (p : Pd), j < k ∧ c.ps[j]? = some p ∧ ¬ p.d = ⟨#[]⟩ ∧ ∃ (i : Nat) (t : ByteArray) (v : Vd), p.zs[i]? = some t ∧ IsBd c t v ∧ q = ⟨v.n, p.d⟩
def Wc (c : Cl) (p : Pd) (k : Nat) (q : Qd) : Prop := ∃ (i : Nat) (t : ByteArray) (v : Vd), i < k ∧ p.zs[i]? = some t ∧ IsBd c t v ∧ q = ⟨v.n, p.d⟩
def WanAns (c : Cl) (B : Nat) (w : World) (e : Ending) (w' : World) : Prop := ∃ a' l' c' zs', e = .returned (.slice a' l' c') ∧ ROwn w' a' l' c' 2 63 (zs'.map qdF) (fun k => B ≤ k) ∧ RQ zs' ∧ (∀ q, q ∈ zs' ↔ Wn c c.ps.length q) ∧ zs'.length ≤ 24 ∧ Below w.heap.size w w'

def PqF (t : Qd) (zs : List Qd) (B : Nat) : Fact := fun v w => ∃ a' l' c' zs', v = .slice a' l' c' ∧ ROwn w a' l' c' 2 63 (zs'.map qdF) (fun k => B ≤ k) ∧ PutQ t zs zs'
theorem PqF.mono {t : Qd} {zs : List Qd} {B : Nat} : Fact.Mono (PqF t zs B) := by
  rintro v w w' ⟨a', l', c', zs', h1, h2, h3⟩ hb
  exact ⟨a', l', c', zs', h1, h2.below hb, h3⟩
theorem IsBd.nameQ {c : Cl} {t : ByteArray} {v v' : Vd} (hx : RisBy Xd.n c.xs) (h : IsBd c t v) (h' : IsBd c t v') : v.n = v'.n := by
  obtain ⟨i, j, x, h1, h2, h3, h4⟩ := h
  obtain ⟨i', j', x', k1, k2, k3, k4⟩ := h'
  obtain ⟨_, rfl⟩ := hx.inj h1 k1 (h2.trans k2.symm)
  rw [h4, k4]
theorem sbindQ_yes (d : Ad) (c : Cl) (t : ByteArray) (w : World) (hr : ClRow w d c.raw) (hT : RightI c) {j : Nat} {v : Vd} (hv : c.vs[j]? = some v) (hb : IsBd c t v) :
    Calls Tryz.prog 77 #[.agg #[.slice d.a1 d.l1 d.c1, .slice d.a2 d.l2 d.c2, .slice d.a3 d.l3 d.c3, .slice d.a4 d.l4 d.c4, .slice d.a5 d.l5 d.c5, .int .i64 c.now], .string t] w fun e w' => e = .returned (.int .i64 j) ∧ Below w.heap.size w w' := by
  refine (sbind_any d c t w hr hT.2.1.2.2.2.1.2.2 hT.2.1.2.2.1.2.2 (fun j v hv e => by have h9 := (hT.2.1.2.2.1.2.1 j v hv).1; rw [e] at h9; have h8 := h9.1; revert h8; decide)).mono ?_
  rintro e w' ⟨hb2, ⟨j', v', h1, h2, rfl⟩ | ⟨hno, rfl⟩⟩
  · obtain ⟨rfl, _⟩ := hT.2.1.2.2.1.2.2.inj h1 hv (h2.nameQ hT.2.1.2.2.2.1.2.2 hb)
    exact ⟨rfl, hb2⟩
  · exact absurd hb (hno v)
theorem Wc.step {c : Cl} {p : Pd} {k : Nat} {t : ByteArray} {v : Vd} {q : Qd} (hx : RisBy Xd.n c.xs) (ht : p.zs[k]? = some t) (hb : IsBd c t v) : Wc c p (k + 1) q ↔ Wc c p k q ∨ q = ⟨v.n, p.d⟩ := by
  constructor
  · rintro ⟨i, t', v', h1, h2, h3, rfl⟩
    by_cases e : i = k
    · subst e
      rw [ht] at h2
      obtain rfl := Option.some.inj h2
      exact .inr (by rw [h3.nameQ hx hb])
    · exact .inl ⟨i, t', v', by omega, h2, h3, rfl⟩
  · rintro (⟨i, t', v', h1, h2, h3, rfl⟩ | rfl)
    · exact ⟨i, t', v', by omega, h2, h3, rfl⟩
    · exact ⟨k, t, v, by omega, ht, hb, rfl⟩
theorem Wn.yes {c : Cl} {k : Nat} {p : Pd} {q : Qd} (hp : c.ps[k]? = some p) (hd : ¬ p.d = ⟨#[]⟩) : Wn c (k + 1) q ↔ Wn c k q ∨ Wc c p p.zs.length q := by
  constructor
  · rintro ⟨j, p', h1, h2, h3, i, t, v, h4, h5, h6⟩
    by_cases e : j = k
    · subst e
      rw [hp] at h2
      obtain rfl := Option.some.inj h2
      exact .inr ⟨i, t, v, (List.getElem?_eq_some_iff.1 h4).1, h4, h5, h6⟩
    · exact .inl ⟨j, p', by omega, h2, h3, i, t, v, h4, h5, h6⟩
  · rintro (⟨j, p', h1, h2, h3, h4⟩ | ⟨i, t, v, _, h4, h5, h6⟩)
    · exact ⟨j, p', by omega, h2, h3, h4⟩
    · exact ⟨k, p, by omega, hp, hd, i, t, v, h4, h5, h6⟩
theorem Wn.no {c : Cl} {k : Nat} {p : Pd} {q : Qd} (hp : c.ps[k]? = some p) (hd : p.d = ⟨#[]⟩) : Wn c (k + 1) q ↔ Wn c k q := by
  constructor
  · rintro ⟨j, p', h1, h2, h3, h4⟩
    by_cases e : j = k
    · subst e
      rw [hp] at h2
      obtain rfl := Option.some.inj h2
      exact absurd hd h3
    · exact ⟨j, p', by omega, h2, h3, h4⟩
  · rintro ⟨j, p', h1, h2, h3, h4⟩
    exact ⟨j, p', by omega, h2, h3, h4⟩

set_option maxRecDepth 100000 in
set_option maxHeartbeats 12800000 in
theorem swan_any (d : Ad) (c : Cl) (w : World) (hr : ClRow w d c.raw) (hT : RightI c) :
    Calls Tryz.prog 28 #[.agg #[.slice d.a1 d.l1 d.c1, .slice d.a2 d.l2 d.c2, .slice d.a3 d.l3 d.c3, .slice d.a4 d.l4 d.c4, .slice d.a5 d.l5 d.c5, .int .i64 c.now]] w (WanAns c (w.heap.size + 1) w) := by
  obtain ⟨a1, l1, y1, a2, l2, y2, a3, l3, y3, a4, l4, y4, a5, l5, y5⟩ := d
  dsimp only
  have HR := hidK hr
  have hl1 : c.ns.length = l1 := by simpa using (show (c.ns.map ndF).length = l1 from hr.n.1)
  have hm1 : l1 ≤ 9223372036854775807 := Nat.le_trans hr.n.2.1 hr.n.2.2.1
  have hl2 : c.ks.length = l2 := by simpa using (show (c.ks.map kdF).length = l2 from hr.k.1)
  have hm2 : l2 ≤ 9223372036854775807 := Nat.le_trans hr.k.2.1 hr.k.2.2.1
  have hl3 : c.vs.length = l3 := by simpa using (show (c.vs.map vdF).length = l3 from hr.v.1)
  have hm3 : l3 ≤ 9223372036854775807 := Nat.le_trans hr.v.2.1 hr.v.2.2.1
  have hl4 : c.xs.length = l4 := by simpa using (show (c.xs.map xdF).length = l4 from hr.x.1)
  have hm4 : l4 ≤ 9223372036854775807 := Nat.le_trans hr.x.2.1 hr.x.2.2.1
  have hl5 : c.ps.length = l5 := by simpa using (show (c.ps.map pdF).length = l5 from hr.p.1)
  have hm5 : l5 ≤ 9223372036854775807 := Nat.le_trans hr.p.2.1 hr.p.2.2.1
  clear hr
  have HT := hidK hT
  clear hT
  have h58 : c.ps.length ≤ 8 := by have := HT.out.sm.p; omega
  go_enter Tryz.func28, Tryz.ntmps28
  go_wp2
  go_loopw [3, 4] (fun vo vi wr => ∃ (k : Nat) (ca : Option Addr) (cl cc : Nat) (ys : List Qd), k ≤ l5 ∧ vi = .int .i64 k ∧ vo = .slice ca cl cc ∧ Hid (ROwn wr ca cl cc 2 63 (ys.map qdF) (fun j => w.heap.size + 1 ≤ j) ∧ RQ ys ∧ (∀ q, q ∈ ys ↔ Wn c k q) ∧ ys.length ≤ 3 * k) ∧ Hid (Below (w.heap.size + 1) (w.alloc (.cells #[.slice a1 l1 y1, .slice a2 l2 y2, .slice a3 l3 y3, .slice a4 l4 y4, .slice a5 l5 y5, .int .i64 c.now] 38)) wr)) (fun _ vi _ => l5 - (intOf vi).toNat)
  case atStart => exact ⟨0, _, 0, 0, [], by omega, rfl, rfl, ⟨⟨rfl, Nat.le_refl _, by omega, .inl rfl⟩, List.Pairwise.nil, fun q => ⟨fun h => by simp at h, fun ⟨j, p, h, _⟩ => by omega⟩, by simp⟩, by first | exact Below.refl _ _ | exact (below1 _ _).mono (by simp)⟩
  case round =>
    obtain ⟨k, ca, cl, cc, ys, hk, rfl, rfl, HQ, HL⟩ := hrel
    have Bk := hidK ((HL.out.block w.heap.size (by omega)).trans (heap_alloc_new w (.cells #[.slice a1 l1 y1, .slice a2 l2 y2, .slice a3 l3 y3, .slice a4 l4 y4, .slice a5 l5 y5, .int .i64 c.now] 38)))
    have HB := hidK ((below1 w (.cells #[.slice a1 l1 y1, .slice a2 l2 y2, .slice a3 l3 y3, .slice a4 l4 y4, .slice a5 l5 y5, .int .i64 c.now] 38)).trans (HL.out.mono (by omega)))
    have hLs : w.heap.size + 1 ≤ wr.heap.size := by have h8 := HL.out.size; rw [size1] at h8; exact h8
    by_cases hlt : k < l5
    · obtain ⟨b, o, x, rfl, hb, hx, hat⟩ := pd_at (HR.out.p.below HB.out) hlt
      obtain ⟨va, vl, vc, hvr, z0, z2, z4, c0, c1, c2, c3, c4, c5⟩ := pd_cells hat
      have HXx := hidK hx
      have HTx := hidK hvr
      have HZx0 := hidK z0
      have HZx2 := hidK z2
      have HZx4 := hidK z4
      clear hat hx z0 z2 z4 hvr
      have hbw := hb
      clear hb
      have hk1 : (k : Int) < l5 := by omega
      obtain ⟨W1, hW1⟩ : ∃ W1, W1 = wr := ⟨_, rfl⟩
      subst hW1
      have hxz : x.zs.length = vl := HTx.out.1
      have hv3 : vl ≤ 3 := by have h9 : (x.zs.length : Int) ≤ 3 := (HT.out.2.1.2.2.2.2.2.1 k x HXx.out).2.2.2.1.1; omega
      obtain ⟨k0, k1, k2, k3, k4, k5⟩ := cs6 Bk.out
      have ltk_0 := lt_of_some Bk.out
      go_wp2
      clear k0 k1 k2 k3 k4 k5 ltk_0
      clear c0 c1 c2 c3 c4 c5 hbw
      go_loopw [3, 6] (fun vo vi wr => ∃ (n : Nat) (ca : Option Addr) (cl cc : Nat) (ys : List Qd), n ≤ vl ∧ (x.d = ⟨#[]⟩ → n = 0) ∧ vi = .int .i64 n ∧ vo = .slice ca cl cc ∧ Hid (ROwn wr ca cl cc 2 63 (ys.map qdF) (fun j => w.heap.size + 1 ≤ j) ∧ RQ ys ∧ (∀ q, q ∈ ys ↔ Wn c k q ∨ Wc c x n q) ∧ ys.length ≤ 3 * k + n) ∧ Hid (Below (W1.heap.size + 1) (W1.alloc (.cells #[.string x.n, .int .i64 x.c, .string x.z, .slice va vl vc, .string x.d, .int .i64 x.p] 107)) wr)) (fun _ vi _ => vl - (intOf vi).toNat)
      case atStart => exact ⟨0, _, _, _, ys, by omega, fun _ => rfl, rfl, rfl, ⟨HQ.out.1.below (below1 _ _), HQ.out.2.1, fun q => by rw [HQ.out.2.2.1]; exact ⟨.inl, fun h => h.elim id (fun ⟨i, t, v, h, _⟩ => by omega)⟩, by have := HQ.out.2.2.2; omega⟩, Below.refl _ _⟩
      case round =>
        clear HQ
        obtain ⟨n, ca, cl, cc, ys, hn, hn0, rfl, rfl, HQ, HL2⟩ := hrel
        have hbP : Below W1.heap.size W1 wr := (below1 W1 (.cells #[.string x.n, .int .i64 x.c, .string x.z, .slice va vl vc, .string x.d, .int .i64 x.p] 107)).trans (HL2.out.mono (by omega))
        have Bp := hidK ((HL2.out.block W1.heap.size (by omega)).trans (heap_alloc_new W1 (.cells #[.string x.n, .int .i64 x.c, .string x.z, .slice va vl vc, .string x.d, .int .i64 x.p] 107)))
        replace Bk := upK Bk hbP
        replace HB := upB HB hbP
        have HBP := hidK hbP
        have hs2 := hbP.size
        have hyl : ys.length = cl := by have h9 : (ys.map qdF).length = cl := HQ.out.1.1; rw [List.length_map] at h9; exact h9
        have hyb := HQ.out.2.2.2
        clear hbP
        by_cases he : x.d = ⟨#[]⟩
        · obtain rfl := hn0 he
          have hq := isE_y he
          have HHE := hidK he
          clear he
          obtain ⟨p0, p1, p2, p3, p4, p5⟩ := cs6 Bp.out
          have ltp_0 := lt_of_some Bp.out
          go_wp2
          all_goals (
            refine ⟨⟨k + 1, ca, cl, cc, ys, by omega, by go_num, rfl, ⟨HQ.out.1, HQ.out.2.1, fun q => ?_, by omega⟩, HL.out.trans (HBP.out.mono (by omega))⟩, by simp [intOf]; omega⟩
            rw [HQ.out.2.2.1, Wn.no HXx.out HHE.out]
            exact ⟨fun h => h.elim id (fun ⟨i, t, v, h, _⟩ => by omega), .inl⟩)
        have hq := isE_no he
        have HHE := hidK he
        clear he hn0
        by_cases hlt2 : n < vl
        · have hk3 : (n : Int) < vl := by omega
          obtain ⟨b2, o2, t, rfl, hb2, hx2, hc2, hsz2⟩ := (HTx.out.below HBP.out).at hlt2
          have HXT := hidK hx2
          obtain ⟨v, hbd⟩ : ∃ v, IsBd c t v := by
            obtain ⟨i9, n9, _, _, _, h9⟩ := (HT.out.2.2.2.1.1 k x HXx.out).2.resolve_left HHE.out
            obtain ⟨v, hv, _⟩ := h9 n t hx2
            exact ⟨v, hv⟩
          obtain ⟨i9, j, x9, h91, h92, hv, h94⟩ := hbd
          have hbd : IsBd c t v := ⟨i9, j, x9, h91, h92, hv, h94⟩
          have HVJ := hidK hv
          have HBD := hidK hbd
          clear h91 h92 h94 hbd hx2 hsz2
          have hj3 : j < l3 := by have := (List.getElem?_eq_some_iff.1 hv).1; omega
          obtain ⟨b3, o3, y, rfl, hb3, hy, hat⟩ := vd_at (HR.out.v.below HB.out) hj3
          rw [hv] at hy
          obtain rfl := Option.some.inj hy
          obtain ⟨ya, yl, yc, -, hz0, -, -, -, hc3, -, -, -, -, -, -, -⟩ := vd_cells hat
          have HTC := hidK (And.intro hb2 hc2)
          have HVC := hidK (And.intro hb3 hc3)
          have HZ0 := hidK hz0
          have HZD : Hid (x.d.size ≤ 9223372036854775807) := HZx4.out
          clear hv hy hat hb2 hc2 hb3 hc3 hz0
          obtain ⟨k0, k1, k2, k3, k4, k5⟩ := cs6 Bk.out
          have ltk_0 := lt_of_some Bk.out
          obtain ⟨p0, p1, p2, p3, p4, p5⟩ := cs6 Bp.out
          have ltp_0 := lt_of_some Bp.out
          go_wp2_with fail
          clear k0 k1 k2 k3 k4 k5 ltk_0 p0 p1 p2 p3 p4 p5 ltp_0
          rename_i K0 hK0
          refine wp_region_grow_last (by kernel_rfl) rfl rfl (by kernel_rfl) ?_
          refine' Grow.stepC _ rfl ?_ ?_
          rotate_left 1
          · refine Obl.plain rfl ?_
            intro ac wg K hsz hW hf hK; clear hsz
            have e3 := hf 3 (by decide)
            simp [slotFact, List.lookup] at e3
            clear hf
            go_simp
            refine hK _ _ (Below.refl _ _) ?_
            with_reducible rfl
          refine' Grow.stepC _ rfl ?_ ?_
          rotate_left 1
          · refine Obl.plain rfl ?_
            intro ac wg K hsz hW hf hK; clear hsz
            have e1 := hf 1 (by decide)
            simp [slotFact, List.lookup] at e1
            clear hf
            go_simp
            refine hK _ _ (Below.refl _ _) ?_
            with_reducible rfl
          refine' Grow.stepC _ rfl ?_ ?_
          rotate_left 1
          · refine Obl.plain rfl ?_
            intro ac wg K hsz hW hf hK; clear hsz
            have e33 := hf 33 (by decide)
            simp [slotFact, List.lookup] at e33
            clear hf
            obtain ⟨k0, k1, k2, k3, k4, k5⟩ := cs6 ((hW.block _ (lt_of_some Bk.out)).trans Bk.out)
            go_simp
            refine hK _ _ (Below.refl _ _) ?_
            with_reducible rfl
          refine' Grow.stepC _ rfl ?_ ?_
          rotate_left 1
          · refine Obl.plain rfl ?_
            intro ac wg K hsz hW hf hK; clear hsz
            have e1 := hf 1 (by decide)
            simp [slotFact, List.lookup] at e1
            clear hf
            obtain ⟨k0, k1, k2, k3, k4, k5⟩ := cs6 ((hW.block _ (lt_of_some Bk.out)).trans Bk.out)
            go_simp
            refine hK _ _ (Below.refl _ _) ?_
            with_reducible rfl
          refine' Grow.stepC _ rfl ?_ ?_
          rotate_left 1
          · refine Obl.plain rfl ?_
            intro ac wg K hsz hW hf hK; clear hsz
            have e5 := hf 5 (by decide)
            simp [slotFact, List.lookup] at e5
            clear hf
            go_simp
            refine hK _ _ (Below.refl _ _) ?_
            with_reducible rfl
          refine' Grow.stepC _ rfl ?_ ?_
          rotate_left 1
          · refine Obl.plain rfl ?_
            intro ac wg K hsz hW hf hK; clear hsz
            have e36 := hf 36 (by decide)
            simp [slotFact, List.lookup] at e36
            clear hf
            obtain ⟨p0, p1, p2, p3, p4, p5⟩ := cs6 ((hW.block _ (lt_of_some Bp.out)).trans Bp.out)
            go_simp
            refine hK _ _ (Below.refl _ _) ?_
            with_reducible rfl
          refine' Grow.stepC _ rfl ?_ ?_
          rotate_left 1
          · refine Obl.plain rfl ?_
            intro ac wg K hsz hW hf hK; clear hsz
            have e6 := hf 6 (by decide)
            simp [slotFact, List.lookup] at e6
            clear hf
            go_simp
            refine hK _ _ (Below.refl _ _) ?_
            with_reducible rfl
          refine' Grow.stepC _ rfl ?_ ?_
          rotate_left 1
          · refine Obl.plain rfl ?_
            intro ac wg K hsz hW hf hK; clear hsz
            have e37 := hf 37 (by decide)
            simp [slotFact, List.lookup] at e37
            have e38 := hf 38 (by decide)
            simp [slotFact, List.lookup] at e38
            clear hf
            go_simp
            refine hK _ _ (Below.refl _ _) ?_
            with_reducible rfl
          refine' Grow.stepC _ rfl ?_ ?_
          rotate_left 1
          · refine Obl.plain rfl ?_
            intro ac wg K hsz hW hf hK; clear hsz
            have e39 := hf 39 (by decide)
            simp [slotFact, List.lookup] at e39
            clear hf
            have tc := (cell_below hW HTC.out.1).trans HTC.out.2
            go_simp
            refine hK _ _ (Below.refl _ _) ?_
            with_reducible rfl
          refine' Grow.stepC (.int .i64 j) rfl ?_ ?_
          · refine Obl.plain rfl ?_
            intro ac wg K hsz hW hf hK; clear hsz
            have e35 := hf 35 (by decide)
            simp [slotFact, List.lookup] at e35
            have e40 := hf 40 (by decide)
            simp [slotFact, List.lookup] at e40
            clear hf
            go_simp
            refine (sbindQ_yes ⟨a1, l1, y1, a2, l2, y2, (some ⟨b3, o3, none⟩), l3, y3, a4, l4, y4, (some ⟨b, o, none⟩), l5, y5⟩ c t _ (HR.out.below (HB.out.trans (hW.mono HB.out.size))) HT.out HVJ.out HBD.out).mono ?_
            rintro e w6 ⟨rfl, hb6⟩
            exact hK _ _ hb6 rfl
          refine' Grow.stepC _ rfl ?_ ?_
          rotate_left 1
          · refine Obl.plain rfl ?_
            intro ac wg K hsz hW hf hK; clear hsz
            have e34 := hf 34 (by decide)
            simp [slotFact, List.lookup] at e34
            have e41 := hf 41 (by decide)
            simp [slotFact, List.lookup] at e41
            clear hf
            have hj0 : ¬ (j : Int) < 0 := by omega
            have hj2 : (j : Int) < l3 := by omega
            go_simp
            refine hK _ _ (Below.refl _ _) ?_
            with_reducible rfl
          refine' Grow.stepC _ rfl ?_ ?_
          rotate_left 1
          · refine Obl.plain rfl ?_
            intro ac wg K hsz hW hf hK; clear hsz
            have e42 := hf 42 (by decide)
            simp [slotFact, List.lookup] at e42
            clear hf
            go_simp
            refine hK _ _ (Below.refl _ _) ?_
            with_reducible rfl
          refine' Grow.stepC _ rfl ?_ ?_
          rotate_left 1
          · refine Obl.plain rfl ?_
            intro ac wg K hsz hW hf hK; clear hsz
            have e43 := hf 43 (by decide)
            simp [slotFact, List.lookup] at e43
            clear hf
            have vc9 := (cell_below hW HVC.out.1).trans HVC.out.2
            go_simp
            refine hK _ _ (Below.refl _ _) ?_
            with_reducible rfl
          refine' Grow.stepC _ rfl ?_ ?_
          rotate_left 1
          · refine Obl.plain rfl ?_
            intro ac wg K hsz hW hf hK; clear hsz
            have e5 := hf 5 (by decide)
            simp [slotFact, List.lookup] at e5
            clear hf
            go_simp
            refine hK _ _ (Below.refl _ _) ?_
            with_reducible rfl
          refine' Grow.stepC _ rfl ?_ ?_
          rotate_left 1
          · refine Obl.plain rfl ?_
            intro ac wg K hsz hW hf hK; clear hsz
            have e45 := hf 45 (by decide)
            simp [slotFact, List.lookup] at e45
            clear hf
            obtain ⟨p0, p1, p2, p3, p4, p5⟩ := cs6 ((hW.block _ (lt_of_some Bp.out)).trans Bp.out)
            go_simp
            refine hK _ _ (Below.refl _ _) ?_
            with_reducible rfl
          refine' Grow.stepC _ rfl ?_ ?_
          rotate_left 1
          · refine Obl.plain rfl ?_
            intro ac wg K hsz hW hf hK; clear hsz
            have e44 := hf 44 (by decide)
            simp [slotFact, List.lookup] at e44
            have e46 := hf 46 (by decide)
            simp [slotFact, List.lookup] at e46
            clear hf
            go_simp
            refine hK _ _ (Below.refl _ _) ?_
            with_reducible rfl
          refine Grow.step (PqF ⟨v.n, x.d⟩ ys (w.heap.size + 1)) rfl (PqF.mono) ?_ ?_
          · refine Obl.plain rfl ?_
            intro ac wg K hsz hW hf hK; clear hsz
            have e32 := hf 32 (by decide)
            simp [slotFact, List.lookup] at e32
            have e47 := hf 47 (by decide)
            simp [slotFact, List.lookup] at e47
            clear hf
            go_simp
            refine (sputQ_any ca cl cc ys ⟨v.n, x.d⟩ (w.heap.size + 1) _ (HQ.out.1.below hW) (by have := hW.size; omega) (by omega) HZ0.out HZD.out).mono ?_
            rintro e w6 ⟨sa, sl, sc, zs2, rfl, ho2, hp2, hb6⟩
            exact hK _ _ hb6 ⟨sa, sl, sc, zs2, rfl, ho2, hp2⟩
          refine Grow.done ?_
          intro q w5 hW hf
          simp only [List.forall_mem_cons] at hf
          obtain ⟨⟨sa, sl, sc, zs2, h48, ho2, hp2⟩, -⟩ := hf
          have HP2 := hidK hp2
          have HO2 := hidK ho2
          have HW2 := hidK hW
          clear hp2 ho2
          intro K hK
          rw [if_pos (by rfl)]
          simp only [putsAll, List.foldr, Act.put, List.setIfInBounds_toArray, List.set_cons_zero, List.set_cons_succ, h48]
          simp only [List.getLast]
          go_simp
          refine hK _ _ ?_
          refine hK0 _ _ ?_
          clear hK hK0 K K0
          go_wp2
          refine ⟨⟨n + 1, sa, sl, sc, zs2, by omega, fun e => absurd e HHE.out, by go_num, rfl, ⟨HO2.out, HP2.out.ris HQ.out.2.1, fun q => ?_, by have h9 := HP2.out.len; omega⟩, HL2.out.trans (HW2.out.mono (by have h8 := HL2.out.size; rw [size1] at h8; exact h8))⟩, by simp [intOf]; omega⟩
          rw [HP2.out.mem, HQ.out.2.2.1, Wc.step HT.out.2.1.2.2.2.1.2.2 HXT.out HBD.out, or_assoc]
        have hk3 : ¬ (n : Int) < vl := by omega
        have hnv : n = vl := by omega
        obtain ⟨p0, p1, p2, p3, p4, p5⟩ := cs6 Bp.out
        have ltp_0 := lt_of_some Bp.out
        go_wp2
        refine ⟨⟨k + 1, ca, cl, cc, ys, by omega, by go_num, rfl, ⟨HQ.out.1, HQ.out.2.1, fun q => ?_, by omega⟩, HL.out.trans (HBP.out.mono (by omega))⟩, by simp [intOf]; omega⟩
        rw [HQ.out.2.2.1, Wn.yes HXx.out HHE.out, hxz, hnv]
    have hk1 : ¬ (k : Int) < l5 := by omega
    have hkl : k = l5 := by omega
    obtain ⟨k0, k1, k2, k3, k4, k5⟩ := cs6 Bk.out
    have ltk_0 := lt_of_some Bk.out
    go_wp2
    go_ret
    exact ⟨_, _, _, ys, rfl, HQ.out.1, HQ.out.2.1, by rw [hl5, ← hkl]; exact HQ.out.2.2.1, by have := HQ.out.2.2.2; omega, HB.out⟩

theorem own_new {w : World} {e : TypeId} {size : Nat} {z : Value} (hzs : z.cells.size = size) {k old : Nat} {xs : List Value} (hl : xs.length = k * size) (h63 : k ≤ maxLen) {base : Nat} (hb : base ≤ w.heap.size) :
    (w.drew.alloc (.cells (xs.toArray ++ Builtin.zeroCells z.cells (grownCap w k old e - k)) e)).ownsRow base e size (.slice (some ⟨w.heap.size, 0, none⟩) k (grownCap w k old e)) k xs ∧ Below w.heap.size w (w.drew.alloc (.cells (xs.toArray ++ Builtin.zeroCells z.cells (grownCap w k old e - k)) e)) := by
  have hge := grownCap_ge w k old e
  have hcm : grownCap w k old e ≤ maxLen := grownCap_le_maxLen w k old e h63
  refine ⟨⟨hl, .inr ⟨w.heap.size, _, _, rfl, hb, heap_alloc_new w.drew _, hge, hcm, ?_, ?_⟩⟩, ⟨rfl, rfl, rfl, by simp, fun j hj => Below.heap_alloc w.drew _ j hj⟩⟩
  · simp only [Array.size_append, List.size_toArray, size_zeroCells, hzs, hl, ← Nat.add_mul]
    congr 1
    omega
  · simp only [Array.toList_append]
    rw [← hl]
    exact List.take_left
theorem run_append_cut (w : World) (t ty e : TypeId) (i : TypeInfo) (z : Value) (size bytes : Nat) (ht : Tryz.prog.underlying t = some (.slice e)) (hi : Tryz.prog.info? e = some i) (hz : i.zero = some z)
    (hsize : i.size = size) (hby : i.bytes = bytes) (hzs : z.cells.size = size)
    (bs : Option Addr) (n : Nat) (olds : List Value) (hlo : olds.length = n * size) (hn0 : bs = none → n = 0) (holds : ∀ (j : Nat) u, olds[j]? = some u → ∃ ad : Addr, bs = some ad ∧ w.cell? (ad.add j) = some u)
    (ad : Addr) (m c : Nat) (news : List Value) (hm : 0 < m) (hl : news.length = m * size) (hnews : ∀ (j : Nat) u, news[j]? = some u → w.cell? (ad.add j) = some u)
    (h63 : n + m ≤ maxLen) (hbytes : (n + m) * bytes ≤ 140737488355328) : ∃ v' w', (Builtin.append_ #[t, t] ty #[.slice bs n n, .slice (some ad) m c]).run Tryz.prog w = .ok v' w' ∧ w'.ownsRow w.heap.size e size v' (n + m) (olds ++ news) ∧ Below w.heap.size w w' := by
  subst hsize
  subst hby
  have hsmall : n + m ≤ 9223372036854775807 := by simp only [maxLen] at h63; omega
  have hall : (olds ++ news).length = (n + m) * i.size := by rw [List.length_append, hlo, hl, Nat.add_mul]
  rcases bs with _ | b
  · obtain rfl := hn0 rfl
    have h0 : olds = [] := List.eq_nil_of_length_eq_zero (by simpa using hlo)
    subst h0
    have hr := run_append_nil (P := Tryz.prog) w t ty e i z ht hi hz ad m c news hl hnews hm (by omega) (by have hb := hbytes; simp only [Nat.zero_add] at hb; omega)
    have h2 := own_new (w := w) (e := e) (old := 0) hzs hl (by omega : m ≤ maxLen) (Nat.le_refl w.heap.size)
    exact ⟨_, _, hr, by simpa using h2.1, h2.2⟩
  · have hr := run_append_grow (P := Tryz.prog) w t ty e i z ht hi hz b n n olds hlo (fun j u hu => by obtain ⟨ad', e', h3⟩ := holds j u hu; cases e'; exact h3) ad m c news hl hnews (by omega) (by omega) (growslice_fits (by omega) hbytes)
    have h2 := own_new (w := w) (e := e) (old := n) hzs hall h63 (Nat.le_refl w.heap.size)
    have h9 : (olds ++ news).toArray = olds.toArray ++ news.toArray := by simp
    rw [h9] at h2
    exact ⟨_, _, hr, h2.1, h2.2⟩
theorem wp_append_run {w : World} {o : Oper} {a : Act} {K : Act → World → Prop} {Q : Exit → Act → World → Prop} (s x : Operand) (t : TypeId) (ho : o.op = .call { callee := .builtin .append, args := #[s, x], argTypes := #[t, t] }) {v u v' : Value} {w' : World} (hs : a.eval s = v) (hx : a.eval x = u)
    (hr : (Builtin.append_ #[t, t] o.type #[v, u]).run Tryz.prog w = .ok v' w') (h : K (a.put o.dst v') w') : o.wp Tryz.prog a w K Q := by
  unfold Oper.wp execOp
  simp only [ho, resolve, invoke, builtin, Sem.run_bind, Sem.run_pure, Result.andThen_ok, List.map_toArray, List.map_cons, List.map_nil, hs, hx, hr]
  exact h
structure Lq (B : Nat) (w w' : World) : Prop where
  os : w'.os = w.os
  tape : w'.tape = w.tape
  output : w'.output = w.output
  size : w.heap.size ≤ w'.heap.size
  block : ∀ k, k < w.heap.size → (k < B ∨ ∃ (cs : Array Value) (T : TypeId), w.heap[k]? = some (.cells cs T (0, 0)) ∧ cs.size = 2) → w'.heap[k]? = w.heap[k]?
theorem Lq.of_below {B : Nat} {w w' : World} (h : Below w.heap.size w w') : Lq B w w' := ⟨h.os, h.tape, h.output, h.size, fun k hk _ => h.block k hk⟩
theorem Lq.trans {B : Nat} {a b c : World} (h : Lq B a b) (k : Lq B b c) : Lq B a c := ⟨k.os.trans h.os, k.tape.trans h.tape, k.output.trans h.output, Nat.le_trans h.size k.size, fun i hi hp => by
  have h1 := h.block i hi hp
  exact (k.block i (Nat.lt_of_lt_of_le hi h.size) (hp.imp id (fun ⟨cs, T, h2, h3⟩ => ⟨cs, T, h1.trans h2, h3⟩))).trans h1⟩
theorem Lq.low {w w' : World} (h : Lq w.heap.size w w') : Below w.heap.size w w' := ⟨h.os, h.tape, h.output, h.size, fun k hk => h.block k hk (.inl hk)⟩
def Rq (B : Nat) (sp : Tmp) : Gi.Rs := fun s w w' => match s with
  | none => Lq B w w'
  | some t => if t = sp then Lq B w w' else Below w.heap.size w w'
theorem Rq.below {B : Nat} {sp : Tmp} {s : Option Tmp} {w w' : World} (h : Rq B sp s w w') (h1 : ¬ s = none) (h2 : ¬ s = some sp) : Below w.heap.size w w' := by
  cases s with
  | none => exact absurd rfl h1
  | some t =>
    simp only [Rq] at h
    rw [if_neg (fun e => h2 (by rw [e]))] at h
    exact h
theorem Rq.rel (B : Nat) (sp : Tmp) : Gi.Rel (Rq B sp) sp := by
  refine ⟨fun w => Lq.of_below (Below.refl _ _), fun {a b c} h k => Lq.trans h k, fun h => Lq.size h, fun w => Lq.of_below (Below.refl _ _).drew, fun s {a b} h => ?_, fun s {a b} h1 h2 h => Rq.below h h1 h2⟩
  cases s with
  | none => exact h
  | some t =>
    show Lq B a b
    simp only [Rq] at h
    split at h
    · exact h
    · exact Lq.of_below h
theorem Rq.other {B : Nat} {sp t : Tmp} {w w' : World} (ht : ¬ t = sp) (h : Below w.heap.size w w') : Rq B sp (some t) w w' := by
  show (if t = sp then Lq B w w' else Below w.heap.size w w')
  rw [if_neg ht]
  exact h
theorem Rq.this {B : Nat} {sp : Tmp} {w w' : World} (h : Lq B w w') : Rq B sp (some sp) w w' := by
  show (if sp = sp then Lq B w w' else Below w.heap.size w w')
  rw [if_pos rfl]
  exact h
def B1F (x : Qd) : Gi.Fact := fun u w _ _ => ∃ b, u = .slice (some ⟨b, 0, none⟩) 1 1 ∧ w.heap[b]? = some (.cells #[.string x.n, .string x.d] 63 (0, 0))
theorem B1F.mono {B : Nat} {sp : Tmp} {ex : Gi.Ex} {d : Option Tmp} {x : Qd} : Gi.Fact.Mono (Rq B sp) ex d (B1F x) := by
  rintro s _ _ _ v w w' l h ⟨b, h1, h2⟩ hb
  have hb : Lq B w w' := (Rq.rel B sp).sub s hb
  exact ⟨b, h1, (hb.block b (lt_of_some h2) (.inr ⟨_, _, h2, rfl⟩)).trans h2⟩
def OwG (B n : Nat) (xs : List Value) : Gi.Fact := fun u w _ _ => w.ownsRow B 63 2 u n xs
theorem OwG.mono {B B' n : Nat} {sp t : Tmp} {ex : Gi.Ex} {xs : List Value} (hx : t = sp ∨ ex t = some sp) : Gi.Fact.Mono (Rq B sp) ex (some t) (OwG B' n xs) := by
  rintro s h1 h2 h3 v w w' l h ho hb
  refine owns_below ho (Rq.below hb h1 (fun e => ?_))
  rcases hx with rfl | hx
  · exact h2 e
  · exact h3 t sp rfl hx e
theorem run_append_lq (w : World) (B : Nat) (t ty e : TypeId) (i : TypeInfo) (z : Value) (bytes : Nat) (ht : Tryz.prog.underlying t = some (.slice e)) (hi : Tryz.prog.info? e = some i) (hz : i.zero = some z)
    (hsize : i.size = 2) (hby : i.bytes = bytes) (hzs : z.cells.size = 2) (v : Value) (n : Nat) (xs : List Value) (hn : 0 < n) (hown : w.ownsRow B e 2 v n xs)
    (ax : Option Addr) (m c : Nat) (news : List Value) (hl : news.length = m * 2) (hnews : ∀ (j : Nat) u, news[j]? = some u → ∃ ad : Addr, ax = some ad ∧ w.cell? (ad.add j) = some u) (h1 : ∀ u ∈ news, u.oneCell' = true)
    (h63 : n + m ≤ maxLen) (hbytes : (n + m) * bytes ≤ 140737488355328) (hbase : B ≤ w.heap.size) :
    ∃ v' w', (Builtin.append_ #[t, t] ty #[v, .slice ax m c]).run Tryz.prog w = .ok v' w' ∧ w'.ownsRow B e 2 v' (n + m) (xs ++ news) ∧ Lq B w w' := by
  rcases Nat.eq_zero_or_pos m with rfl | hm
  · have h0 : news = [] := List.eq_nil_of_length_eq_zero (by simpa using hl)
    subst h0
    exact ⟨v, w, run_append_empty ht hi hown ax c, by simpa using hown, Lq.of_below (Below.refl _ _)⟩
  · obtain ⟨ad, rfl, _⟩ := hnews 0 (news[0]'(by omega)) (List.getElem?_eq_getElem _)
    have hnw : ∀ (j : Nat) u, news[j]? = some u → w.cell? (ad.add j) = some u := fun j u hu => by
      obtain ⟨ad', e', h3⟩ := hnews j u hu
      cases e'
      exact h3
    obtain ⟨v', w', hr, h2, h3, h4⟩ := run_append_own (P := Tryz.prog) w B t ty e i z 2 bytes ht hi hz hsize hby hzs (by decide) v n xs hown ad m c news hl hnw h1 h63 hbytes hbase
    refine ⟨v', w', hr, h2, ⟨h3.os, h3.tape, h3.output, h3.size, fun k hk hp => ?_⟩⟩
    by_cases hkg : some k = v.ownBlock
    · rcases hown.2 with ⟨rfl, h5⟩ | ⟨g, cap, cur, rfl, hbg, hg, hnc, hcm, hcs, htake⟩
      · omega
      · obtain rfl : k = g := by simpa [Value.ownBlock] using hkg
        have hc1 : cap < n + m := by
          rcases hp with hp | ⟨cs, T, h6, h7⟩
          · omega
          · rw [hg] at h6
            cases h6
            omega
        have hsm : n + m ≤ 9223372036854775807 := by simp only [maxLen] at h63; omega
        have holds : ∀ (j : Nat) u, xs[j]? = some u → w.cell? ((⟨k, 0, none⟩ : Addr).add j) = some u := hown.cells (g := k) rfl
        subst hby
        have hr2 := run_append_grow (P := Tryz.prog) w t ty e i z ht hi hz ⟨k, 0, none⟩ n cap xs (by rw [hsize]; exact hown.1) holds ad m c news (by rw [hsize]; exact hl) hnw (by omega) (by omega) (growslice_fits (by omega) hbytes)
        rw [hr] at hr2
        cases hr2
        exact Below.heap_alloc w.drew _ k hk
    · exact h3.block k hk hkg

set_option maxRecDepth 100000 in
set_option maxHeartbeats 6400000 in
theorem iputQ_any (a : Option Addr) (len cap : Nat) (zs : List Qd) (x : Qd) (B : Nat) (w : World) (ho : ROwn w a len cap 2 63 (zs.map qdF) (fun k => B ≤ k)) (hB : B ≤ w.heap.size) (hri : RQ zs) (hl : len ≤ 64) (hx1 : x.n.size ≤ 9223372036854775807) (hx2 : x.d.size ≤ 9223372036854775807) :
    Calls Tryz.prog 90 #[.slice a len cap, .agg #[.string x.n, .string x.d], .func (.func 91) #[] #[]] w (PutQAns x zs B w) := by
  have hll : zs.length = len := by simpa using ho.1
  have hlc : len ≤ cap := ho.2.1
  have hcm : cap ≤ 9223372036854775807 := ho.2.2.1
  have HR := hidK ho.row
  have HOW0 := hidK ho
  have HRI := hidK hri
  have HB := hidK (Below.refl w.heap.size w)
  obtain ⟨vss, H, hV, hcell⟩ := ho.recs
  have hvl : vss.length = len := by rw [hV.len, List.length_map, hll]
  have HC : Hid (∀ (j : Nat) u, vss.flatten[j]? = some u → ∃ b, a = some ⟨b, 0, none⟩ ∧ w.cell? ⟨b, j, none⟩ = some u) := fun j u hj => by
    obtain ⟨b, e, _, h3⟩ := hcell j u hj
    exact ⟨b, e, h3⟩
  have HVA := hidK hV.all
  have HV1 := hidK hV.one
  have HFIN : Hid (∀ (w4 : World) v4 base k, k ≤ len → w.heap.size ≤ base → Below w.heap.size w w4 → w4.ownsRow base 63 2 v4 (len + 1) (inAt k [.string x.n, .string x.d] vss).flatten → ∃ a' c', v4 = .slice a' (len + 1) c' ∧ ROwn w4 a' (len + 1) c' 2 63 ((inAt k x zs).map qdF) (fun k => B ≤ k)) := fun w4 v4 base k hk hbs hB4 ho4 => qd_ins hV hll hk hB4 hx1 hx2 (fun k hk => by omega) ho4
  obtain ⟨i5, hi5', hz0, hz1, hz2⟩ := info_parts infoqd
  have HI0 := hidK (And.intro hi5' (And.intro hz0 (And.intro hz1 hz2)))
  clear hi5' hz0 hz1 hz2 hV hcell ho hri
  go_enter Tryz.func90, Tryz.ntmps90
  go_wp2_with fail
  refine (ibs_any a len cap zs x _ (HR.out.below (below1 _ _)) HRI.out hl).mono ?_
  rintro e w1 ⟨k, f, rfl, hk, hlt, hfd, hb⟩
  obtain ⟨HA0, hbx⟩ := slots1 hb
  have Bx := hidK HA0
  replace HB := upB HB hbx
  clear hb hbx HA0
  have HLT := hidK hlt
  clear hlt
  rcases hfd with ⟨rfl, hxk⟩ | ⟨rfl, hgt⟩
  · have HP : Hid (PutQ x zs zs) := .inl ⟨List.mem_of_getElem? hxk, rfl⟩
    clear hxk
    obtain ⟨x0, x1⟩ := cs2 Bx.out
    have ltx_1 := lt_of_some Bx.out
    go_wp2
    go_ret
    exact ⟨_, _, _, _, rfl, HOW0.out.below HB.out, HP.out, HB.out⟩
  have HP : Hid (PutQ x zs (inAt k x zs)) := .inr ⟨k, hk, rfl, HLT.out, hgt⟩
  have hkl : k ≤ len := by omega
  have hkc : k ≤ cap := by omega
  have hik : (k : Int) ≤ len := by omega
  have hic : (k : Int) ≤ cap := by omega
  clear hgt hk
  rcases a with _ | ⟨b2, f2, sp⟩
  · have hl0 : len = 0 := Classical.byContradiction fun hne0 => by
      have h1 : vss[0]? = some (vss[0]'(by omega)) := List.getElem?_eq_getElem _
      have h2 : 0 < (vss[0]'(by omega)).length := by rw [HVA.out 0 _ h1]; decide
      obtain ⟨g, e, _⟩ := HC.out _ _ (flat_at HVA.out h1 (List.getElem?_eq_getElem h2))
      cases e
    obtain rfl : k = 0 := by omega
    subst hl0
    by_cases hcap : cap = 0
    all_goals (
      obtain ⟨x0, x1⟩ := cs2 Bx.out
      have ltx_1 := lt_of_some Bx.out
      go_wp2_with fail
      clear x0 x1 ltx_1
      rename_i K0 hK0
      refine Gi.wp_region_grow_last (R := Rq w1.heap.size 28) (ex := fun q => if q = 24 then some 28 else none) (Rq.rel _ _) (by kernel_rfl) rfl rfl (by kernel_rfl) (by kernel_rfl) ?_
      refine' Gi.Grow.stepC _ rfl ?_ ?_
      rotate_left 1
      · refine Gi.Obl.plain rfl ?_
        intro ac wg K lo hi hsz hW hpr hf hap hK; clear hsz hap hpr
        have hW : Lq w1.heap.size w1 wg := hW
        have e0 := hf 0 (by decide)
        simp [Gi.slotFact, List.lookup] at e0
        clear hf
        go_simp
        refine hK _ _ (Rq.other (by decide) (Below.refl _ _)) ?_
        with_reducible rfl
      refine' Gi.Grow.stepC _ rfl ?_ ?_
      rotate_left 1
      · refine Gi.Obl.plain rfl ?_
        intro ac wg K lo hi hsz hW hpr hf hap hK; clear hsz hap hpr
        have hW : Lq w1.heap.size w1 wg := hW
        have e7 := hf 7 (by decide)
        simp [Gi.slotFact, List.lookup] at e7
        clear hf
        go_simp
        refine hK _ _ (Rq.other (by decide) (Below.refl _ _)) ?_
        with_reducible rfl
      refine' Gi.Grow.stepC _ rfl ?_ ?_
      rotate_left 1
      · refine Gi.Obl.plain rfl ?_
        intro ac wg K lo hi hsz hW hpr hf hap hK; clear hsz hap hpr
        have hW : Lq w1.heap.size w1 wg := hW
        have e7 := hf 7 (by decide)
        simp [Gi.slotFact, List.lookup] at e7
        clear hf
        go_simp
        refine hK _ _ (Rq.other (by decide) (Below.refl _ _)) ?_
        with_reducible rfl
      refine' Gi.Grow.stepC _ rfl ?_ ?_
      rotate_left 1
      · refine Gi.Obl.plain rfl ?_
        intro ac wg K lo hi hsz hW hpr hf hap hK; clear hsz hap hpr
        have hW : Lq w1.heap.size w1 wg := hW
        have e18 := hf 18 (by decide)
        simp [Gi.slotFact, List.lookup] at e18
        have e19 := hf 19 (by decide)
        simp [Gi.slotFact, List.lookup] at e19
        have e20 := hf 20 (by decide)
        simp [Gi.slotFact, List.lookup] at e20
        clear hf
        go_simp
        refine hK _ _ (Rq.other (by decide) (Below.refl _ _)) ?_
        with_reducible rfl
      refine' Gi.Grow.stepC _ rfl ?_ ?_
      rotate_left 1
      · refine Gi.Obl.plain rfl ?_
        intro ac wg K lo hi hsz hW hpr hf hap hK; clear hsz hap hpr
        have hW : Lq w1.heap.size w1 wg := hW
        have e4 := hf 4 (by decide)
        simp [Gi.slotFact, List.lookup] at e4
        clear hf
        obtain ⟨k0, k1⟩ := cs2 ((hW.low.block _ (lt_of_some Bx.out)).trans Bx.out)
        go_simp
        refine hK _ _ (Rq.other (by decide) (Below.refl _ _)) ?_
        with_reducible rfl
      refine Gi.Grow.step (B1F x) rfl (B1F.mono) ?_ ?_
      · refine Gi.Obl.plain rfl ?_
        intro ac wg K lo hi hsz hW hpr hf hap hK; clear hsz hap hpr
        have hW : Lq w1.heap.size w1 wg := hW
        have e22 := hf 22 (by decide)
        simp [Gi.slotFact, List.lookup] at e22
        clear hf
        go_simp
        exact hK _ _ (Rq.other (by decide) (below1 _ _)) ⟨_, rfl, Array.getElem?_push_size⟩
      refine Gi.Grow.step (OwG w1.heap.size (0 + 1) ((vss.take 0).flatten ++ [.string x.n, .string x.d])) rfl (OwG.mono (.inr rfl)) ?_ ?_
      · refine Gi.Obl.plain rfl ?_
        intro ac wg K lo hi hsz hW hpr hf hap hK; clear hsz hap hpr
        have hW : Lq w1.heap.size w1 wg := hW
        have e21 := hf 21 (by decide)
        simp [Gi.slotFact, List.lookup] at e21
        have e23 := hf 23 (by decide)
        simp [Gi.slotFact, List.lookup] at e23
        clear hf
        have HCG : Hid (∀ (j : Nat) u, vss.flatten[j]? = some u → ∃ b, (none : Option Addr) = some ⟨b, 0, none⟩ ∧ wg.cell? ⟨b, j, none⟩ = some u) := fun j u hj => by
          obtain ⟨b, e, h3⟩ := HC.out j u hj
          exact ⟨b, e, (cell_below (HB.out.trans (hW.low.mono HB.out.size)) (World.block_lt_of_cell? _ _ h3)).trans h3⟩
        obtain ⟨b5, e23, hg5⟩ := e23
        obtain ⟨v', w', hr, h2, h3⟩ := run_append_cut wg 30 30 63 i5 (.agg #[.string ⟨#[]⟩, .string ⟨#[]⟩]) 2 32 Tryz.underlying30 HI0.out.1 HI0.out.2.1 HI0.out.2.2.1 HI0.out.2.2.2 rfl none 0 (vss.take 0).flatten (take_flat HVA.out (by omega)) (fun e => Classical.byContradiction fun hne => by
          have h1 : vss[0]? = some (vss[0]'(by omega)) := List.getElem?_eq_getElem _
          have h2 : 0 < (vss[0]'(by omega)).length := by rw [HVA.out 0 _ h1]; decide
          obtain ⟨g, e', _⟩ := HC.out _ _ (flat_at HVA.out h1 (List.getElem?_eq_getElem h2))
          rw [e] at e'
          cases e') (fun j u hu => by
          obtain ⟨g, e', h3⟩ := HCG.out _ _ (take_at hu)
          exact ⟨_, e', by rw [Addr.add_lit, Nat.zero_add]; exact h3⟩) ⟨b5, 0, none⟩ 1 1 [.string x.n, .string x.d] (by decide) rfl (news_blk hg5) (by unfold maxLen; omega) (by omega)
        refine wp_append_run (.tmp 21) (.tmp 23) 30 rfl (by simpa [Act.eval] using e21) (by simpa [Act.eval] using e23) hr ?_
        refine hK _ _ (Rq.other (by decide) h3) ?_
        obtain ⟨h4, h5⟩ := h2
        refine ⟨h4, h5.imp id ?_⟩
        rintro ⟨g, cap', cur, h6, h7, h8⟩
        exact ⟨g, cap', cur, h6, Nat.le_trans hW.size h7, h8⟩
      refine' Gi.Grow.stepC _ rfl ?_ ?_
      rotate_left 1
      · refine Gi.Obl.plain rfl ?_
        intro ac wg K lo hi hsz hW hpr hf hap hK; clear hsz hap hpr
        have hW : Lq w1.heap.size w1 wg := hW
        have e0 := hf 0 (by decide)
        simp [Gi.slotFact, List.lookup] at e0
        clear hf
        go_simp
        refine hK _ _ (Rq.other (by decide) (Below.refl _ _)) ?_
        with_reducible rfl
      refine' Gi.Grow.stepC _ rfl ?_ ?_
      rotate_left 1
      · refine Gi.Obl.plain rfl ?_
        intro ac wg K lo hi hsz hW hpr hf hap hK; clear hsz hap hpr
        have hW : Lq w1.heap.size w1 wg := hW
        have e7 := hf 7 (by decide)
        simp [Gi.slotFact, List.lookup] at e7
        clear hf
        go_simp
        refine hK _ _ (Rq.other (by decide) (Below.refl _ _)) ?_
        with_reducible rfl
      refine' Gi.Grow.stepC _ rfl ?_ ?_
      rotate_left 1
      · refine Gi.Obl.plain rfl ?_
        intro ac wg K lo hi hsz hW hpr hf hap hK; clear hsz hap hpr
        have hW : Lq w1.heap.size w1 wg := hW
        have e25 := hf 25 (by decide)
        simp [Gi.slotFact, List.lookup] at e25
        have e26 := hf 26 (by decide)
        simp [Gi.slotFact, List.lookup] at e26
        clear hf
        go_simp
        refine hK _ _ (Rq.other (by decide) (Below.refl _ _)) ?_
        with_reducible rfl
      refine Gi.Grow.step (OwG w1.heap.size (0 + 1) (inAt 0 [.string x.n, .string x.d] vss).flatten) rfl (OwG.mono (.inl rfl)) ?_ ?_
      · refine Gi.Obl.plain rfl ?_
        intro ac wg K lo hi hsz hW hpr hf hap hK; clear hsz hap
        have hW : Lq w1.heap.size w1 wg := hW
        have e24 := hf 24 (by decide)
        simp [Gi.slotFact, List.lookup] at e24
        have e27 := hf 27 (by decide)
        simp [Gi.slotFact, List.lookup] at e27
        clear hf
        have HCG : Hid (∀ (j : Nat) u, vss.flatten[j]? = some u → ∃ b, (none : Option Addr) = some ⟨b, 0, none⟩ ∧ wg.cell? ⟨b, j, none⟩ = some u) := fun j u hj => by
          obtain ⟨b, e, h3⟩ := HC.out j u hj
          exact ⟨b, e, (cell_below (HB.out.trans (hW.low.mono HB.out.size)) (World.block_lt_of_cell? _ _ h3)).trans h3⟩
        have hbW : Below w1.heap.size w1 wg := hpr rfl
        clear hpr
        have e24' : wg.ownsRow w1.heap.size 63 2 (ac.tmps.getD 24 undef) (0 + 1) ((vss.take 0).flatten ++ [.string x.n, .string x.d]) := by simpa [OwG] using e24
        obtain ⟨u4, hu4⟩ : ∃ u4, u4 = ac.tmps.getD 24 undef := ⟨_, rfl⟩
        obtain ⟨ax, c9, e27', hax⟩ : ∃ (ax : Option Addr) (c9 : Nat), ac.tmps[27]?.getD undef = .slice ax (0 - 0) c9 ∧ (∀ (j : Nat) u, (vss.drop 0).flatten[j]? = some u → ∃ ad : Addr, ax = some ad ∧ wg.cell? (ad.add j) = some u) := ⟨_, _, e27, fun j u hu => by first | (rw [List.drop_eq_nil_of_le (by omega)] at hu; simp at hu; done) | (obtain ⟨g, e', h3⟩ := HCG.out _ _ (drop_at HVA.out (by omega) hu); cases e' <;> exact ⟨_, rfl, by simp only [Addr.add_lit, Nat.zero_add]; exact h3⟩)⟩
        rw [← hu4] at e24'
        obtain ⟨v', w', hr, h2, h3⟩ := run_append_lq wg w1.heap.size 30 30 63 i5 (.agg #[.string ⟨#[]⟩, .string ⟨#[]⟩]) 32 Tryz.underlying30 HI0.out.1 HI0.out.2.1 HI0.out.2.2.1 HI0.out.2.2.2 rfl u4 (0 + 1) ((vss.take 0).flatten ++ [.string x.n, .string x.d]) (by omega) e24' ax (0 - 0) c9 (vss.drop 0).flatten (by rw [drop_flat HVA.out, hvl]) hax (mem_take_one HV1.out 0).2 (by unfold maxLen; omega) (by omega) (by have := hW.size; omega)
        refine wp_append_run (.tmp 24) (.tmp 27) 30 rfl (by simpa [Act.eval] using hu4.symm) (by simpa [Act.eval] using e27') hr ?_
        refine hK _ _ (Rq.this h3) ?_
        show w'.ownsRow _ _ _ _ _ _
        have e9 : 0 + 1 + (0 - 0) = 0 + 1 := by omega
        rw [e9] at h2
        simpa [inAt] using h2
      refine Gi.Grow.done ?_
      intro q wz lo hi hW hf hap
      clear hap
      have hW : Lq w1.heap.size w1 wz := hW
      simp only [List.forall_mem_cons] at hf
      obtain ⟨h28, -⟩ := hf
      have h28 : wz.ownsRow w1.heap.size 63 2 (q 28) (0 + 1) (inAt 0 [.string x.n, .string x.d] vss).flatten := h28 (by first | trivial | rfl)
      obtain ⟨v8, hv8⟩ : ∃ v8, q 28 = v8 := ⟨_, rfl⟩
      rw [hv8] at h28
      have HB7 := hidK (HB.out.trans (hW.low.mono HB.out.size))
      obtain ⟨a', c', rfl, hR⟩ := HFIN.out wz v8 w1.heap.size 0 (by omega) HB.out.size HB7.out h28
      have HR7 := hidK hR
      clear h28 hR hW
      intro K hK
      rw [if_pos (by rfl)]
      simp only [Gi.putsAll, List.foldr, Act.put, List.setIfInBounds_toArray, List.set_cons_zero, List.set_cons_succ, hv8]
      simp only [List.getLast]
      go_simp
      refine hK _ _ ?_
      refine hK0 _ _ ?_
      clear hK hK0 K K0
      go_wp2
      go_ret
      exact ⟨a', _, c', _, rfl, HR7.out, HP.out, HB7.out⟩)
  by_cases hcap : cap = k
  all_goals (
    obtain ⟨x0, x1⟩ := cs2 Bx.out
    have ltx_1 := lt_of_some Bx.out
    go_wp2_with fail
    clear x0 x1 ltx_1
    rename_i K0 hK0
    refine Gi.wp_region_grow_last (R := Rq w1.heap.size 28) (ex := fun q => if q = 24 then some 28 else none) (Rq.rel _ _) (by kernel_rfl) rfl rfl (by kernel_rfl) (by kernel_rfl) ?_
    refine' Gi.Grow.stepC _ rfl ?_ ?_
    rotate_left 1
    · refine Gi.Obl.plain rfl ?_
      intro ac wg K lo hi hsz hW hpr hf hap hK; clear hsz hap hpr
      have hW : Lq w1.heap.size w1 wg := hW
      have e0 := hf 0 (by decide)
      simp [Gi.slotFact, List.lookup] at e0
      clear hf
      go_simp
      refine hK _ _ (Rq.other (by decide) (Below.refl _ _)) ?_
      with_reducible rfl
    refine' Gi.Grow.stepC _ rfl ?_ ?_
    rotate_left 1
    · refine Gi.Obl.plain rfl ?_
      intro ac wg K lo hi hsz hW hpr hf hap hK; clear hsz hap hpr
      have hW : Lq w1.heap.size w1 wg := hW
      have e7 := hf 7 (by decide)
      simp [Gi.slotFact, List.lookup] at e7
      clear hf
      go_simp
      refine hK _ _ (Rq.other (by decide) (Below.refl _ _)) ?_
      with_reducible rfl
    refine' Gi.Grow.stepC _ rfl ?_ ?_
    rotate_left 1
    · refine Gi.Obl.plain rfl ?_
      intro ac wg K lo hi hsz hW hpr hf hap hK; clear hsz hap hpr
      have hW : Lq w1.heap.size w1 wg := hW
      have e7 := hf 7 (by decide)
      simp [Gi.slotFact, List.lookup] at e7
      clear hf
      go_simp
      refine hK _ _ (Rq.other (by decide) (Below.refl _ _)) ?_
      with_reducible rfl
    refine' Gi.Grow.stepC _ rfl ?_ ?_
    rotate_left 1
    · refine Gi.Obl.plain rfl ?_
      intro ac wg K lo hi hsz hW hpr hf hap hK; clear hsz hap hpr
      have hW : Lq w1.heap.size w1 wg := hW
      have e18 := hf 18 (by decide)
      simp [Gi.slotFact, List.lookup] at e18
      have e19 := hf 19 (by decide)
      simp [Gi.slotFact, List.lookup] at e19
      have e20 := hf 20 (by decide)
      simp [Gi.slotFact, List.lookup] at e20
      clear hf
      go_simp
      refine hK _ _ (Rq.other (by decide) (Below.refl _ _)) ?_
      with_reducible rfl
    refine' Gi.Grow.stepC _ rfl ?_ ?_
    rotate_left 1
    · refine Gi.Obl.plain rfl ?_
      intro ac wg K lo hi hsz hW hpr hf hap hK; clear hsz hap hpr
      have hW : Lq w1.heap.size w1 wg := hW
      have e4 := hf 4 (by decide)
      simp [Gi.slotFact, List.lookup] at e4
      clear hf
      obtain ⟨k0, k1⟩ := cs2 ((hW.low.block _ (lt_of_some Bx.out)).trans Bx.out)
      go_simp
      refine hK _ _ (Rq.other (by decide) (Below.refl _ _)) ?_
      with_reducible rfl
    refine Gi.Grow.step (B1F x) rfl (B1F.mono) ?_ ?_
    · refine Gi.Obl.plain rfl ?_
      intro ac wg K lo hi hsz hW hpr hf hap hK; clear hsz hap hpr
      have hW : Lq w1.heap.size w1 wg := hW
      have e22 := hf 22 (by decide)
      simp [Gi.slotFact, List.lookup] at e22
      clear hf
      go_simp
      exact hK _ _ (Rq.other (by decide) (below1 _ _)) ⟨_, rfl, Array.getElem?_push_size⟩
    refine Gi.Grow.step (OwG w1.heap.size (k + 1) ((vss.take k).flatten ++ [.string x.n, .string x.d])) rfl (OwG.mono (.inr rfl)) ?_ ?_
    · refine Gi.Obl.plain rfl ?_
      intro ac wg K lo hi hsz hW hpr hf hap hK; clear hsz hap hpr
      have hW : Lq w1.heap.size w1 wg := hW
      have e21 := hf 21 (by decide)
      simp [Gi.slotFact, List.lookup] at e21
      have e23 := hf 23 (by decide)
      simp [Gi.slotFact, List.lookup] at e23
      clear hf
      have HCG : Hid (∀ (j : Nat) u, vss.flatten[j]? = some u → ∃ b, (some ⟨b2, f2, sp⟩ : Option Addr) = some ⟨b, 0, none⟩ ∧ wg.cell? ⟨b, j, none⟩ = some u) := fun j u hj => by
        obtain ⟨b, e, h3⟩ := HC.out j u hj
        exact ⟨b, e, (cell_below (HB.out.trans (hW.low.mono HB.out.size)) (World.block_lt_of_cell? _ _ h3)).trans h3⟩
      obtain ⟨b5, e23, hg5⟩ := e23
      obtain ⟨v', w', hr, h2, h3⟩ := run_append_cut wg 30 30 63 i5 (.agg #[.string ⟨#[]⟩, .string ⟨#[]⟩]) 2 32 Tryz.underlying30 HI0.out.1 HI0.out.2.1 HI0.out.2.2.1 HI0.out.2.2.2 rfl (some ⟨b2, f2, sp⟩ : Option Addr) k (vss.take k).flatten (take_flat HVA.out (by omega)) (fun e => Classical.byContradiction fun hne => by
        have h1 : vss[0]? = some (vss[0]'(by omega)) := List.getElem?_eq_getElem _
        have h2 : 0 < (vss[0]'(by omega)).length := by rw [HVA.out 0 _ h1]; decide
        obtain ⟨g, e', _⟩ := HC.out _ _ (flat_at HVA.out h1 (List.getElem?_eq_getElem h2))
        rw [e] at e'
        cases e') (fun j u hu => by
        obtain ⟨g, e', h3⟩ := HCG.out _ _ (take_at hu)
        exact ⟨_, e', by rw [Addr.add_lit, Nat.zero_add]; exact h3⟩) ⟨b5, 0, none⟩ 1 1 [.string x.n, .string x.d] (by decide) rfl (news_blk hg5) (by unfold maxLen; omega) (by omega)
      refine wp_append_run (.tmp 21) (.tmp 23) 30 rfl (by simpa [Act.eval] using e21) (by simpa [Act.eval] using e23) hr ?_
      refine hK _ _ (Rq.other (by decide) h3) ?_
      obtain ⟨h4, h5⟩ := h2
      refine ⟨h4, h5.imp id ?_⟩
      rintro ⟨g, cap', cur, h6, h7, h8⟩
      exact ⟨g, cap', cur, h6, Nat.le_trans hW.size h7, h8⟩
    refine' Gi.Grow.stepC _ rfl ?_ ?_
    rotate_left 1
    · refine Gi.Obl.plain rfl ?_
      intro ac wg K lo hi hsz hW hpr hf hap hK; clear hsz hap hpr
      have hW : Lq w1.heap.size w1 wg := hW
      have e0 := hf 0 (by decide)
      simp [Gi.slotFact, List.lookup] at e0
      clear hf
      go_simp
      refine hK _ _ (Rq.other (by decide) (Below.refl _ _)) ?_
      with_reducible rfl
    refine' Gi.Grow.stepC _ rfl ?_ ?_
    rotate_left 1
    · refine Gi.Obl.plain rfl ?_
      intro ac wg K lo hi hsz hW hpr hf hap hK; clear hsz hap hpr
      have hW : Lq w1.heap.size w1 wg := hW
      have e7 := hf 7 (by decide)
      simp [Gi.slotFact, List.lookup] at e7
      clear hf
      go_simp
      refine hK _ _ (Rq.other (by decide) (Below.refl _ _)) ?_
      with_reducible rfl
    refine' Gi.Grow.stepC _ rfl ?_ ?_
    rotate_left 1
    · refine Gi.Obl.plain rfl ?_
      intro ac wg K lo hi hsz hW hpr hf hap hK; clear hsz hap hpr
      have hW : Lq w1.heap.size w1 wg := hW
      have e25 := hf 25 (by decide)
      simp [Gi.slotFact, List.lookup] at e25
      have e26 := hf 26 (by decide)
      simp [Gi.slotFact, List.lookup] at e26
      clear hf
      go_simp
      refine hK _ _ (Rq.other (by decide) (Below.refl _ _)) ?_
      with_reducible rfl
    refine Gi.Grow.step (OwG w1.heap.size (len + 1) (inAt k [.string x.n, .string x.d] vss).flatten) rfl (OwG.mono (.inl rfl)) ?_ ?_
    · refine Gi.Obl.plain rfl ?_
      intro ac wg K lo hi hsz hW hpr hf hap hK; clear hsz hap
      have hW : Lq w1.heap.size w1 wg := hW
      have e24 := hf 24 (by decide)
      simp [Gi.slotFact, List.lookup] at e24
      have e27 := hf 27 (by decide)
      simp [Gi.slotFact, List.lookup] at e27
      clear hf
      have HCG : Hid (∀ (j : Nat) u, vss.flatten[j]? = some u → ∃ b, (some ⟨b2, f2, sp⟩ : Option Addr) = some ⟨b, 0, none⟩ ∧ wg.cell? ⟨b, j, none⟩ = some u) := fun j u hj => by
        obtain ⟨b, e, h3⟩ := HC.out j u hj
        exact ⟨b, e, (cell_below (HB.out.trans (hW.low.mono HB.out.size)) (World.block_lt_of_cell? _ _ h3)).trans h3⟩
      have hbW : Below w1.heap.size w1 wg := hpr rfl
      clear hpr
      have e24' : wg.ownsRow w1.heap.size 63 2 (ac.tmps.getD 24 undef) (k + 1) ((vss.take k).flatten ++ [.string x.n, .string x.d]) := by simpa [OwG] using e24
      obtain ⟨u4, hu4⟩ : ∃ u4, u4 = ac.tmps.getD 24 undef := ⟨_, rfl⟩
      obtain ⟨ax, c9, e27', hax⟩ : ∃ (ax : Option Addr) (c9 : Nat), ac.tmps[27]?.getD undef = .slice ax (len - k) c9 ∧ (∀ (j : Nat) u, (vss.drop k).flatten[j]? = some u → ∃ ad : Addr, ax = some ad ∧ wg.cell? (ad.add j) = some u) := ⟨_, _, e27, fun j u hu => by first | (rw [List.drop_eq_nil_of_le (by omega)] at hu; simp at hu; done) | (obtain ⟨g, e', h3⟩ := HCG.out _ _ (drop_at HVA.out (by omega) hu); cases e' <;> exact ⟨_, rfl, by simp only [Addr.add_lit, Nat.zero_add]; exact h3⟩)⟩
      rw [← hu4] at e24'
      obtain ⟨v', w', hr, h2, h3⟩ := run_append_lq wg w1.heap.size 30 30 63 i5 (.agg #[.string ⟨#[]⟩, .string ⟨#[]⟩]) 32 Tryz.underlying30 HI0.out.1 HI0.out.2.1 HI0.out.2.2.1 HI0.out.2.2.2 rfl u4 (k + 1) ((vss.take k).flatten ++ [.string x.n, .string x.d]) (by omega) e24' ax (len - k) c9 (vss.drop k).flatten (by rw [drop_flat HVA.out, hvl]) hax (mem_take_one HV1.out k).2 (by unfold maxLen; omega) (by omega) (by have := hW.size; omega)
      refine wp_append_run (.tmp 24) (.tmp 27) 30 rfl (by simpa [Act.eval] using hu4.symm) (by simpa [Act.eval] using e27') hr ?_
      refine hK _ _ (Rq.this h3) ?_
      show w'.ownsRow _ _ _ _ _ _
      have e9 : k + 1 + (len - k) = len + 1 := by omega
      rw [e9] at h2
      simpa [inAt] using h2
    refine Gi.Grow.done ?_
    intro q wz lo hi hW hf hap
    clear hap
    have hW : Lq w1.heap.size w1 wz := hW
    simp only [List.forall_mem_cons] at hf
    obtain ⟨h28, -⟩ := hf
    have h28 : wz.ownsRow w1.heap.size 63 2 (q 28) (len + 1) (inAt k [.string x.n, .string x.d] vss).flatten := h28 (by first | trivial | rfl)
    obtain ⟨v8, hv8⟩ : ∃ v8, q 28 = v8 := ⟨_, rfl⟩
    rw [hv8] at h28
    have HB7 := hidK (HB.out.trans (hW.low.mono HB.out.size))
    obtain ⟨a', c', rfl, hR⟩ := HFIN.out wz v8 w1.heap.size k (by omega) HB.out.size HB7.out h28
    have HR7 := hidK hR
    clear h28 hR hW
    intro K hK
    rw [if_pos (by rfl)]
    simp only [Gi.putsAll, List.foldr, Act.put, List.setIfInBounds_toArray, List.set_cons_zero, List.set_cons_succ, hv8]
    simp only [List.getLast]
    go_simp
    refine hK _ _ ?_
    refine hK0 _ _ ?_
    clear hK hK0 K K0
    go_wp2
    go_ret
    exact ⟨a', _, c', _, rfl, HR7.out, HP.out, HB7.out⟩)

def PwHeld (W : World) (nb vb : Nat) (t : ByteArray) (v : Vd) (ua : Option Addr) (ul uc : Nat) : Prop := W.heap[nb]? = some (.cells #[.string t] 9 (0, 0)) ∧ W.heap[vb]? = some (.cells #[.string v.n, .int .i64 v.c, .string v.z, .string v.k, .bool v.x, .string v.m, .bool v.y, .slice ua ul uc] 81 (0, 0))
theorem PwHeld.below {W W' : World} {nb vb : Nat} {t : ByteArray} {v : Vd} {ua : Option Addr} {ul uc : Nat} (h : PwHeld W nb vb t v ua ul uc) (hb : Below W.heap.size W W') : PwHeld W' nb vb t v ua ul uc :=
  ⟨(hb.block _ (lt_of_some h.1)).trans h.1, (hb.block _ (lt_of_some h.2)).trans h.2⟩
def Wants (p : Pd) (t m : ByteArray) : Prop := p.d = t ∧ InL p.zs m

set_option maxRecDepth 100000 in
set_option maxHeartbeats 3200000 in
theorem pw1_any (p : Pd) (va : Option Addr) (vl vc nb vb : Nat) (t : ByteArray) (v : Vd) (ua : Option Addr) (ul uc : Nat) (w : World) (hr : TxRow w va vl vc p.zs) (hh : PwHeld w nb vb t v ua ul uc) :
    Calls Tryz.prog 156 #[.agg #[.string p.n, .int .i64 p.c, .string p.z, .slice va vl vc, .string p.d, .int .i64 p.p], .pointer (some ⟨nb, 0, none⟩), .pointer (some ⟨vb, 0, none⟩)] w (BoolB (Wants p t v.m) w) := by
  have HR := hidK hr
  obtain ⟨h1, h2⟩ := hh
  have n0 := cs1 h1
  have hnl := lt_of_some h1
  obtain ⟨v0, v1, v2, v3, v4, v5, v6, v7⟩ := cs8 h2
  have hvl := lt_of_some h2
  clear hr h1 h2
  by_cases he : p.d = t
  · have hq := tl_yes he
    have HE := hidK he
    clear he
    go_enter Tryz.func156, Tryz.ntmps156
    go_wp2_with fail
    refine (icontains_any va vl vc p.zs v.m _ (HR.out.below (below1 _ _))).mono ?_
    rintro e w1 ⟨r, rfl, hi, hb⟩
    have HB := hidK ((below1 w _).trans (hb.mono (by simp)))
    clear hb
    go_wp2
    go_ret
    exact ⟨r, rfl, ⟨fun h => ⟨HE.out, hi.1 h⟩, fun h => hi.2 h.2⟩, HB.out⟩
  · have hq := tl_no he
    have HE := hidK he
    clear he
    go_enter Tryz.func156, Tryz.ntmps156
    go_wp2
    go_ret
    exact BoolB.f (fun h => HE.out h.1) (below1 _ _)

set_option maxRecDepth 100000 in
set_option maxHeartbeats 3200000 in
theorem pwx_any (a : Option Addr) (len cap : Nat) (ps : List Pd) (nb vb : Nat) (t : ByteArray) (v : Vd) (ua : Option Addr) (ul uc : Nat) (w : World) (hr : RRow w a len cap 6 (ps.map pdF)) (hh : PwHeld w nb vb t v ua ul uc) :
    Calls Tryz.prog 183 #[.slice a len cap, .func (.func 156) #[] #[.pointer (some ⟨nb, 0, none⟩), .pointer (some ⟨vb, 0, none⟩)]] w fun e w' => (∃ r : Int, e = .returned (.int .i64 r) ∧ ((0 ≤ r ∧ ∃ (j : Nat) (p : Pd), ps[j]? = some p ∧ Wants p t v.m) ∨ (r = -1 ∧ ∀ (j : Nat) (p : Pd), ps[j]? = some p → ¬ Wants p t v.m))) ∧ Below w.heap.size w w' := by
  have HR := hidK hr
  have HH := hidK hh
  have hlc : len ≤ 9223372036854775807 := Nat.le_trans hr.2.1 hr.2.2.1
  have hxl : ps.length = len := by simpa using hr.1
  clear hr hh
  go_enter Tryz.func183, Tryz.ntmps183
  go_wp2
  go_loopw [8] (fun i wr => ∃ k : Nat, k ≤ len ∧ i = .int .i64 k ∧ Hid (∀ (j : Nat) p, j < k → ps[j]? = some p → ¬ Wants p t v.m) ∧ Hid (Below w.heap.size w wr)) (fun i _ => len - (intOf i).toNat)
  case atStart => exact ⟨0, by omega, rfl, fun _ _ h => absurd h (by omega), Below.refl _ _⟩
  case round =>
    obtain ⟨k, hk, rfl, HE, HB⟩ := hrel
    by_cases hlt : k < len
    · obtain ⟨b, o, p, rfl, hb, hx, hat⟩ := pd_at (HR.out.below HB.out) hlt
      obtain ⟨va, vl, vc, hvr, z0, z2, z4, c0, c1, c2, c3, c4, c5⟩ := pd_cells hat
      have HX := hidK hx
      have HV := hidK hvr
      clear hat hx hvr z0 z2 z4
      go_wp2_with fail
      refine (pw1_any p va vl vc nb vb t v ua ul uc _ HV.out (HH.out.below HB.out)).mono ?_
      rintro e w1 ⟨r, rfl, hi, hb1⟩
      have HI := hidK hi
      have HB1 := upB HB hb1
      clear hi hb1 c0 c1 c2 c3 c4 c5
      cases r
      · go_wp2
        refine ⟨⟨k + 1, by omega, by go_num, fun j z hj hz => ?_, HB1.out⟩, by simp [intOf]; omega⟩
        by_cases e : j = k
        · subst e
          rw [HX.out] at hz
          obtain rfl := Option.some.inj hz
          exact fun q => (by have := HI.out.2 q; cases this)
        · exact HE.out j z (by omega) hz
      · go_wp2
        go_ret
        exact ⟨⟨k, rfl, .inl ⟨by omega, k, p, HX.out, HI.out.1 (by first | trivial | rfl)⟩⟩, HB1.out⟩
    · obtain rfl : len = k := by omega
      go_wp2
      go_ret
      exact ⟨⟨-1, rfl, .inr ⟨rfl, fun j p hj => HE.out j p (by have := (List.getElem?_eq_some_iff.1 hj).1; omega) hj⟩⟩, HB.out⟩

set_option maxRecDepth 100000 in
set_option maxHeartbeats 3200000 in
theorem pwc_any (a : Option Addr) (len cap : Nat) (ps : List Pd) (nb vb : Nat) (t : ByteArray) (v : Vd) (ua : Option Addr) (ul uc : Nat) (w : World) (hr : RRow w a len cap 6 (ps.map pdF)) (hh : PwHeld w nb vb t v ua ul uc) :
    Calls Tryz.prog 155 #[.slice a len cap, .func (.func 156) #[] #[.pointer (some ⟨nb, 0, none⟩), .pointer (some ⟨vb, 0, none⟩)]] w (BoolB (∃ (j : Nat) (p : Pd), ps[j]? = some p ∧ Wants p t v.m) w) := by
  have HR := hidK hr
  have HH := hidK hh
  clear hr hh
  go_enter Tryz.func155, Tryz.ntmps155
  go_wp2_with fail
  refine (pwx_any a len cap ps nb vb t v ua ul uc _ HR.out HH.out).mono ?_
  rintro e w1 ⟨⟨r, rfl, hi⟩, hb⟩
  have HB := hidK hb
  clear hb
  rcases hi with ⟨h0, h1⟩ | ⟨rfl, h1⟩
  · have H1 := hidK h1
    clear h1
    go_wp2
    go_ret
    exact BoolB.t H1.out HB.out
  · have H1 := hidK h1
    clear h1
    go_wp2
    go_ret
    exact BoolB.f (fun ⟨j, p, h2, h3⟩ => H1.out j p h2 h3) HB.out

set_option maxRecDepth 100000 in
set_option maxHeartbeats 3200000 in
theorem ipw_any (d : Ad) (c : Cl) (v : Vd) (ua : Option Addr) (ul uc : Nat) (t : ByteArray) (w : World) (hr : ClRow w d c.raw) :
    Calls Tryz.prog 100 #[.agg #[.slice d.a1 d.l1 d.c1, .slice d.a2 d.l2 d.c2, .slice d.a3 d.l3 d.c3, .slice d.a4 d.l4 d.c4, .slice d.a5 d.l5 d.c5, .int .i64 c.now], .agg #[.string v.n, .int .i64 v.c, .string v.z, .string v.k, .bool v.x, .string v.m, .bool v.y, .slice ua ul uc], .string t] w (BoolB (∃ (j : Nat) (p : Pd), c.ps[j]? = some p ∧ Wants p t v.m) w) := by
  have HR := hidK hr
  have HB := hidK (Below.refl w.heap.size w)
  clear hr
  go_enter Tryz.func100, Tryz.ntmps100
  go_wp2_with fail
  refine (pwc_any d.a5 d.l5 d.c5 c.ps (w.heap.size + 1 + 1) (w.heap.size + 1) t v ua ul uc _ (HR.out.p.below (HB.out.trans ((below3 _ _ _ _).mono HB.out.size))) ⟨heap3_2 _ _ _ _, heap3_1 _ _ _ _⟩).mono ?_
  rintro e w1 ⟨r, rfl, hi, hb⟩
  obtain ⟨HA0, HA1, HA2, hbx⟩ := slots3 hb
  have Bk := hidK HA0
  have Bv := hidK HA1
  have Bn := hidK HA2
  replace HB := upB HB hbx
  clear hb hbx HA0 HA1 HA2
  have HI := hidK hi
  clear hi
  go_wp2
  go_ret
  exact ⟨r, rfl, HI.out, HB.out⟩

def OffN (c : Cl) (n : Nd) (t : ByteArray) : Prop := (n.d = true ∧ n.u + 5 < c.now) ∨ (n.d = false ∧ ¬ InL n.zs t)
set_option maxRecDepth 100000 in
set_option maxHeartbeats 3200000 in
theorem shasQ_any (a : Option Addr) (len cap : Nat) (zs : List Qd) (x : Qd) (w : World) (hr : RRow w a len cap 2 (zs.map qdF)) :
    Calls Tryz.prog 98 #[.slice a len cap, .agg #[.string x.n, .string x.d]] w (BoolB (x ∈ zs) w) := by
  have HR := hidK hr
  have hzl : zs.length = len := by simpa using hr.1
  have hlc : len ≤ 9223372036854775807 := Nat.le_trans hr.2.1 hr.2.2.1
  clear hr
  go_enter Tryz.func98, Tryz.ntmps98
  go_wp2
  go_loopw [5] (fun vi wr => ∃ k : Nat, k ≤ len ∧ vi = .int .i64 k ∧ Hid (∀ (j : Nat) y, j < k → zs[j]? = some y → ¬ y = x) ∧ Hid (Below (w.heap.size + 1) (w.alloc (.cells #[.string x.n, .string x.d] 63)) wr)) (fun vi _ => len - (intOf vi).toNat)
  case atStart => exact ⟨0, by omega, rfl, fun j y h => by omega, Below.refl _ _⟩
  case round =>
    obtain ⟨k, hk, rfl, HI, HL⟩ := hrel
    have hLs : w.heap.size + 1 ≤ wr.heap.size := by have h8 := HL.out.size; rw [size1] at h8; exact h8
    have HB := hidK ((below1 w (.cells #[.string x.n, .string x.d] 63)).trans (HL.out.mono (by omega)))
    have Bx := hidK ((HL.out.block w.heap.size (by omega)).trans (heap_alloc_new w (.cells #[.string x.n, .string x.d] 63)))
    by_cases hlt : k < len
    · have hk1 : (k : Int) < len := by omega
      obtain ⟨b, o, y, rfl, hb, hy, hat⟩ := qd_at (HR.out.below HB.out) hlt
      obtain ⟨-, -, hc0, hc1⟩ := qd_cells hat
      have HY := hidK hy
      clear hat hy
      by_cases he : y = x
      · have hqe : ∀ W : World, (Op.equalIn 10000 63 (.agg #[.string y.n, .string y.d]) (.agg #[.string x.n, .string x.d])).run Tryz.prog W = .ok true W := fun W => by rw [eqQ]; rw [he]; simp
        have HE := hidK he
        clear he
        obtain ⟨x0, x1⟩ := cs2 Bx.out
        have ltx_0 := lt_of_some Bx.out
        go_wp2_with fail
        clear x0 x1 ltx_0
        have Gx : Hid (wr.heap[w.heap.size]? = some (.cells #[.string x.n, .string x.d] 63 (0, 0))) := Bx.out
        have HW : Hid (Below w.heap.size w wr) := HB.out
        have x0 := fun q : Wd wr => q.slot (o := 0) Gx.out rfl
        have x1 := fun q : Wd wr => q.slot (o := 1) Gx.out rfl
        have yn : ∀ q : Wd wr, q.w.cell? ⟨b, o + k * 2, none⟩ = some (.string y.n) := fun q => (q.cell (hb)).trans (hc0)
        have yd : ∀ q : Wd wr, q.w.cell? ⟨b, o + k * 2 + 1, none⟩ = some (.string y.d) := fun q => (q.cell (hb)).trans (hc1)
        have hne0 := Wd.ne wr
        go_wp2_with fail
        refine wp_region_wide (by kernel_rfl) (by kernel_rfl) ?_
        repeat (go_big_quiet_step (first | fail))
        refine wpQuiet_nil ?_
        rintro _ ⟨q1, rfl⟩
        have HB1 := upB HW q1.b
        have Cx := upK Gx q1.b
        clear hne0 HW HB x0 x1 yn yd Gx Bx hb hc0 hc1 hqe
        have HB := HB1
        clear HB1
        have Bx := Cx
        clear Cx
        go_wp2
        go_ret
        exact BoolB.t (by rw [← HE.out]; exact List.mem_of_getElem? HY.out) HB.out
      have hqe : ∀ W : World, (Op.equalIn 10000 63 (.agg #[.string y.n, .string y.d]) (.agg #[.string x.n, .string x.d])).run Tryz.prog W = .ok false W := fun W => by rw [eqQ]; exact congrArg (Result.ok · W) (by
        cases h1 : (y.n.toList == x.n.toList)
        · rfl
        · cases h2 : (y.d.toList == x.d.toList)
          · rfl
          · exact absurd (by have e1 := tl_inj h1; have e2 := tl_inj h2; obtain ⟨y1, y2⟩ := y; obtain ⟨x1, x2⟩ := x; cases e1; cases e2; rfl) he)
      have HE := hidK he
      clear he
      obtain ⟨x0, x1⟩ := cs2 Bx.out
      have ltx_0 := lt_of_some Bx.out
      go_wp2_with fail
      clear x0 x1 ltx_0
      have Gx : Hid (wr.heap[w.heap.size]? = some (.cells #[.string x.n, .string x.d] 63 (0, 0))) := Bx.out
      have HW : Hid (Below w.heap.size w wr) := HB.out
      have x0 := fun q : Wd wr => q.slot (o := 0) Gx.out rfl
      have x1 := fun q : Wd wr => q.slot (o := 1) Gx.out rfl
      have yn : ∀ q : Wd wr, q.w.cell? ⟨b, o + k * 2, none⟩ = some (.string y.n) := fun q => (q.cell (hb)).trans (hc0)
      have yd : ∀ q : Wd wr, q.w.cell? ⟨b, o + k * 2 + 1, none⟩ = some (.string y.d) := fun q => (q.cell (hb)).trans (hc1)
      have hne0 := Wd.ne wr
      go_wp2_with fail
      refine wp_region_wide (by kernel_rfl) (by kernel_rfl) ?_
      repeat (go_big_quiet_step (first | fail))
      refine wpQuiet_nil ?_
      rintro _ ⟨q1, rfl⟩
      have HB1 := upB HW q1.b
      have Cx := upK Gx q1.b
      clear hne0 HW HB x0 x1 yn yd Gx Bx hb hc0 hc1 hqe
      have HB := HB1
      clear HB1
      have Bx := Cx
      clear Cx
      go_wp2
      refine ⟨⟨k + 1, by omega, by go_num, fun j z hj hz => ?_, HL.out.trans (q1.b.mono (by omega))⟩, by simp [intOf]; omega⟩
      by_cases e : j = k
      · subst e
        rw [HY.out] at hz
        obtain rfl := Option.some.inj hz
        exact HE.out
      · exact HI.out j z (by omega) hz
    have hk1 : ¬ (k : Int) < len := by omega
    obtain ⟨x0, x1⟩ := cs2 Bx.out
    have ltx_0 := lt_of_some Bx.out
    go_wp2
    go_ret
    exact BoolB.f (fun h => by obtain ⟨j, hj⟩ := List.getElem?_of_mem h; exact HI.out j x (by have := (List.getElem?_eq_some_iff.1 hj).1; omega) hj rfl) HB.out

set_option maxRecDepth 10000 in
set_option maxHeartbeats 1600000 in
theorem sgoneE_any (d : Ad) (now : Int) (n : Nd) (va : Option Addr) (vl vc : Nat) (w : World) (h0 : 0 ≤ n.u) (h1 : n.u ≤ 1000000) :
    Calls Tryz.prog 154 #[.agg #[.slice d.a1 d.l1 d.c1, .slice d.a2 d.l2 d.c2, .slice d.a3 d.l3 d.c3, .slice d.a4 d.l4 d.c4, .slice d.a5 d.l5 d.c5, .int .i64 now], .agg #[.string n.n, .string n.z, .int .i64 n.c, .int .i64 n.s, .int .i64 n.u, .bool n.d, .slice va vl vc]] w fun e w' => e = .returned (.bool (n.d && decide (n.u + 5 < now))) ∧ Below w.heap.size w w' := by
  cases hd : n.d
  all_goals (
    go_enter Tryz.func154, Tryz.ntmps154
    go_wp2
    go_ret
    exact ⟨by simp, below2 _ _ _⟩)

set_option maxRecDepth 10000 in
set_option maxHeartbeats 1600000 in
theorem ileaseE_any (d : Ad) (now : Int) (n : Nd) (va : Option Addr) (vl vc : Nat) (w : World) :
    Calls Tryz.prog 158 #[.agg #[.slice d.a1 d.l1 d.c1, .slice d.a2 d.l2 d.c2, .slice d.a3 d.l3 d.c3, .slice d.a4 d.l4 d.c4, .slice d.a5 d.l5 d.c5, .int .i64 now], .agg #[.string n.n, .string n.z, .int .i64 n.c, .int .i64 n.s, .int .i64 n.u, .bool n.d, .slice va vl vc]] w fun e w' => e = .returned (.agg #[.int .i64 n.u, .int .i64 now]) ∧ Below w.heap.size w w' := by
  go_enter Tryz.func158, Tryz.ntmps158
  go_wp2
  exact bodyPost_ret (v := .agg #[.int .i64 n.u, .int .i64 now]) (by simp [results, Tryz.results158, go_sem]) rfl ⟨rfl, below3 _ _ _ _⟩

set_option maxRecDepth 10000 in
set_option maxHeartbeats 1600000 in
theorem ioutE_any (u now : Int) (w : World) (h0 : 0 ≤ u) (h1 : u ≤ 1000000) :
    Calls Tryz.prog 159 #[.agg #[.int .i64 u, .int .i64 now]] w fun e w' => e = .returned (.bool (decide (u + 5 < now))) ∧ Below w.heap.size w w' := by
  go_enter Tryz.func159, Tryz.ntmps159
  go_wp2
  go_ret
  exact ⟨rfl, below1 _ _⟩

def BoxN (B : Nat) : Fact := fun v w => ∃ b, v = .pointer (some ⟨b, 0, none⟩) ∧ B ≤ b ∧ w.heap[b]? = some (.cells #[.string ⟨#[]⟩, .string ⟨#[]⟩, .int .i64 0, .int .i64 0, .int .i64 0, .bool false, .slice none 0 0] 109 (0, 0))
theorem BoxN.mono (B : Nat) : Fact.Mono (BoxN B) := by
  rintro v w w' ⟨b, h1, h2, h3⟩ hb
  exact ⟨b, h1, h2, (hb.block _ (lt_of_some h3)).trans h3⟩
theorem RightI.until {c : Cl} {n : Nd} {j : Nat} (h : RightI c) (hn : c.ns[j]? = some n) : 0 ≤ n.u ∧ n.u ≤ 1000000 := (h.2.1.1.2.1 j n hn).2.2.2.2.1
theorem offN_dead {c : Cl} {n : Nd} {t : ByteArray} (h : n.d = true) : OffN c n t ↔ n.u + 5 < c.now := by
  unfold OffN
  rw [h]
  simp
theorem offN_lives {c : Cl} {n : Nd} {t : ByteArray} (h : n.d = false) : OffN c n t ↔ ¬ InL n.zs t := by
  unfold OffN
  rw [h]
  simp

set_option maxRecDepth 100000 in
set_option maxHeartbeats 3200000 in
theorem soff_any (d : Ad) (c : Cl) (x : Qd) (j : Nat) (n : Nd) (w : World) (hr : ClRow w d c.raw) (hT : RightI c) (hn : c.ns[j]? = some n) (hnn : n.n = x.d) :
    Calls Tryz.prog 99 #[.agg #[.slice d.a1 d.l1 d.c1, .slice d.a2 d.l2 d.c2, .slice d.a3 d.l3 d.c3, .slice d.a4 d.l4 d.c4, .slice d.a5 d.l5 d.c5, .int .i64 c.now], .agg #[.string x.n, .string x.d]] w (BoolB (OffN c n x.n) w) := by
  obtain ⟨a1, l1, y1, a2, l2, y2, a3, l3, y3, a4, l4, y4, a5, l5, y5⟩ := d
  dsimp only
  have HR := hidK hr
  have hl1 : c.ns.length = l1 := by simpa using (show (c.ns.map ndF).length = l1 from hr.n.1)
  have hm1 : l1 ≤ 9223372036854775807 := Nat.le_trans hr.n.2.1 hr.n.2.2.1
  have hl2 : c.ks.length = l2 := by simpa using (show (c.ks.map kdF).length = l2 from hr.k.1)
  have hm2 : l2 ≤ 9223372036854775807 := Nat.le_trans hr.k.2.1 hr.k.2.2.1
  have hl3 : c.vs.length = l3 := by simpa using (show (c.vs.map vdF).length = l3 from hr.v.1)
  have hm3 : l3 ≤ 9223372036854775807 := Nat.le_trans hr.v.2.1 hr.v.2.2.1
  have hl4 : c.xs.length = l4 := by simpa using (show (c.xs.map xdF).length = l4 from hr.x.1)
  have hm4 : l4 ≤ 9223372036854775807 := Nat.le_trans hr.x.2.1 hr.x.2.2.1
  have hl5 : c.ps.length = l5 := by simpa using (show (c.ps.map pdF).length = l5 from hr.p.1)
  have hm5 : l5 ≤ 9223372036854775807 := Nat.le_trans hr.p.2.1 hr.p.2.2.1
  clear hr
  have HT := hidK hT
  have HN := hidK hn
  have HNN := hidK hnn
  have hj1 : j < l1 := by have := (List.getElem?_eq_some_iff.1 hn).1; omega
  have hj2 : (j : Int) < l1 := by omega
  have hj0 : ¬ (j : Int) < 0 := by omega
  have hu := RightI.until hT hn
  clear hT hn hnn
  have HB := hidK (Below.refl w.heap.size w)
  obtain ⟨b, o, y, rfl, hbl, hy, hat⟩ := nd_at HR.out.n hj1
  rw [HN.out] at hy
  obtain rfl := Option.some.inj hy
  obtain ⟨va, vl, vc, hvr, -, -, d0, d1, d2, d3, d4, d5, d6⟩ := nd_cells hat
  have HV := hidK hvr
  clear hat hy hvr
  go_enter Tryz.func99, Tryz.ntmps99
  go_wp2_with fail
  obtain ⟨W, hW0⟩ : ∃ W, W = ((w.alloc (.cells #[.slice (some ⟨b, o, none⟩) l1 y1, .slice a2 l2 y2, .slice a3 l3 y3, .slice a4 l4 y4, .slice a5 l5 y5, .int .i64 c.now] 38)).alloc (.cells #[.string x.n, .string x.d] 63)) := ⟨_, rfl⟩
  have Bk : Hid (W.heap[w.heap.size]? = some (.cells #[.slice (some ⟨b, o, none⟩) l1 y1, .slice a2 l2 y2, .slice a3 l3 y3, .slice a4 l4 y4, .slice a5 l5 y5, .int .i64 c.now] 38 (0, 0))) := by rw [hW0]; exact heap2_0 _ _ _
  have Bx : Hid (W.heap[w.heap.size + 1]? = some (.cells #[.string x.n, .string x.d] 63 (0, 0))) := by rw [hW0]; exact heap2_1 _ _ _
  have HBW : Hid (Below w.heap.size w W) := by rw [hW0]; exact below2 _ _ _
  have HNC := hidK (And.intro d0 (And.intro d1 (And.intro d2 (And.intro d3 (And.intro d4 (And.intro d5 d6))))))
  have HBL := hidK hbl
  rw [← hW0]
  clear hW0 d0 d1 d2 d3 d4 d5 d6 hbl
  rename_i K0 hK0
  refine wp_region_grow_last (by kernel_rfl) rfl rfl (by kernel_rfl) ?_
  refine' Grow.stepC _ rfl ?_ ?_
  rotate_left 1
  · refine Obl.plain rfl ?_
    intro ac wg K hsz hW hf hK; clear hsz
    have e2 := hf 2 (by decide)
    simp [slotFact, List.lookup] at e2
    clear hf
    go_simp
    refine hK _ _ (Below.refl _ _) ?_
    with_reducible rfl
  refine' Grow.stepC _ rfl ?_ ?_
  rotate_left 1
  · refine Obl.plain rfl ?_
    intro ac wg K hsz hW hf hK; clear hsz
    have e6 := hf 6 (by decide)
    simp [slotFact, List.lookup] at e6
    clear hf
    obtain ⟨k0, k1, k2, k3, k4, k5⟩ := cs6 ((hW.block _ (lt_of_some Bk.out)).trans Bk.out)
    go_simp
    refine hK _ _ (Below.refl _ _) ?_
    with_reducible rfl
  refine' Grow.stepC _ rfl ?_ ?_
  rotate_left 1
  · refine Obl.plain rfl ?_
    intro ac wg K hsz hW hf hK; clear hsz
    have e2 := hf 2 (by decide)
    simp [slotFact, List.lookup] at e2
    clear hf
    obtain ⟨k0, k1, k2, k3, k4, k5⟩ := cs6 ((hW.block _ (lt_of_some Bk.out)).trans Bk.out)
    go_simp
    refine hK _ _ (Below.refl _ _) ?_
    with_reducible rfl
  refine' Grow.stepC _ rfl ?_ ?_
  rotate_left 1
  · refine Obl.plain rfl ?_
    intro ac wg K hsz hW hf hK; clear hsz
    have e3 := hf 3 (by decide)
    simp [slotFact, List.lookup] at e3
    clear hf
    go_simp
    refine hK _ _ (Below.refl _ _) ?_
    with_reducible rfl
  refine' Grow.stepC _ rfl ?_ ?_
  rotate_left 1
  · refine Obl.plain rfl ?_
    intro ac wg K hsz hW hf hK; clear hsz
    have e9 := hf 9 (by decide)
    simp [slotFact, List.lookup] at e9
    clear hf
    obtain ⟨k0, k1⟩ := cs2 ((hW.block _ (lt_of_some Bx.out)).trans Bx.out)
    go_simp
    refine hK _ _ (Below.refl _ _) ?_
    with_reducible rfl
  refine' Grow.stepC (.int .i64 j) rfl ?_ ?_
  · refine Obl.plain rfl ?_
    intro ac wg K hsz hW hf hK; clear hsz
    have e8 := hf 8 (by decide)
    simp [slotFact, List.lookup] at e8
    have e10 := hf 10 (by decide)
    simp [slotFact, List.lookup] at e10
    clear hf
    go_simp
    refine (sxnd_hit ⟨(some ⟨b, o, none⟩), l1, y1, a2, l2, y2, a3, l3, y3, a4, l4, y4, a5, l5, y5⟩ c.now c.ns x.d _ (HR.out.n.below (HBW.out.trans (hW.mono HBW.out.size))) HT.out.2.1.1.2.2 HN.out HNN.out).mono ?_
    rintro e w6 ⟨rfl, hb6⟩
    exact hK _ _ hb6 rfl
  refine' Grow.stepC _ rfl ?_ ?_
  rotate_left 1
  · refine Obl.plain rfl ?_
    intro ac wg K hsz hW hf hK; clear hsz
    have e7 := hf 7 (by decide)
    simp [slotFact, List.lookup] at e7
    have e11 := hf 11 (by decide)
    simp [slotFact, List.lookup] at e11
    clear hf
    go_simp
    refine hK _ _ (Below.refl _ _) ?_
    with_reducible rfl
  refine' Grow.stepC _ rfl ?_ ?_
  rotate_left 1
  · refine Obl.plain rfl ?_
    intro ac wg K hsz hW hf hK; clear hsz
    have e12 := hf 12 (by decide)
    simp [slotFact, List.lookup] at e12
    clear hf
    obtain ⟨d0, d1, d2, d3, d4, d5, d6⟩ := HNC.out
    have hbg := HBW.out.trans (hW.mono HBW.out.size)
    replace d0 := (cell_below hbg HBL.out).trans d0
    replace d1 := (cell_below hbg HBL.out).trans d1
    replace d2 := (cell_below hbg HBL.out).trans d2
    replace d3 := (cell_below hbg HBL.out).trans d3
    replace d4 := (cell_below hbg HBL.out).trans d4
    replace d5 := (cell_below hbg HBL.out).trans d5
    replace d6 := (cell_below hbg HBL.out).trans d6
    go_simp
    refine hK _ _ (Below.refl _ _) ?_
    with_reducible rfl
  refine Grow.step (BoxN W.heap.size) rfl (BoxN.mono _) ?_ ?_
  · refine Obl.plain rfl ?_
    intro ac wg K hsz hW hf hK; clear hsz
    clear hf
    go_simp
    exact hK _ _ (below1 _ _) ⟨_, rfl, hW.size, Array.getElem?_push_size⟩
  refine Grow.done ?_
  intro q wz hW hf
  simp only [List.forall_mem_cons] at hf
  obtain ⟨⟨b9, h5, hb9, hg9⟩, h13, -⟩ := hf
  have g0 := hg9
  have g1 : (wz.setCell ⟨b9, 0, none⟩ (.string n.n)).heap[b9]? = some (.cells #[.string n.n, .string ⟨#[]⟩, .int .i64 0, .int .i64 0, .int .i64 0, .bool false, .slice none 0 0] 109 (0, 0)) := block_set g0 _
  have g2 : ((wz.setCell ⟨b9, 0, none⟩ (.string n.n)).setCell ⟨b9, 1, none⟩ (.string n.z)).heap[b9]? = some (.cells #[.string n.n, .string n.z, .int .i64 0, .int .i64 0, .int .i64 0, .bool false, .slice none 0 0] 109 (0, 0)) := block_set g1 _
  have g3 : (((wz.setCell ⟨b9, 0, none⟩ (.string n.n)).setCell ⟨b9, 1, none⟩ (.string n.z)).setCell ⟨b9, 2, none⟩ (.int .i64 n.c)).heap[b9]? = some (.cells #[.string n.n, .string n.z, .int .i64 n.c, .int .i64 0, .int .i64 0, .bool false, .slice none 0 0] 109 (0, 0)) := block_set g2 _
  have g4 : ((((wz.setCell ⟨b9, 0, none⟩ (.string n.n)).setCell ⟨b9, 1, none⟩ (.string n.z)).setCell ⟨b9, 2, none⟩ (.int .i64 n.c)).setCell ⟨b9, 3, none⟩ (.int .i64 n.s)).heap[b9]? = some (.cells #[.string n.n, .string n.z, .int .i64 n.c, .int .i64 n.s, .int .i64 0, .bool false, .slice none 0 0] 109 (0, 0)) := block_set g3 _
  have g5 : (((((wz.setCell ⟨b9, 0, none⟩ (.string n.n)).setCell ⟨b9, 1, none⟩ (.string n.z)).setCell ⟨b9, 2, none⟩ (.int .i64 n.c)).setCell ⟨b9, 3, none⟩ (.int .i64 n.s)).setCell ⟨b9, 4, none⟩ (.int .i64 n.u)).heap[b9]? = some (.cells #[.string n.n, .string n.z, .int .i64 n.c, .int .i64 n.s, .int .i64 n.u, .bool false, .slice none 0 0] 109 (0, 0)) := block_set g4 _
  have g6 : ((((((wz.setCell ⟨b9, 0, none⟩ (.string n.n)).setCell ⟨b9, 1, none⟩ (.string n.z)).setCell ⟨b9, 2, none⟩ (.int .i64 n.c)).setCell ⟨b9, 3, none⟩ (.int .i64 n.s)).setCell ⟨b9, 4, none⟩ (.int .i64 n.u)).setCell ⟨b9, 5, none⟩ (.bool n.d)).heap[b9]? = some (.cells #[.string n.n, .string n.z, .int .i64 n.c, .int .i64 n.s, .int .i64 n.u, .bool n.d, .slice none 0 0] 109 (0, 0)) := block_set g5 _
  have g7 : (((((((wz.setCell ⟨b9, 0, none⟩ (.string n.n)).setCell ⟨b9, 1, none⟩ (.string n.z)).setCell ⟨b9, 2, none⟩ (.int .i64 n.c)).setCell ⟨b9, 3, none⟩ (.int .i64 n.s)).setCell ⟨b9, 4, none⟩ (.int .i64 n.u)).setCell ⟨b9, 5, none⟩ (.bool n.d)).setCell ⟨b9, 6, none⟩ (.slice va vl vc)).heap[b9]? = some (.cells #[.string n.n, .string n.z, .int .i64 n.c, .int .i64 n.s, .int .i64 n.u, .bool n.d, .slice va vl vc] 109 (0, 0)) := block_set g6 _
  obtain ⟨t0, t1, t2, t3, t4, t5, t6⟩ := cs7 hg9
  have f0 := froK hg9 0
  have f1 := froK hg9 1
  have f2 := froK hg9 2
  have f3 := froK hg9 3
  have f4 := froK hg9 4
  have f5 := froK hg9 5
  have f6 := froK hg9 6
  have Bn := hidK g7
  have HWX : Hid (Below W.heap.size W (((((((wz.setCell ⟨b9, 0, none⟩ (.string n.n)).setCell ⟨b9, 1, none⟩ (.string n.z)).setCell ⟨b9, 2, none⟩ (.int .i64 n.c)).setCell ⟨b9, 3, none⟩ (.int .i64 n.s)).setCell ⟨b9, 4, none⟩ (.int .i64 n.u)).setCell ⟨b9, 5, none⟩ (.bool n.d)).setCell ⟨b9, 6, none⟩ (.slice va vl vc))) := set_below hb9 (set_below hb9 (set_below hb9 (set_below hb9 (set_below hb9 (set_below hb9 (set_below hb9 (hW)))))))
  clear g0 g1 g2 g3 g4 g5 g6 g7 hg9
  intro K hK
  rw [if_pos (by rfl)]
  simp only [putsAll, List.foldr, Act.put, List.setIfInBounds_toArray, List.set_cons_zero, List.set_cons_succ, h5, h13]
  simp only [List.getLast]
  go_simp
  refine hK _ _ ?_
  refine hK0 _ _ ?_
  clear hK hK0 K K0
  generalize (((((((wz.setCell ⟨b9, 0, none⟩ (.string n.n)).setCell ⟨b9, 1, none⟩ (.string n.z)).setCell ⟨b9, 2, none⟩ (.int .i64 n.c)).setCell ⟨b9, 3, none⟩ (.int .i64 n.s)).setCell ⟨b9, 4, none⟩ (.int .i64 n.u)).setCell ⟨b9, 5, none⟩ (.bool n.d)).setCell ⟨b9, 6, none⟩ (.slice va vl vc)) = X3 at Bn HWX ⊢
  clear t0 t1 t2 t3 t4 t5 t6 f0 f1 f2 f3 f4 f5 f6
  have HB3 := hidK (HBW.out.trans (HWX.out.mono HBW.out.size))
  replace Bk := hidK ((HWX.out.block _ (lt_of_some Bk.out)).trans Bk.out)
  replace Bx := hidK ((HWX.out.block _ (lt_of_some Bx.out)).trans Bx.out)
  clear HB hW HWX HBW
  have HB := HB3
  clear HB3
  cases hd : n.d
  · have HD := hidK hd
    clear hd
    rw [HD.out] at Bn
    obtain ⟨k0, k1, k2, k3, k4, k5⟩ := cs6 Bk.out
    have ltk_0 := lt_of_some Bk.out
    obtain ⟨x0, x1⟩ := cs2 Bx.out
    have ltx_0 := lt_of_some Bx.out
    obtain ⟨n0, n1, n2, n3, n4, n5, n6⟩ := cs7 Bn.out
    have ltn_0 := lt_of_some Bn.out
    go_wp2_with fail
    refine (shas_any va vl vc n.zs x.n _ (HV.out.below HB.out)).mono ?_
    rintro e w4 ⟨r, rfl, hh, hb⟩
    clear k0 k1 k2 k3 k4 k5 ltk_0 x0 x1 ltx_0 n0 n1 n2 n3 n4 n5 n6 ltn_0
    replace Bk := upK Bk hb
    replace Bx := upK Bx hb
    replace Bn := upK Bn hb
    replace HB := upB HB hb
    clear hb
    have HH := hidK hh
    clear hh
    obtain ⟨k0, k1, k2, k3, k4, k5⟩ := cs6 Bk.out
    have ltk_1 := lt_of_some Bk.out
    obtain ⟨x0, x1⟩ := cs2 Bx.out
    have ltx_1 := lt_of_some Bx.out
    obtain ⟨n0, n1, n2, n3, n4, n5, n6⟩ := cs7 Bn.out
    have ltn_1 := lt_of_some Bn.out
    cases r
    all_goals (
      go_wp2
      go_ret
      first
        | exact BoolB.t ((offN_lives HD.out).2 (fun h => by have h9 := HH.out.2 h; cases h9)) HB.out
        | exact BoolB.f (fun h => (offN_lives HD.out).1 h (HH.out.1 (by simp))) HB.out)
  · have HD := hidK hd
    clear hd
    rw [HD.out] at Bn
    obtain ⟨k0, k1, k2, k3, k4, k5⟩ := cs6 Bk.out
    have ltk_0 := lt_of_some Bk.out
    obtain ⟨x0, x1⟩ := cs2 Bx.out
    have ltx_0 := lt_of_some Bx.out
    obtain ⟨n0, n1, n2, n3, n4, n5, n6⟩ := cs7 Bn.out
    have ltn_0 := lt_of_some Bn.out
    go_wp2_with fail
    obtain ⟨r, hr⟩ : ∃ r, r = decide (n.u + 5 < c.now) := ⟨_, rfl⟩
    have HRR := hidK hr
    clear hr
    have hg := sgoneE_any ⟨(some ⟨b, o, none⟩), l1, y1, a2, l2, y2, a3, l3, y3, a4, l4, y4, a5, l5, y5⟩ c.now n va vl vc X3 hu.1 hu.2
    rw [HD.out, ← HRR.out] at hg
    refine (hg).mono ?_
    rintro e w4 ⟨rfl, hb⟩
    clear k0 k1 k2 k3 k4 k5 ltk_0 x0 x1 ltx_0 n0 n1 n2 n3 n4 n5 n6 ltn_0
    replace Bk := upK Bk hb
    replace Bx := upK Bx hb
    replace Bn := upK Bn hb
    replace HB := upB HB hb
    clear hb
    clear hg
    obtain ⟨k0, k1, k2, k3, k4, k5⟩ := cs6 Bk.out
    have ltk_1 := lt_of_some Bk.out
    cases r
    all_goals (
      go_wp2
      go_ret
      first
        | exact BoolB.t ((offN_dead HD.out).2 (of_decide_eq_true HRR.out.symm)) HB.out
        | exact BoolB.f (fun h => (of_decide_eq_false HRR.out.symm) ((offN_dead HD.out).1 h)) HB.out)

set_option maxRecDepth 100000 in
set_option maxHeartbeats 3200000 in
theorem imoff_any (d : Ad) (c : Cl) (t s : ByteArray) (j : Nat) (n : Nd) (w : World) (hr : ClRow w d c.raw) (hT : RightI c) (hn : c.ns[j]? = some n) (hnn : n.n = s) :
    Calls Tryz.prog 101 #[.agg #[.slice d.a1 d.l1 d.c1, .slice d.a2 d.l2 d.c2, .slice d.a3 d.l3 d.c3, .slice d.a4 d.l4 d.c4, .slice d.a5 d.l5 d.c5, .int .i64 c.now], .string t, .string s] w (BoolB (OffN c n t) w) := by
  have HR := hidK hr
  have HT := hidK hT
  have HN := hidK hn
  have HNN := hidK hnn
  have hu := RightI.until hT hn
  have HB := hidK (Below.refl w.heap.size w)
  clear hr hT hn hnn
  go_enter Tryz.func101, Tryz.ntmps101
  go_wp2_with fail
  refine (thend_any d c.now c.ns s w _ HR.out.n (below1 _ _)).mono ?_
  rintro e w1 ⟨hb, hf⟩
  obtain ⟨HA0, hbx⟩ := slots1 hb
  have Bk := hidK HA0
  replace HB := upB HB hbx
  clear hb hbx HA0
  have hit9 := hit_at HT.out.2.1.1.2.2 HN.out HNN.out
  rcases hf with ⟨hh, n9, va, vl, vc, hx, hn9, rfl, z0, z1, hvr⟩ | ⟨hh, rfl⟩
  rotate_left
  · rw [hit9.2] at hh
    cases hh
  obtain ⟨-, rfl⟩ := HT.out.2.1.1.2.2.inj HN.out hx (HNN.out.trans hn9.symm)
  have HV := hidK hvr
  clear hx hn9 hh z0 z1 hvr hit9
  cases hd : n.d
  · have HD := hidK hd
    clear hd
    obtain ⟨k0, k1, k2, k3, k4, k5⟩ := cs6 Bk.out
    have ltk_1 := lt_of_some Bk.out
    go_wp2_with fail
    refine (icontains_any va vl vc n.zs t _ (HV.out.below (HB.out.alloc HB.out.size _))).mono ?_
    rintro e w4 ⟨r, rfl, hh, hb⟩
    clear k0 k1 k2 k3 k4 k5 ltk_1
    obtain ⟨HA0, hbx⟩ := slots1 hb
    replace Bk := upK Bk hbx
    have Bn := hidK HA0
    replace HB := upB HB hbx
    clear hb hbx HA0
    have HH := hidK hh
    clear hh
    obtain ⟨k0, k1, k2, k3, k4, k5⟩ := cs6 Bk.out
    have ltk_2 := lt_of_some Bk.out
    obtain ⟨n0, n1, n2, n3, n4, n5, n6⟩ := cs7 Bn.out
    have ltn_2 := lt_of_some Bn.out
    cases r
    all_goals (
      go_wp2
      go_ret
      first
        | exact BoolB.t ((offN_lives HD.out).2 (fun h => by have h9 := HH.out.2 h; cases h9)) HB.out
        | exact BoolB.f (fun h => (offN_lives HD.out).1 h (HH.out.1 (by simp))) HB.out)
  · have HD := hidK hd
    clear hd
    obtain ⟨k0, k1, k2, k3, k4, k5⟩ := cs6 Bk.out
    have ltk_1 := lt_of_some Bk.out
    go_wp2_with fail
    have hg := ileaseE_any d c.now n va vl vc (w1.alloc (.cells #[.string n.n, .string n.z, .int .i64 n.c, .int .i64 n.s, .int .i64 n.u, .bool true, .slice va vl vc] 109))
    rw [HD.out] at hg
    refine (hg).mono ?_
    rintro e w4 ⟨rfl, hb⟩
    clear k0 k1 k2 k3 k4 k5 ltk_1
    obtain ⟨HA0, hbx⟩ := slots1 hb
    replace Bk := upK Bk hbx
    have Bn := hidK HA0
    replace HB := upB HB hbx
    clear hb hbx HA0
    clear hg
    obtain ⟨k0, k1, k2, k3, k4, k5⟩ := cs6 Bk.out
    have ltk_2 := lt_of_some Bk.out
    go_wp2_with fail
    obtain ⟨r, hr⟩ : ∃ r, r = decide (n.u + 5 < c.now) := ⟨_, rfl⟩
    have HRR := hidK hr
    clear hr
    have hg := ioutE_any n.u c.now w4 hu.1 hu.2
    rw [← HRR.out] at hg
    refine (hg).mono ?_
    rintro e w5 ⟨rfl, hb⟩
    clear k0 k1 k2 k3 k4 k5 ltk_2
    replace Bk := upK Bk hb
    replace Bn := upK Bn hb
    replace HB := upB HB hb
    clear hb
    clear hg
    obtain ⟨k0, k1, k2, k3, k4, k5⟩ := cs6 Bk.out
    have ltk_3 := lt_of_some Bk.out
    cases r
    all_goals (
      go_wp2
      go_ret
      first
        | exact BoolB.t ((offN_dead HD.out).2 (of_decide_eq_true HRR.out.symm)) HB.out
        | exact BoolB.f (fun h => (of_decide_eq_false HRR.out.symm) ((offN_dead HD.out).1 h)) HB.out)

def Wnt (c : Cl) (v : Vd) (t : ByteArray) : Prop := ∃ (j : Nat) (p : Pd), c.ps[j]? = some p ∧ Wants p t v.m
def Mof (c : Cl) (v : Vd) (t : ByteArray) : Prop := ∃ (j : Nat) (n : Nd), c.ns[j]? = some n ∧ n.n = t ∧ OffN c n v.n
def Xc (c : Cl) (v : Vd) (k : Nat) (q : Qd) : Prop := ∃ (i : Nat) (t : ByteArray), i < k ∧ v.zs[i]? = some t ∧ ¬ Wnt c v t ∧ Mof c v t ∧ q = ⟨v.n, t⟩
def Xn (c : Cl) (k : Nat) (q : Qd) : Prop := ∃ (j : Nat) (v : Vd), j < k ∧ c.vs[j]? = some v ∧ Xc c v v.zs.length q
def ExcAns (c : Cl) (B : Nat) (w : World) (e : Ending) (w' : World) : Prop := ∃ a' l' c' zs', e = .returned (.slice a' l' c') ∧ ROwn w' a' l' c' 2 63 (zs'.map qdF) (fun k => B ≤ k) ∧ RQ zs' ∧ (∀ q, q ∈ zs' ↔ Xn c c.vs.length q) ∧ zs'.length ≤ 64 ∧ Below w.heap.size w w'
theorem Mof.iff {c : Cl} {v : Vd} {t : ByteArray} {j : Nat} {n : Nd} (hr : RisBy Nd.n c.ns) (h : c.ns[j]? = some n) (hn : n.n = t) : Mof c v t ↔ OffN c n v.n := by
  constructor
  · rintro ⟨j', n', h', hn', ho⟩
    obtain ⟨-, rfl⟩ := hr.inj h h' (hn.trans hn'.symm)
    exact ho
  · exact fun ho => ⟨j, n, h, hn, ho⟩
theorem Xc.yes {c : Cl} {v : Vd} {k : Nat} {t : ByteArray} {q : Qd} (ht : v.zs[k]? = some t) (h1 : ¬ Wnt c v t) (h2 : Mof c v t) : Xc c v (k + 1) q ↔ Xc c v k q ∨ q = ⟨v.n, t⟩ := by
  constructor
  · rintro ⟨i, s, hi, hs, a, b, e⟩
    by_cases h : i = k
    · subst h
      rw [ht] at hs
      obtain rfl := Option.some.inj hs
      exact .inr e
    · exact .inl ⟨i, s, by omega, hs, a, b, e⟩
  · rintro (⟨i, s, hi, hs, a, b, e⟩ | e)
    · exact ⟨i, s, by omega, hs, a, b, e⟩
    · exact ⟨k, t, by omega, ht, h1, h2, e⟩
theorem Xc.no {c : Cl} {v : Vd} {k : Nat} {t : ByteArray} {q : Qd} (ht : v.zs[k]? = some t) (h1 : ¬ (¬ Wnt c v t ∧ Mof c v t)) : Xc c v (k + 1) q ↔ Xc c v k q := by
  constructor
  · rintro ⟨i, s, hi, hs, a, b, e⟩
    by_cases h : i = k
    · subst h
      rw [ht] at hs
      obtain rfl := Option.some.inj hs
      exact absurd ⟨a, b⟩ h1
    · exact ⟨i, s, by omega, hs, a, b, e⟩
  · rintro ⟨i, s, hi, hs, a, b, e⟩
    exact ⟨i, s, by omega, hs, a, b, e⟩
theorem Xn.step {c : Cl} {k : Nat} {v : Vd} {q : Qd} (hv : c.vs[k]? = some v) : Xn c (k + 1) q ↔ Xn c k q ∨ Xc c v v.zs.length q := by
  constructor
  · rintro ⟨i, s, hi, hs, a⟩
    by_cases h : i = k
    · subst h
      rw [hv] at hs
      obtain rfl := Option.some.inj hs
      exact .inr a
    · exact .inl ⟨i, s, by omega, hs, a⟩
  · rintro (⟨i, s, hi, hs, a⟩ | a)
    · exact ⟨i, s, by omega, hs, a⟩
    · exact ⟨k, v, by omega, hv, a⟩

set_option maxRecDepth 100000 in
set_option maxHeartbeats 12800000 in
theorem iexc_any (d : Ad) (c : Cl) (w : World) (hr : ClRow w d c.raw) (hT : RightI c) :
    Calls Tryz.prog 49 #[.agg #[.slice d.a1 d.l1 d.c1, .slice d.a2 d.l2 d.c2, .slice d.a3 d.l3 d.c3, .slice d.a4 d.l4 d.c4, .slice d.a5 d.l5 d.c5, .int .i64 c.now]] w (ExcAns c (w.heap.size + 1) w) := by
  obtain ⟨a1, l1, y1, a2, l2, y2, a3, l3, y3, a4, l4, y4, a5, l5, y5⟩ := d
  dsimp only
  have HR := hidK hr
  have hl1 : c.ns.length = l1 := by simpa using (show (c.ns.map ndF).length = l1 from hr.n.1)
  have hm1 : l1 ≤ 9223372036854775807 := Nat.le_trans hr.n.2.1 hr.n.2.2.1
  have hl2 : c.ks.length = l2 := by simpa using (show (c.ks.map kdF).length = l2 from hr.k.1)
  have hm2 : l2 ≤ 9223372036854775807 := Nat.le_trans hr.k.2.1 hr.k.2.2.1
  have hl3 : c.vs.length = l3 := by simpa using (show (c.vs.map vdF).length = l3 from hr.v.1)
  have hm3 : l3 ≤ 9223372036854775807 := Nat.le_trans hr.v.2.1 hr.v.2.2.1
  have hl4 : c.xs.length = l4 := by simpa using (show (c.xs.map xdF).length = l4 from hr.x.1)
  have hm4 : l4 ≤ 9223372036854775807 := Nat.le_trans hr.x.2.1 hr.x.2.2.1
  have hl5 : c.ps.length = l5 := by simpa using (show (c.ps.map pdF).length = l5 from hr.p.1)
  have hm5 : l5 ≤ 9223372036854775807 := Nat.le_trans hr.p.2.1 hr.p.2.2.1
  clear hr
  have HT := hidK hT
  clear hT
  have h58 : c.vs.length ≤ 8 := by have := HT.out.sm.v; omega
  go_enter Tryz.func49, Tryz.ntmps49
  go_wp2
  go_loopw [3, 11] (fun vo vi wr => ∃ (k : Nat) (ca : Option Addr) (cl cc : Nat) (ys : List Qd), k ≤ l3 ∧ vi = .int .i64 k ∧ vo = .slice ca cl cc ∧ Hid (ROwn wr ca cl cc 2 63 (ys.map qdF) (fun j => w.heap.size + 1 ≤ j) ∧ RQ ys ∧ (∀ q, q ∈ ys ↔ Xn c k q) ∧ ys.length ≤ 8 * k) ∧ Hid (Below (w.heap.size + 1) (w.alloc (.cells #[.slice a1 l1 y1, .slice a2 l2 y2, .slice a3 l3 y3, .slice a4 l4 y4, .slice a5 l5 y5, .int .i64 c.now] 38)) wr)) (fun _ vi _ => l3 - (intOf vi).toNat)
  case atStart => exact ⟨0, _, 0, 0, [], by omega, rfl, rfl, ⟨⟨rfl, Nat.le_refl _, by omega, .inl rfl⟩, List.Pairwise.nil, fun q => ⟨fun h => by simp at h, fun ⟨j, p, h, _⟩ => by omega⟩, by simp⟩, Below.refl _ _⟩
  case round =>
    obtain ⟨k, ca, cl, cc, ys, hk, rfl, rfl, HQ, HL⟩ := hrel
    have Bk := hidK ((HL.out.block w.heap.size (by omega)).trans (heap_alloc_new w (.cells #[.slice a1 l1 y1, .slice a2 l2 y2, .slice a3 l3 y3, .slice a4 l4 y4, .slice a5 l5 y5, .int .i64 c.now] 38)))
    have HB := hidK ((below1 w (.cells #[.slice a1 l1 y1, .slice a2 l2 y2, .slice a3 l3 y3, .slice a4 l4 y4, .slice a5 l5 y5, .int .i64 c.now] 38)).trans (HL.out.mono (by omega)))
    have hLs : w.heap.size + 1 ≤ wr.heap.size := by have h8 := HL.out.size; rw [size1] at h8; exact h8
    by_cases hlt : k < l3
    · obtain ⟨b, o, x, rfl, hb, hx, hat⟩ := vd_at (HR.out.v.below HB.out) hlt
      obtain ⟨va, vl, vc, hvr, z0, z2, z3, z5, c0, c1, c2, c3, c4, c5, c6, c7⟩ := vd_cells hat
      have HXx := hidK hx
      have HTx := hidK hvr
      have HZx0 := hidK z0
      have HZx2 := hidK z2
      have HZx3 := hidK z3
      have HZx5 := hidK z5
      clear hat hx z0 z2 z3 z5 hvr
      have hbw := hb
      clear hb
      have hk1 : (k : Int) < l3 := by omega
      obtain ⟨W1, hW1⟩ : ∃ W1, W1 = wr := ⟨_, rfl⟩
      subst hW1
      have hxz : x.zs.length = vl := HTx.out.1
      have hv3 : vl ≤ 8 := by have h9 := (names_six (HT.out.2.1.2.2.1.2.1 k x HXx.out).2.2.2.2.2.2).1; omega
      have hyb := HQ.out.2.2.2
      obtain ⟨k0, k1, k2, k3, k4, k5⟩ := cs6 Bk.out
      have ltk_0 := lt_of_some Bk.out
      go_wp2
      clear k0 k1 k2 k3 k4 k5 ltk_0
      clear c0 c1 c2 c3 c4 c5 c6 c7 hbw
      go_loopw [3, 18] (fun vo vi wr => ∃ (n : Nat) (ca : Option Addr) (cl cc : Nat) (ys : List Qd), n ≤ vl ∧ vi = .int .i64 n ∧ vo = .slice ca cl cc ∧ Hid (ROwn wr ca cl cc 2 63 (ys.map qdF) (fun j => w.heap.size + 1 ≤ j) ∧ RQ ys ∧ (∀ q, q ∈ ys ↔ Xn c k q ∨ Xc c x n q) ∧ ys.length ≤ 8 * k + n) ∧ Hid (Below (W1.heap.size + 1) (W1.alloc (.cells #[.string x.n, .int .i64 x.c, .string x.z, .string x.k, .bool x.x, .string x.m, .bool x.y, .slice va vl vc] 81)) wr)) (fun _ vi _ => vl - (intOf vi).toNat)
      case atStart => exact ⟨0, _, _, _, ys, by omega, rfl, rfl, ⟨HQ.out.1.below (below1 _ _), HQ.out.2.1, fun q => by rw [HQ.out.2.2.1]; exact ⟨.inl, fun h => h.elim id (fun ⟨i, t, h, _⟩ => by omega)⟩, by omega⟩, Below.refl _ _⟩
      case round =>
        clear HQ hyb
        obtain ⟨n, ca, cl, cc, ys, hn, rfl, rfl, HQ, HL2⟩ := hrel
        have hbP : Below W1.heap.size W1 wr := (below1 W1 (.cells #[.string x.n, .int .i64 x.c, .string x.z, .string x.k, .bool x.x, .string x.m, .bool x.y, .slice va vl vc] 81)).trans (HL2.out.mono (by omega))
        have Bp := hidK ((HL2.out.block W1.heap.size (by omega)).trans (heap_alloc_new W1 (.cells #[.string x.n, .int .i64 x.c, .string x.z, .string x.k, .bool x.x, .string x.m, .bool x.y, .slice va vl vc] 81)))
        replace Bk := upK Bk hbP
        replace HB := upB HB hbP
        have HBP := hidK hbP
        have hs2 := hbP.size
        have hs3 : W1.heap.size + 1 ≤ wr.heap.size := by have h8 := HL2.out.size; rw [size1] at h8; exact h8
        have hyl : ys.length = cl := by have h9 : (ys.map qdF).length = cl := HQ.out.1.1; rw [List.length_map] at h9; exact h9
        have hyb := HQ.out.2.2.2
        clear hbP
        by_cases hlt2 : n < vl
        · have hk3 : (n : Int) < vl := by omega
          obtain ⟨b2, o2, t, rfl, hb2, hx2, hc2, hsz2⟩ := (HTx.out.below HBP.out).at hlt2
          have HXT := hidK hx2
          obtain ⟨j, nd, hj, hjn, -⟩ := HT.out.2.2.2.2.1.1 k x HXx.out n t hx2
          have HJ := hidK hj
          have HJN := hidK hjn
          have HZT := hidK hsz2
          clear hj hjn hx2 hsz2
          have HY2 : Hid (Bw wr wr) := Bw.refl _
          obtain ⟨k0, k1, k2, k3, k4, k5⟩ := cs6 Bk.out
          have ltk_0 := lt_of_some Bk.out
          obtain ⟨p0, p1, p2, p3, p4, p5, p6, p7⟩ := cs8 Bp.out
          have ltp_0 := lt_of_some Bp.out
          go_wp2_with fail
          refine (ipw_any ⟨a1, l1, y1, a2, l2, y2, (some ⟨b, o, none⟩), l3, y3, a4, l4, y4, a5, l5, y5⟩ c x (some ⟨b2, o2, none⟩) vl vc t _ (HR.out.below HB.out)).mono ?_
          rintro e w2 ⟨r, rfl, hi, hb3⟩
          clear k0 k1 k2 k3 k4 k5 ltk_0 p0 p1 p2 p3 p4 p5 p6 p7 ltp_0
          replace Bk := upK Bk hb3
          replace Bp := upK Bp hb3
          replace HY2 := hidK (HY2.out.below hb3)
          replace HB := upB HB hb3
          clear hb3
          have HI := hidK hi
          clear hi hb2 hc2
          cases r
          rotate_left
          · obtain ⟨k0, k1, k2, k3, k4, k5⟩ := cs6 Bk.out
            have ltk_1 := lt_of_some Bk.out
            obtain ⟨p0, p1, p2, p3, p4, p5, p6, p7⟩ := cs8 Bp.out
            have ltp_1 := lt_of_some Bp.out
            go_wp2
            refine ⟨⟨n + 1, ca, cl, cc, ys, by omega, by go_num, rfl, ⟨HQ.out.1.below HY2.out.out, HQ.out.2.1, fun q => ?_, by omega⟩, HL2.out.trans (HY2.out.out.mono hs3)⟩, by simp [intOf]; omega⟩
            rw [HQ.out.2.2.1, Xc.no HXT.out (fun h => h.1 (HI.out.1 (by first | trivial | rfl)))]
          have HNW : Hid (¬ Wnt c x t) := fun h => by have h9 := HI.out.2 h; cases h9
          clear HI
          obtain ⟨k0, k1, k2, k3, k4, k5⟩ := cs6 Bk.out
          have ltk_1 := lt_of_some Bk.out
          obtain ⟨p0, p1, p2, p3, p4, p5, p6, p7⟩ := cs8 Bp.out
          have ltp_1 := lt_of_some Bp.out
          go_wp2_with fail
          refine (imoff_any ⟨a1, l1, y1, a2, l2, y2, (some ⟨b, o, none⟩), l3, y3, a4, l4, y4, a5, l5, y5⟩ c x.n t j nd _ (HR.out.below HB.out) HT.out HJ.out HJN.out).mono ?_
          rintro e w3 ⟨r, rfl, hi, hb3⟩
          clear k0 k1 k2 k3 k4 k5 ltk_1 p0 p1 p2 p3 p4 p5 p6 p7 ltp_1
          replace Bk := upK Bk hb3
          replace Bp := upK Bp hb3
          replace HY2 := hidK (HY2.out.below hb3)
          replace HB := upB HB hb3
          clear hb3
          have HI := hidK hi
          clear hi
          cases r
          · obtain ⟨k0, k1, k2, k3, k4, k5⟩ := cs6 Bk.out
            have ltk_2 := lt_of_some Bk.out
            obtain ⟨p0, p1, p2, p3, p4, p5, p6, p7⟩ := cs8 Bp.out
            have ltp_2 := lt_of_some Bp.out
            go_wp2
            refine ⟨⟨n + 1, ca, cl, cc, ys, by omega, by go_num, rfl, ⟨HQ.out.1.below HY2.out.out, HQ.out.2.1, fun q => ?_, by omega⟩, HL2.out.trans (HY2.out.out.mono hs3)⟩, by simp [intOf]; omega⟩
            rw [HQ.out.2.2.1, Xc.no HXT.out (fun h => by have h9 := HI.out.2 ((Mof.iff HT.out.2.1.1.2.2 HJ.out HJN.out).1 h.2); cases h9)]
          have HMO : Hid (Mof c x t) := (Mof.iff HT.out.2.1.1.2.2 HJ.out HJN.out).2 (HI.out.1 (by first | trivial | rfl))
          clear HI
          obtain ⟨k0, k1, k2, k3, k4, k5⟩ := cs6 Bk.out
          have ltk_2 := lt_of_some Bk.out
          obtain ⟨p0, p1, p2, p3, p4, p5, p6, p7⟩ := cs8 Bp.out
          have ltp_2 := lt_of_some Bp.out
          go_wp2_with fail
          refine (iputQ_any ca cl cc ys ⟨x.n, t⟩ (w.heap.size + 1) _ (HQ.out.1.below HY2.out.out) (by have := HY2.out.le; omega) HQ.out.2.1 (by omega) HZx0.out HZT.out).mono ?_
          rintro e w4 ⟨sa, sl, sc, zs2, rfl, ho2, hp2, hb3⟩
          clear k0 k1 k2 k3 k4 k5 ltk_2 p0 p1 p2 p3 p4 p5 p6 p7 ltp_2
          replace Bk := upK Bk hb3
          replace Bp := upK Bp hb3
          replace HY2 := hidK (HY2.out.below hb3)
          replace HB := upB HB hb3
          clear hb3
          have HP2 := hidK hp2
          have HO2 := hidK ho2
          clear hp2 ho2
          obtain ⟨k0, k1, k2, k3, k4, k5⟩ := cs6 Bk.out
          have ltk_3 := lt_of_some Bk.out
          obtain ⟨p0, p1, p2, p3, p4, p5, p6, p7⟩ := cs8 Bp.out
          have ltp_3 := lt_of_some Bp.out
          go_wp2
          refine ⟨⟨n + 1, sa, sl, sc, zs2, by omega, by go_num, rfl, ⟨HO2.out, HP2.out.ris HQ.out.2.1, fun q => ?_, by have h9 := HP2.out.len; omega⟩, HL2.out.trans (HY2.out.out.mono hs3)⟩, by simp [intOf]; omega⟩
          rw [HP2.out.mem, HQ.out.2.2.1, Xc.yes HXT.out HNW.out HMO.out, or_assoc]
        have hk3 : ¬ (n : Int) < vl := by omega
        have hnv : n = vl := by omega
        obtain ⟨p0, p1, p2, p3, p4, p5, p6, p7⟩ := cs8 Bp.out
        have ltp_0 := lt_of_some Bp.out
        go_wp2
        refine ⟨⟨k + 1, ca, cl, cc, ys, by omega, by go_num, rfl, ⟨HQ.out.1, HQ.out.2.1, fun q => ?_, by omega⟩, HL.out.trans (HBP.out.mono (by omega))⟩, by simp [intOf]; omega⟩
        rw [HQ.out.2.2.1, Xn.step HXx.out, hxz, hnv]
    have hk1 : ¬ (k : Int) < l3 := by omega
    have hkl : k = l3 := by omega
    obtain ⟨k0, k1, k2, k3, k4, k5⟩ := cs6 Bk.out
    have ltk_0 := lt_of_some Bk.out
    go_wp2
    go_ret
    exact ⟨_, _, _, ys, rfl, HQ.out.1, HQ.out.2.1, by rw [hl3, ← hkl]; exact HQ.out.2.2.1, by have := HQ.out.2.2.2; omega, HB.out⟩

def BoxQ (B : Nat) : Fact := fun v w => ∃ b, v = .pointer (some ⟨b, 0, none⟩) ∧ B ≤ b ∧ w.heap[b]? = some (.cells #[.string ⟨#[]⟩, .string ⟨#[]⟩] 63 (0, 0))
theorem BoxQ.mono (B : Nat) : Fact.Mono (BoxQ B) := by
  rintro v w w' ⟨b, h1, h2, h3⟩ hb
  exact ⟨b, h1, h2, (hb.block _ (lt_of_some h3)).trans h3⟩
theorem name_neE {x : ByteArray} (h : NameOk x) : ¬ x = ⟨#[]⟩ := fun e => by
  rw [e] at h
  have h8 := h.1
  revert h8
  decide
theorem wn_wnt {c : Cl} (hT : RightI c) {k : Nat} {v : Vd} {t : ByteArray} (hj : c.vs[k]? = some v) (ht : ¬ t = ⟨#[]⟩) : Wn c c.ps.length ⟨v.n, t⟩ ↔ Wnt c v t := by
  have hv := hT.2.1.2.2.1.2.2
  constructor
  · rintro ⟨j, p, _, hp, hd, i, s, v', hs, ⟨i1, jv, x, h1, h2, h3, h4⟩, e⟩
    obtain ⟨e1, e2⟩ := Qd.mk.inj e
    obtain ⟨-, rfl⟩ := hv.inj hj h3 e1
    have hne : ¬ x.v = ⟨#[]⟩ := by rw [← h4]; exact name_neE (hT.2.1.2.2.1.2.1 _ v hj).1
    obtain ⟨i', j', x', v', k1, k2, k3, k4, k5, k6, _⟩ := (hT.2.2.1.2 i1 x h1).2.resolve_left hne
    obtain ⟨_, rfl⟩ := hv.inj k3 hj (k4.trans h4.symm)
    refine ⟨j, p, hp, e2.symm, i, ?_⟩
    rw [hs, k6, h2]
  · rintro ⟨j, p, hp, hd, i, hk⟩
    have hz := (hT.2.1.2.2.2.2.2.1 j p hp).2.2.2.1.2
    have hne : ¬ v.m = ⟨#[]⟩ := name_neE (hz i v.m hk).1
    obtain ⟨i', j', x', v', k1, k2, k3, k4, k5, k6, _⟩ := (hT.2.2.1.1 k v hj).2.resolve_left hne
    exact ⟨j, p, (List.getElem?_eq_some_iff.1 hp).1, hp, by rw [hd]; exact ht, i, v.m, v, hk, ⟨i', k, x', k1, k2, hj, k5.symm⟩, by rw [hd]⟩

set_option maxRecDepth 100000 in
set_option maxHeartbeats 12800000 in
theorem sexc_any (d : Ad) (c : Cl) (w : World) (hr : ClRow w d c.raw) (hT : RightI c) :
    Calls Tryz.prog 48 #[.agg #[.slice d.a1 d.l1 d.c1, .slice d.a2 d.l2 d.c2, .slice d.a3 d.l3 d.c3, .slice d.a4 d.l4 d.c4, .slice d.a5 d.l5 d.c5, .int .i64 c.now]] w (ExcAns c (w.heap.size + 1) w) := by
  obtain ⟨a1, l1, y1, a2, l2, y2, a3, l3, y3, a4, l4, y4, a5, l5, y5⟩ := d
  dsimp only
  have HR := hidK hr
  have hl1 : c.ns.length = l1 := by simpa using (show (c.ns.map ndF).length = l1 from hr.n.1)
  have hm1 : l1 ≤ 9223372036854775807 := Nat.le_trans hr.n.2.1 hr.n.2.2.1
  have hl2 : c.ks.length = l2 := by simpa using (show (c.ks.map kdF).length = l2 from hr.k.1)
  have hm2 : l2 ≤ 9223372036854775807 := Nat.le_trans hr.k.2.1 hr.k.2.2.1
  have hl3 : c.vs.length = l3 := by simpa using (show (c.vs.map vdF).length = l3 from hr.v.1)
  have hm3 : l3 ≤ 9223372036854775807 := Nat.le_trans hr.v.2.1 hr.v.2.2.1
  have hl4 : c.xs.length = l4 := by simpa using (show (c.xs.map xdF).length = l4 from hr.x.1)
  have hm4 : l4 ≤ 9223372036854775807 := Nat.le_trans hr.x.2.1 hr.x.2.2.1
  have hl5 : c.ps.length = l5 := by simpa using (show (c.ps.map pdF).length = l5 from hr.p.1)
  have hm5 : l5 ≤ 9223372036854775807 := Nat.le_trans hr.p.2.1 hr.p.2.2.1
  clear hr
  have HT := hidK hT
  clear hT
  have HB := hidK (Below.refl w.heap.size w)
  have h58 : c.vs.length ≤ 8 := by have := HT.out.sm.v; omega
  go_enter Tryz.func48, Tryz.ntmps48
  go_wp2_with fail
  refine (swan_any ⟨a1, l1, y1, a2, l2, y2, a3, l3, y3, a4, l4, y4, a5, l5, y5⟩ c _ (HR.out.below (HB.out.trans ((below1 _ _).mono HB.out.size))) HT.out).mono ?_
  rintro e w0 ⟨wa, wl, wc, zw, rfl, how, hrw, hmw, hlw, hb⟩
  obtain ⟨HA0, hbx⟩ := slots1 hb
  have Bk := hidK HA0
  replace HB := upB HB hbx
  clear hb hbx HA0
  have HOW := hidK how.row
  have HMW := hidK hmw
  clear how hrw hmw hlw
  obtain ⟨k0, k1, k2, k3, k4, k5⟩ := cs6 Bk.out
  have ltk_1 := lt_of_some Bk.out
  go_wp2
  clear k0 k1 k2 k3 k4 k5 ltk_1
  have hs0 : w.heap.size < w0.heap.size := lt_of_some Bk.out
  go_loopw [4, 5] (fun vo vi wr => ∃ (k : Nat) (ca : Option Addr) (cl cc : Nat) (ys : List Qd), k ≤ l3 ∧ vi = .int .i64 k ∧ vo = .slice ca cl cc ∧ Hid (ROwn wr ca cl cc 2 63 (ys.map qdF) (fun j => w.heap.size + 1 ≤ j) ∧ RQ ys ∧ (∀ q, q ∈ ys ↔ Xn c k q) ∧ ys.length ≤ 8 * k) ∧ Hid (Below w0.heap.size w0 wr)) (fun _ vi _ => l3 - (intOf vi).toNat)
  case atStart => exact ⟨0, _, 0, 0, [], by omega, rfl, rfl, ⟨⟨rfl, Nat.le_refl _, by omega, .inl rfl⟩, List.Pairwise.nil, fun q => ⟨fun h => by simp at h, fun ⟨j, p, h, _⟩ => by omega⟩, by simp⟩, below1 _ _⟩
  case round =>
    obtain ⟨k, ca, cl, cc, ys, hk, rfl, rfl, HQ, HL⟩ := hrel
    replace Bk := hidK ((HL.out.block w.heap.size hs0).trans Bk.out)
    replace HB := hidK (HB.out.trans (HL.out.mono HB.out.size))
    replace HOW := hidK (HOW.out.below HL.out)
    have hLs := HL.out.size
    by_cases hlt : k < l3
    · obtain ⟨b, o, x, rfl, hb, hx, hat⟩ := vd_at (HR.out.v.below HB.out) hlt
      obtain ⟨va, vl, vc, hvr, z0, z2, z3, z5, c0, c1, c2, c3, c4, c5, c6, c7⟩ := vd_cells hat
      have HXx := hidK hx
      have HTx := hidK hvr
      have HZx0 := hidK z0
      have HZx2 := hidK z2
      have HZx3 := hidK z3
      have HZx5 := hidK z5
      clear hat hx z0 z2 z3 z5 hvr
      have hbw := hb
      clear hb
      have hk1 : (k : Int) < l3 := by omega
      obtain ⟨W1, hW1⟩ : ∃ W1, W1 = wr := ⟨_, rfl⟩
      subst hW1
      have hxz : x.zs.length = vl := HTx.out.1
      have hv3 : vl ≤ 8 := by have h9 := (names_six (HT.out.2.1.2.2.1.2.1 k x HXx.out).2.2.2.2.2.2).1; omega
      have hyb := HQ.out.2.2.2
      obtain ⟨k0, k1, k2, k3, k4, k5⟩ := cs6 Bk.out
      have ltk_1 := lt_of_some Bk.out
      go_wp2
      clear k0 k1 k2 k3 k4 k5 ltk_1
      clear c0 c1 c2 c3 c4 c5 c6 c7 hbw
      go_loopw [4, 7] (fun vo vi wr => ∃ (n : Nat) (ca : Option Addr) (cl cc : Nat) (ys : List Qd), n ≤ vl ∧ vi = .int .i64 n ∧ vo = .slice ca cl cc ∧ Hid (ROwn wr ca cl cc 2 63 (ys.map qdF) (fun j => w.heap.size + 1 ≤ j) ∧ RQ ys ∧ (∀ q, q ∈ ys ↔ Xn c k q ∨ Xc c x n q) ∧ ys.length ≤ 8 * k + n) ∧ Hid (Below (W1.heap.size + 1) (W1.alloc (.cells #[.string x.n, .int .i64 x.c, .string x.z, .string x.k, .bool x.x, .string x.m, .bool x.y, .slice va vl vc] 81)) wr)) (fun _ vi _ => vl - (intOf vi).toNat)
      case atStart => exact ⟨0, _, _, _, ys, by omega, rfl, rfl, ⟨HQ.out.1.below (below1 _ _), HQ.out.2.1, fun q => by rw [HQ.out.2.2.1]; exact ⟨.inl, fun h => h.elim id (fun ⟨i, t, h, _⟩ => by omega)⟩, by omega⟩, Below.refl _ _⟩
      case round =>
        clear HQ hyb
        obtain ⟨n, ca, cl, cc, ys, hn, rfl, rfl, HQ, HL2⟩ := hrel
        have hbP : Below W1.heap.size W1 wr := (below1 W1 (.cells #[.string x.n, .int .i64 x.c, .string x.z, .string x.k, .bool x.x, .string x.m, .bool x.y, .slice va vl vc] 81)).trans (HL2.out.mono (by omega))
        have Bp := hidK ((HL2.out.block W1.heap.size (by omega)).trans (heap_alloc_new W1 (.cells #[.string x.n, .int .i64 x.c, .string x.z, .string x.k, .bool x.x, .string x.m, .bool x.y, .slice va vl vc] 81)))
        replace Bk := upK Bk hbP
        replace HB := upB HB hbP
        replace HOW := hidK (HOW.out.below hbP)
        have HBP := hidK hbP
        have hs2 := hbP.size
        have hs3 : W1.heap.size + 1 ≤ wr.heap.size := by have h8 := HL2.out.size; rw [size1] at h8; exact h8
        have hyl : ys.length = cl := by have h9 : (ys.map qdF).length = cl := HQ.out.1.1; rw [List.length_map] at h9; exact h9
        have hyb := HQ.out.2.2.2
        clear hbP
        by_cases hlt2 : n < vl
        · have hk3 : (n : Int) < vl := by omega
          obtain ⟨b2, o2, t, rfl, hb2, hx2, hc2, hsz2⟩ := (HTx.out.below HBP.out).at hlt2
          have HXT := hidK hx2
          obtain ⟨j, nd, hj, hjn, -⟩ := HT.out.2.2.2.2.1.1 k x HXx.out n t hx2
          have HTN : Hid (¬ t = ⟨#[]⟩) := by rw [← hjn]; exact name_neE (HT.out.2.1.1.2.1 j nd hj).1
          have HJ := hidK hj
          have HJN := hidK hjn
          have HZT := hidK hsz2
          have HTC := hidK (And.intro hb2 hc2)
          clear hj hjn hx2 hsz2 hb2 hc2
          obtain ⟨k0, k1, k2, k3, k4, k5⟩ := cs6 Bk.out
          have ltk_1 := lt_of_some Bk.out
          obtain ⟨p0, p1, p2, p3, p4, p5, p6, p7⟩ := cs8 Bp.out
          have ltp_1 := lt_of_some Bp.out
          go_wp2_with fail
          clear k0 k1 k2 k3 k4 k5 ltk_1 p0 p1 p2 p3 p4 p5 p6 p7 ltp_1
          rename_i K0 hK0
          refine wp_region_grow_last (by kernel_rfl) rfl rfl (by kernel_rfl) ?_
          refine' Grow.stepC _ rfl ?_ ?_
          rotate_left 1
          · refine Obl.plain rfl ?_
            intro ac wg K hsz hW hf hK; clear hsz
            have e6 := hf 6 (by decide)
            simp [slotFact, List.lookup] at e6
            clear hf
            go_simp
            refine hK _ _ (Below.refl _ _) ?_
            with_reducible rfl
          refine' Grow.stepC _ rfl ?_ ?_
          rotate_left 1
          · refine Obl.plain rfl ?_
            intro ac wg K hsz hW hf hK; clear hsz
            have e31 := hf 31 (by decide)
            simp [slotFact, List.lookup] at e31
            clear hf
            obtain ⟨p0, p1, p2, p3, p4, p5, p6, p7⟩ := cs8 ((hW.block _ (lt_of_some Bp.out)).trans Bp.out)
            go_simp
            refine hK _ _ (Below.refl _ _) ?_
            with_reducible rfl
          refine' Grow.stepC _ rfl ?_ ?_
          rotate_left 1
          · refine Obl.plain rfl ?_
            intro ac wg K hsz hW hf hK; clear hsz
            have e6 := hf 6 (by decide)
            simp [slotFact, List.lookup] at e6
            clear hf
            go_simp
            refine hK _ _ (Below.refl _ _) ?_
            with_reducible rfl
          refine' Grow.stepC _ rfl ?_ ?_
          rotate_left 1
          · refine Obl.plain rfl ?_
            intro ac wg K hsz hW hf hK; clear hsz
            have e33 := hf 33 (by decide)
            simp [slotFact, List.lookup] at e33
            clear hf
            obtain ⟨p0, p1, p2, p3, p4, p5, p6, p7⟩ := cs8 ((hW.block _ (lt_of_some Bp.out)).trans Bp.out)
            go_simp
            refine hK _ _ (Below.refl _ _) ?_
            with_reducible rfl
          refine' Grow.stepC _ rfl ?_ ?_
          rotate_left 1
          · refine Obl.plain rfl ?_
            intro ac wg K hsz hW hf hK; clear hsz
            have e7 := hf 7 (by decide)
            simp [slotFact, List.lookup] at e7
            clear hf
            go_simp
            refine hK _ _ (Below.refl _ _) ?_
            with_reducible rfl
          refine' Grow.stepC _ rfl ?_ ?_
          rotate_left 1
          · refine Obl.plain rfl ?_
            intro ac wg K hsz hW hf hK; clear hsz
            have e34 := hf 34 (by decide)
            simp [slotFact, List.lookup] at e34
            have e35 := hf 35 (by decide)
            simp [slotFact, List.lookup] at e35
            clear hf
            have hj0 : ¬ (n : Int) < 0 := by omega
            go_simp
            refine hK _ _ (Below.refl _ _) ?_
            with_reducible rfl
          refine' Grow.stepC _ rfl ?_ ?_
          rotate_left 1
          · refine Obl.plain rfl ?_
            intro ac wg K hsz hW hf hK; clear hsz
            have e36 := hf 36 (by decide)
            simp [slotFact, List.lookup] at e36
            clear hf
            have tc := (cell_below hW HTC.out.1).trans HTC.out.2
            go_simp
            refine hK _ _ (Below.refl _ _) ?_
            with_reducible rfl
          refine' Grow.stepC _ rfl ?_ ?_
          rotate_left 1
          · refine Obl.plain rfl ?_
            intro ac wg K hsz hW hf hK; clear hsz
            have e32 := hf 32 (by decide)
            simp [slotFact, List.lookup] at e32
            have e37 := hf 37 (by decide)
            simp [slotFact, List.lookup] at e37
            clear hf
            go_simp
            refine hK _ _ (Below.refl _ _) ?_
            with_reducible rfl
          refine Grow.step (BoxQ wr.heap.size) rfl (BoxQ.mono _) ?_ ?_
          · refine Obl.plain rfl ?_
            intro ac wg K hsz hW hf hK; clear hsz
            clear hf
            go_simp
            exact hK _ _ (below1 _ _) ⟨_, rfl, hW.size, Array.getElem?_push_size⟩
          refine Grow.done ?_
          intro q w5 hW hf
          simp only [List.forall_mem_cons] at hf
          obtain ⟨⟨b9, h8, hb9, hg9⟩, h38, -⟩ := hf
          have g0 := hg9
          have g1 : (w5.setCell ⟨b9, 0, none⟩ (.string x.n)).heap[b9]? = some (.cells #[.string x.n, .string ⟨#[]⟩] 63 (0, 0)) := block_set g0 _
          have g2 : ((w5.setCell ⟨b9, 0, none⟩ (.string x.n)).setCell ⟨b9, 1, none⟩ (.string t)).heap[b9]? = some (.cells #[.string x.n, .string t] 63 (0, 0)) := block_set g1 _
          obtain ⟨t0, t1⟩ := cs2 hg9
          have f0 := froK hg9 0
          have f1 := froK hg9 1
          have Bx := hidK g2
          have HWX : Hid (Below wr.heap.size wr ((w5.setCell ⟨b9, 0, none⟩ (.string x.n)).setCell ⟨b9, 1, none⟩ (.string t))) := set_below hb9 (set_below hb9 (hW))
          clear g0 g1 g2 hg9
          intro K hK
          rw [if_pos (by rfl)]
          simp only [putsAll, List.foldr, Act.put, List.setIfInBounds_toArray, List.set_cons_zero, List.set_cons_succ, h8, h38]
          simp only [List.getLast]
          go_simp
          refine hK _ _ ?_
          refine hK0 _ _ ?_
          clear hK hK0 K K0
          generalize ((w5.setCell ⟨b9, 0, none⟩ (.string x.n)).setCell ⟨b9, 1, none⟩ (.string t)) = X3 at Bx HWX ⊢
          clear t0 t1 f0 f1 hW h8 h38
          have HY2 : Hid (Bw wr X3) := Bw.below (Bw.refl wr) HWX.out
          replace HB := hidK (HB.out.trans (HWX.out.mono HB.out.size))
          replace HOW := hidK (HOW.out.below HWX.out)
          replace Bk := hidK ((HWX.out.block _ (lt_of_some Bk.out)).trans Bk.out)
          replace Bp := hidK ((HWX.out.block _ (lt_of_some Bp.out)).trans Bp.out)
          clear HWX
          obtain ⟨k0, k1, k2, k3, k4, k5⟩ := cs6 Bk.out
          have ltk_1 := lt_of_some Bk.out
          obtain ⟨p0, p1, p2, p3, p4, p5, p6, p7⟩ := cs8 Bp.out
          have ltp_1 := lt_of_some Bp.out
          obtain ⟨x0, x1⟩ := cs2 Bx.out
          have ltx_1 := lt_of_some Bx.out
          go_wp2_with fail
          refine (shasQ_any wa wl wc zw ⟨x.n, t⟩ _ HOW.out).mono ?_
          rintro e w2 ⟨r, rfl, hi, hb3⟩
          clear k0 k1 k2 k3 k4 k5 ltk_1 p0 p1 p2 p3 p4 p5 p6 p7 ltp_1 x0 x1 ltx_1
          replace Bk := upK Bk hb3
          replace Bp := upK Bp hb3
          replace Bx := upK Bx hb3
          replace HY2 := hidK (HY2.out.below hb3)
          replace HOW := hidK (HOW.out.below hb3)
          replace HB := upB HB hb3
          clear hb3
          have HI := hidK hi
          clear hi
          cases r
          rotate_left
          · obtain ⟨k0, k1, k2, k3, k4, k5⟩ := cs6 Bk.out
            have ltk_2 := lt_of_some Bk.out
            obtain ⟨p0, p1, p2, p3, p4, p5, p6, p7⟩ := cs8 Bp.out
            have ltp_2 := lt_of_some Bp.out
            obtain ⟨x0, x1⟩ := cs2 Bx.out
            have ltx_2 := lt_of_some Bx.out
            go_wp2
            refine ⟨⟨n + 1, ca, cl, cc, ys, by omega, by go_num, rfl, ⟨HQ.out.1.below HY2.out.out, HQ.out.2.1, fun q => ?_, by omega⟩, HL2.out.trans (HY2.out.out.mono hs3)⟩, by simp [intOf]; omega⟩
            rw [HQ.out.2.2.1, Xc.no HXT.out (fun h => h.1 ((wn_wnt HT.out HXx.out HTN.out).1 ((HMW.out _).1 (HI.out.1 (by first | trivial | rfl)))))]
          have HNW : Hid (¬ Wnt c x t) := fun h => by have h9 := HI.out.2 ((HMW.out _).2 ((wn_wnt HT.out HXx.out HTN.out).2 h)); cases h9
          clear HI
          obtain ⟨k0, k1, k2, k3, k4, k5⟩ := cs6 Bk.out
          have ltk_2 := lt_of_some Bk.out
          obtain ⟨p0, p1, p2, p3, p4, p5, p6, p7⟩ := cs8 Bp.out
          have ltp_2 := lt_of_some Bp.out
          obtain ⟨x0, x1⟩ := cs2 Bx.out
          have ltx_2 := lt_of_some Bx.out
          go_wp2_with fail
          refine (soff_any ⟨a1, l1, y1, a2, l2, y2, (some ⟨b, o, none⟩), l3, y3, a4, l4, y4, a5, l5, y5⟩ c ⟨x.n, t⟩ j nd _ (HR.out.below HB.out) HT.out HJ.out HJN.out).mono ?_
          rintro e w3 ⟨r, rfl, hi, hb3⟩
          clear k0 k1 k2 k3 k4 k5 ltk_2 p0 p1 p2 p3 p4 p5 p6 p7 ltp_2 x0 x1 ltx_2
          replace Bk := upK Bk hb3
          replace Bp := upK Bp hb3
          replace Bx := upK Bx hb3
          replace HY2 := hidK (HY2.out.below hb3)
          replace HOW := hidK (HOW.out.below hb3)
          replace HB := upB HB hb3
          clear hb3
          have HI := hidK hi
          clear hi
          cases r
          · obtain ⟨k0, k1, k2, k3, k4, k5⟩ := cs6 Bk.out
            have ltk_3 := lt_of_some Bk.out
            obtain ⟨p0, p1, p2, p3, p4, p5, p6, p7⟩ := cs8 Bp.out
            have ltp_3 := lt_of_some Bp.out
            obtain ⟨x0, x1⟩ := cs2 Bx.out
            have ltx_3 := lt_of_some Bx.out
            go_wp2
            refine ⟨⟨n + 1, ca, cl, cc, ys, by omega, by go_num, rfl, ⟨HQ.out.1.below HY2.out.out, HQ.out.2.1, fun q => ?_, by omega⟩, HL2.out.trans (HY2.out.out.mono hs3)⟩, by simp [intOf]; omega⟩
            rw [HQ.out.2.2.1, Xc.no HXT.out (fun h => by have h9 := HI.out.2 ((Mof.iff HT.out.2.1.1.2.2 HJ.out HJN.out).1 h.2); cases h9)]
          have HMO : Hid (Mof c x t) := (Mof.iff HT.out.2.1.1.2.2 HJ.out HJN.out).2 (HI.out.1 (by first | trivial | rfl))
          clear HI
          obtain ⟨k0, k1, k2, k3, k4, k5⟩ := cs6 Bk.out
          have ltk_3 := lt_of_some Bk.out
          obtain ⟨p0, p1, p2, p3, p4, p5, p6, p7⟩ := cs8 Bp.out
          have ltp_3 := lt_of_some Bp.out
          obtain ⟨x0, x1⟩ := cs2 Bx.out
          have ltx_3 := lt_of_some Bx.out
          go_wp2_with fail
          refine (sputQ_any ca cl cc ys ⟨x.n, t⟩ (w.heap.size + 1) _ (HQ.out.1.below HY2.out.out) (by have := HY2.out.le; omega) (by omega) HZx0.out HZT.out).mono ?_
          rintro e w4 ⟨sa, sl, sc, zs2, rfl, ho2, hp2, hb3⟩
          clear k0 k1 k2 k3 k4 k5 ltk_3 p0 p1 p2 p3 p4 p5 p6 p7 ltp_3 x0 x1 ltx_3
          replace Bk := upK Bk hb3
          replace Bp := upK Bp hb3
          replace Bx := upK Bx hb3
          replace HY2 := hidK (HY2.out.below hb3)
          replace HOW := hidK (HOW.out.below hb3)
          replace HB := upB HB hb3
          clear hb3
          have HP2 := hidK hp2
          have HO2 := hidK ho2
          clear hp2 ho2
          obtain ⟨k0, k1, k2, k3, k4, k5⟩ := cs6 Bk.out
          have ltk_4 := lt_of_some Bk.out
          obtain ⟨p0, p1, p2, p3, p4, p5, p6, p7⟩ := cs8 Bp.out
          have ltp_4 := lt_of_some Bp.out
          obtain ⟨x0, x1⟩ := cs2 Bx.out
          have ltx_4 := lt_of_some Bx.out
          go_wp2
          refine ⟨⟨n + 1, sa, sl, sc, zs2, by omega, by go_num, rfl, ⟨HO2.out, HP2.out.ris HQ.out.2.1, fun q => ?_, by have h9 := HP2.out.len; omega⟩, HL2.out.trans (HY2.out.out.mono hs3)⟩, by simp [intOf]; omega⟩
          rw [HP2.out.mem, HQ.out.2.2.1, Xc.yes HXT.out HNW.out HMO.out, or_assoc]
        have hk3 : ¬ (n : Int) < vl := by omega
        have hnv : n = vl := by omega
        obtain ⟨p0, p1, p2, p3, p4, p5, p6, p7⟩ := cs8 Bp.out
        have ltp_1 := lt_of_some Bp.out
        go_wp2
        refine ⟨⟨k + 1, ca, cl, cc, ys, by omega, by go_num, rfl, ⟨HQ.out.1, HQ.out.2.1, fun q => ?_, by omega⟩, HL.out.trans (HBP.out.mono (by omega))⟩, by simp [intOf]; omega⟩
        rw [HQ.out.2.2.1, Xn.step HXx.out, hxz, hnv]
    have hk1 : ¬ (k : Int) < l3 := by omega
    have hkl : k = l3 := by omega
    obtain ⟨k0, k1, k2, k3, k4, k5⟩ := cs6 Bk.out
    have ltk_1 := lt_of_some Bk.out
    go_wp2
    go_ret
    exact ⟨_, _, _, ys, rfl, HQ.out.1, HQ.out.2.1, by rw [hl3, ← hkl]; exact HQ.out.2.2.1, by have := HQ.out.2.2.2; omega, HB.out⟩

def ExcIs (c : Cl) (zs : List Qd) : Prop := (RightI c ∧ RQ zs ∧ (∀ q, q ∈ zs ↔ Xn c c.vs.length q) ∧ zs.length ≤ 64) ∨ (¬ RightI c ∧ zs = [])
theorem ExcIs.same {c : Cl} {zs zs' : List Qd} (h : ExcIs c zs) (h' : ExcIs c zs') : zs = zs' := by
  rcases h with ⟨a, a1, a2, _⟩ | ⟨a, rfl⟩ <;> rcases h' with ⟨b, b1, b2, _⟩ | ⟨b, rfl⟩
  · exact a1.ext b1 (fun s => by rw [a2, b2])
  · exact absurd a b
  · exact absurd b a
  · rfl
theorem ExcIs.few {c : Cl} {zs : List Qd} (h : ExcIs c zs) : zs.length ≤ 64 := by
  rcases h with ⟨_, _, _, h⟩ | ⟨_, rfl⟩
  · exact h
  · simp
theorem ExcIs.marks {c : Cl} {zs : List Qd} (h : ExcIs c zs) : mkNs 1 (zs.map qdF) ≤ 1152921504606846976 := by
  have h1 := flat_fit (F := qdF) (m := 2) (xs := zs) (fun _ => Nat.le_refl _) (fun j x hx i ws hi => by rcases i with _ | _ | i <;> simp [qdF] at hi) (by have := h.few; omega) (by decide) 1
  omega
def ExcI (c : Cl) (w : World) (e : Ending) (w' : World) : Prop := ∃ a l p zs, e = .returned (.slice a l p) ∧ ExcIs c zs ∧ ROwn w' a l p 2 63 (zs.map qdF) (fun k => w.heap.size ≤ k) ∧ Below w.heap.size w w'

set_option maxRecDepth 100000 in
set_option maxHeartbeats 3200000 in
theorem sexcs_any (d : Ad) (c : Cl) (w : World) (hr : ClRow w d c.raw) :
    Calls Tryz.prog 15 #[.agg #[.slice d.a1 d.l1 d.c1, .slice d.a2 d.l2 d.c2, .slice d.a3 d.l3 d.c3, .slice d.a4 d.l4 d.c4, .slice d.a5 d.l5 d.c5, .int .i64 c.now]] w (ExcI c w) := by
  have HR := hidK hr
  have HB := hidK (Below.refl w.heap.size w)
  clear hr
  go_enter Tryz.func15, Tryz.ntmps15
  go_wp2_with fail
  refine (sright_any d c _ (HR.out.below (HB.out.trans ((below1 _ _).mono HB.out.size)))).mono ?_
  rintro e w1 ⟨r, rfl, hi, hb⟩
  obtain ⟨HA0, hbx⟩ := slots1 hb
  have Bk := hidK HA0
  replace HB := upB HB hbx
  clear hb hbx HA0
  have HI := hidK hi
  clear hi
  cases r
  · have HV : Hid (ExcIs c []) := .inr ⟨fun h => (by have h9 := HI.out.2 h; cases h9), rfl⟩
    obtain ⟨k0, k1, k2, k3, k4, k5⟩ := cs6 Bk.out
    have ltk_1 := lt_of_some Bk.out
    go_wp2
    go_ret
    exact ⟨_, _, _, [], rfl, HV.out, ⟨rfl, Nat.le_refl _, by decide, .inl rfl⟩, by first | exact HB.out | exact HB.out.alloc HB.out.size _⟩
  have HT := hidK (HI.out.1 (by first | trivial | rfl))
  clear HI
  obtain ⟨k0, k1, k2, k3, k4, k5⟩ := cs6 Bk.out
  have ltk_1 := lt_of_some Bk.out
  go_wp2_with fail
  refine (sexc_any d c _ (HR.out.below HB.out) HT.out).mono ?_
  rintro e w2 ⟨a, l, p, zs, rfl, ho, hri, hm, hl, hb⟩
  have HO := hidK (ho.into (S' := fun k => w.heap.size ≤ k) (fun k _ s => by have s1 : w1.heap.size + 1 ≤ k := s; have := HB.out.size; show w.heap.size ≤ k; omega))
  have HV : Hid (ExcIs c zs) := .inl ⟨HT.out, hri, hm, hl⟩
  clear ho hri hm hl
  clear k0 k1 k2 k3 k4 k5 ltk_1
  replace Bk := upK Bk hb
  replace HB := upB HB hb
  clear hb
  obtain ⟨k0, k1, k2, k3, k4, k5⟩ := cs6 Bk.out
  have ltk_2 := lt_of_some Bk.out
  go_wp2
  go_ret
  exact ⟨_, _, _, zs, rfl, HV.out, HO.out, HB.out⟩

set_option maxRecDepth 100000 in
set_option maxHeartbeats 3200000 in
theorem iexcs_any (d : Ad) (c : Cl) (w : World) (hr : ClRow w d c.raw) (hG : ens w) :
    Calls Tryz.prog 16 #[.agg #[.slice d.a1 d.l1 d.c1, .slice d.a2 d.l2 d.c2, .slice d.a3 d.l3 d.c3, .slice d.a4 d.l4 d.c4, .slice d.a5 d.l5 d.c5, .int .i64 c.now]] w (ExcI c w) := by
  have HR := hidK hr
  have HE := hidK hG
  have HB := hidK (Below.refl w.heap.size w)
  clear hr hG
  go_enter Tryz.func16, Tryz.ntmps16
  go_wp2_with fail
  refine (iright_any d c _ (HR.out.below (HB.out.trans ((below1 _ _).mono HB.out.size))) (HE.out.below (HB.out.trans ((below1 _ _).mono HB.out.size)))).mono ?_
  rintro e w1 ⟨r, rfl, hi, hb⟩
  obtain ⟨HA0, hbx⟩ := slots1 hb
  have Bk := hidK HA0
  replace HB := upB HB hbx
  clear hb hbx HA0
  have HI := hidK hi
  clear hi
  cases r
  · have HV : Hid (ExcIs c []) := .inr ⟨fun h => (by have h9 := HI.out.2 h; cases h9), rfl⟩
    obtain ⟨k0, k1, k2, k3, k4, k5⟩ := cs6 Bk.out
    have ltk_1 := lt_of_some Bk.out
    go_wp2
    go_ret
    exact ⟨_, _, _, [], rfl, HV.out, ⟨rfl, Nat.le_refl _, by decide, .inl rfl⟩, by first | exact HB.out | exact HB.out.alloc HB.out.size _⟩
  have HT := hidK (HI.out.1 (by first | trivial | rfl))
  clear HI
  obtain ⟨k0, k1, k2, k3, k4, k5⟩ := cs6 Bk.out
  have ltk_1 := lt_of_some Bk.out
  go_wp2_with fail
  refine (iexc_any d c _ (HR.out.below HB.out) HT.out).mono ?_
  rintro e w2 ⟨a, l, p, zs, rfl, ho, hri, hm, hl, hb⟩
  have HO := hidK (ho.into (S' := fun k => w.heap.size ≤ k) (fun k _ s => by have s1 : w1.heap.size + 1 ≤ k := s; have := HB.out.size; show w.heap.size ≤ k; omega))
  have HV : Hid (ExcIs c zs) := .inl ⟨HT.out, hri, hm, hl⟩
  clear ho hri hm hl
  clear k0 k1 k2 k3 k4 k5 ltk_1
  replace Bk := upK Bk hb
  replace HB := upB HB hb
  clear hb
  obtain ⟨k0, k1, k2, k3, k4, k5⟩ := cs6 Bk.out
  have ltk_2 := lt_of_some Bk.out
  go_wp2
  go_ret
  exact ⟨_, _, _, zs, rfl, HV.out, HO.out, HB.out⟩

end Rc
end Go.Proofs.YtkljbgdikmpjfaaGreatDoor

namespace Go.Proofs.YtkljbgdikmpjfaaGreatDoor
open Go.RowKit Rc Mk

def ExcessClV (c : Cl) : Fact := fun v w => ∃ d : Ad, v = .agg #[.slice d.a1 d.l1 d.c1, .slice d.a2 d.l2 d.c2, .slice d.a3 d.l3 d.c3, .slice d.a4 d.l4 d.c4, .slice d.a5 d.l5 d.c5, .int .i64 c.now] ∧ ClRow w d c.raw
theorem ExcessClV.mono (c : Cl) : Fact.Mono (ExcessClV c) := by
  rintro v w w' ⟨d, h1, h2⟩ hb
  exact ⟨d, h1, h2.below hb⟩

set_option linter.unusedVariables false in
set_option maxRecDepth 100000 in
set_option maxHeartbeats 6400000 in
theorem excess_walk (d : Ad) (c : Cl)  (w : World) (hr : ClRow w d c.raw)  (hG : ens w) :
    Calls Tryz.prog 4 #[.agg #[.slice d.a1 d.l1 d.c1, .slice d.a2 d.l2 d.c2, .slice d.a3 d.l3 d.c3, .slice d.a4 d.l4 d.c4, .slice d.a5 d.l5 d.c5, .int .i64 c.now]] w fun e w' => e = .returned (.bool true) ∧ Below w.heap.size w w' := by
  have HR := hidK hr
  have HE := hidK hG
  have HB := hidK (Below.refl w.heap.size w)
  clear hr hG
  go_enter Tryz.func4, Tryz.ntmps4
  go_wp2_with fail
  refine (szCluster_any d c _ (HR.out.below (HB.out.trans ((below1 _ _).mono HB.out.size)))).mono ?_
  rintro e w1 ⟨r, rfl, hi, hb⟩
  obtain ⟨HA0, hbx⟩ := slots1 hb
  have Bk := hidK HA0
  replace HB := upB HB hbx
  clear hb hbx HA0
  rcases hi with rfl | ⟨hr0, -, hft⟩
  · obtain ⟨k0, k1, k2, k3, k4, k5⟩ := cs6 Bk.out
    have ltk_1 := lt_of_some Bk.out
    go_wp2
    go_ret
    exact ⟨rfl, HB.out⟩
  have HF := hidK hft
  clear hft
  obtain ⟨k0, k1, k2, k3, k4, k5⟩ := cs6 Bk.out
  have ltk_1 := lt_of_some Bk.out
  go_wp2_with fail
  refine (toCluster_any d c _ (HR.out.below HB.out) HF.out).mono ?_
  rintro e w2 ⟨d1, rfl, ho, hb⟩
  clear k0 k1 k2 k3 k4 k5 ltk_1
  replace Bk := upK Bk hb
  replace HB := upB HB hb
  clear hb
  have HO := hidK ho.row
  clear ho
  go_wp2_with fail
  refine (sexcs_any d1 c _ HO.out).mono ?_
  rintro e w3 ⟨va0, vl0, vc0, zs, rfl, hI, ho, hb⟩
  have R0 := hidK ho.row
  have HIS := hidK hI
  clear ho hI HO
  replace Bk := upK Bk hb
  replace HB := upB HB hb
  clear hb
  have HY := hidK (Bw.refl w3)
  have HQ3 := hidK (show w.heap.size < w3.heap.size from lt_of_some Bk.out)
  obtain ⟨k0, k1, k2, k3, k4, k5⟩ := cs6 Bk.out
  have ltk_3 := lt_of_some Bk.out
  go_wp2_with fail
  refine (toCluster_any d c _ (HR.out.below HB.out) HF.out).mono ?_
  rintro e w4 ⟨d2, rfl, ho, hb⟩
  clear k0 k1 k2 k3 k4 k5 ltk_3
  replace Bk := upK Bk hb
  replace HY := hidK (HY.out.below hb)
  replace HB := upB HB hb
  clear hb
  have HQ4 : Hid (w3.heap.size ≤ w4.heap.size) := by have := HY.out.le; show w3.heap.size ≤ _; omega
  have HO2 := hidK (ho.into (S' := fun k => w3.heap.size ≤ k ∧ k < w4.heap.size) (fun k hk s => ⟨s, hk⟩))
  clear ho
  obtain ⟨k0, k1, k2, k3, k4, k5⟩ := cs6 Bk.out
  have ltk_4 := lt_of_some Bk.out
  go_wp2_with fail
  have HOX := hidK (HO2.out.below (below1 w4 (.cells #[.slice d2.a1 d2.l1 d2.c1, .slice d2.a2 d2.l2 d2.c2, .slice d2.a3 d2.l3 d2.c3, .slice d2.a4 d2.l4 d2.c4, .slice d2.a5 d2.l5 d2.c5, .int .i64 c.now] 38)))
  refine (iexcs_any d2 c _ HOX.out.row (HE.out.below (HB.out.trans ((below1 _ _).mono HB.out.size)))).mono ?_
  rintro e w5 ⟨va1, vl1, vc1, z1, rfl, hI, ho, hb⟩
  clear HOX
  obtain rfl := HIS.out.same hI
  clear hI
  clear k0 k1 k2 k3 k4 k5 ltk_4
  obtain ⟨HA0, hbx⟩ := slots1 hb
  replace Bk := upK Bk hbx
  have Bx := hidK HA0
  replace HY := hidK (HY.out.below hbx)
  replace HO2 := hidK (HO2.out.below hbx)
  replace HB := upB HB hbx
  clear hb hbx HA0
  have HQ5 : Hid (w4.heap.size < w5.heap.size) := lt_of_some Bx.out
  have HO1 := hidK (ho.into (S' := fun k => w4.heap.size + 1 ≤ k ∧ k < w5.heap.size) (fun k hk s => ⟨(show w4.heap.size + 1 ≤ k by simpa using s), hk⟩))
  clear ho
  have hlz : mkNs 1 (zs.map qdF) ≤ 1152921504606846976 := HIS.out.marks
  have hlq : vl1 ≤ 9223372036854775807 := by have q0 := HIS.out.few; have q1 : (zs.map qdF).length = vl1 := HO1.out.1; rw [List.length_map] at q1; omega
  have HH := hidK (fun (W : World) (hr : RRow W va1 vl1 vc1 2 (mkRs 1 (zs.map qdF))) => heldqd_any va1 vl1 vc1 zs 1 W hr (by decide) hlz hlq)
  obtain ⟨M, hM⟩ : ∃ M : Int, M = mkNs 1 (zs.map qdF) := ⟨_, rfl⟩
  have hM0 : (0 : Int) < M := by rw [hM]; have := mkNs_ge (zs.map qdF) 1; omega
  rw [← hM] at HH
  have HMM := hidK hM
  clear hM
  obtain ⟨k0, k1, k2, k3, k4, k5⟩ := cs6 Bk.out
  have ltk_5 := lt_of_some Bk.out
  obtain ⟨x0, x1, x2, x3, x4, x5⟩ := cs6 Bx.out
  have ltx_5 := lt_of_some Bx.out
  go_wp2_with fail
  refine (eqqd_any va1 va0 vl1 vl0 vc1 vc0 zs _ (HO1.out.row) (R0.out.below (HY.out).out)).mono ?_
  rintro e w6 ⟨rfl, hb⟩
  clear k0 k1 k2 k3 k4 k5 ltk_5 x0 x1 x2 x3 x4 x5 ltx_5
  replace Bk := upK Bk hb
  replace Bx := upK Bx hb
  replace HY := hidK (HY.out.below hb)
  replace HO2 := hidK (HO2.out.below hb)
  replace HO1 := hidK (HO1.out.below hb)
  replace HB := upB HB hb
  clear hb
  obtain ⟨W, hW0⟩ : ∃ W, W = w6 := ⟨_, rfl⟩
  rw [← hW0] at HB HY HO2 HO1 Bk Bx
  go_wp2_with fail
  rw [← hW0]
  clear hW0
  rename_i K0 hK0
  refine wp_region_grow (back := none) (by kernel_rfl) (List.append_nil _).symm (by kernel_rfl) ?_
  refine' Grow.stepC _ rfl ?_ ?_
  rotate_left 1
  · refine Obl.plain rfl ?_
    intro ac wg K hsz hW hf hK; clear hsz
    have e5 := hf 5 (by decide)
    simp [slotFact, List.lookup] at e5
    clear hf
    obtain ⟨k0, k1, k2, k3, k4, k5⟩ := cs6 ((hW.block _ (lt_of_some Bx.out)).trans Bx.out)
    go_simp
    refine hK _ _ (Below.refl _ _) ?_
    with_reducible rfl
  refine' Grow.stepC _ rfl ?_ ?_
  rotate_left 1
  · refine Obl.plain rfl ?_
    intro ac wg K hsz hW hf hK; clear hsz
    have e1 := hf 1 (by decide)
    simp [slotFact, List.lookup] at e1
    clear hf
    obtain ⟨k0, k1, k2, k3, k4, k5⟩ := cs6 ((hW.block _ (lt_of_some Bk.out)).trans Bk.out)
    go_simp
    refine hK _ _ (Below.refl _ _) ?_
    with_reducible rfl
  refine Grow.step (ExcessClV c) rfl (ExcessClV.mono c) ?_ ?_
  · refine Obl.plain rfl ?_
    intro ac wg K hsz hW hf hK; clear hsz
    have e28 := hf 28 (by decide)
    simp [slotFact, List.lookup] at e28
    clear hf
    go_simp
    refine (toCluster_any d c _ (HR.out.below (HB.out.trans (hW.mono HB.out.size))) HF.out).mono ?_
    rintro e w6 ⟨d3, rfl, ho, hb6⟩
    exact hK _ _ hb6 ⟨d3, rfl, ho.row⟩
  refine' Grow.stepC (.bool true) rfl ?_ ?_
  · refine Obl.plain rfl ?_
    intro ac wg K hsz hW hf hK; clear hsz
    have e27 := hf 27 (by decide)
    simp [slotFact, List.lookup] at e27
    have e29 := hf 29 (by decide)
    simp [slotFact, List.lookup] at e29
    obtain ⟨d3, e29, hrow⟩ := e29
    clear hf
    go_simp
    refine (eqCluster_any d2 d3 c _ (HO2.out.row.below hW) hrow).mono ?_
    rintro e w6 ⟨rfl, hb6⟩
    exact hK _ _ hb6 rfl
  refine' Grow.stepC _ rfl ?_ ?_
  rotate_left 1
  · refine Obl.plain rfl ?_
    intro ac wg K hsz hW hf hK; clear hsz
    have e30 := hf 30 (by decide)
    simp [slotFact, List.lookup] at e30
    clear hf
    go_simp
    refine hK _ _ (Below.refl _ _) ?_
    with_reducible rfl
  refine Grow.done ?_
  intro q wz hW hf
  simp only [List.forall_mem_cons] at hf
  obtain ⟨h31, -⟩ := hf
  have hb := hW
  refine hK0 _ _ ?_
  simp only [putsAll, List.foldr, Act.put, List.setIfInBounds_toArray, List.set_cons_zero, List.set_cons_succ, h31]
  clear hK0
  replace Bk := upK Bk hb
  replace Bx := upK Bx hb
  replace HY := hidK (HY.out.below hb)
  replace HO2 := hidK (HO2.out.below hb)
  replace HO1 := hidK (HO1.out.below hb)
  replace HB := upB HB hb
  clear hb
  clear hW
  obtain ⟨rk, hrk⟩ : ∃ r : Int, r = mkCn 1 c.raw := ⟨_, rfl⟩
  have hrk0 : decide (rk < 0) = false := by rw [decide_eq_false_iff_not, hrk]; have := mkCn_ge 1 c.raw; omega
  obtain ⟨k0, k1, k2, k3, k4, k5⟩ := cs6 Bk.out
  have ltk_7 := lt_of_some Bk.out
  obtain ⟨x0, x1, x2, x3, x4, x5⟩ := cs6 Bx.out
  have ltx_7 := lt_of_some Bx.out
  go_wp2_with fail
  refine (markCluster_any d2 c 1 _ wz HO2.out (fun k s => by have s2 := s.2; have q9 := HY.out.le; have q8 := lt_of_some Bx.out; have q3 := HQ3.out; have q4 := HQ4.out; have q5 := HQ5.out; omega) (by decide) HF.out.marks).mono ?_
  rintro e w8 ⟨rfl, ho, hk⟩
  clear k0 k1 k2 k3 k4 k5 ltk_7 x0 x1 x2 x3 x4 x5 ltx_7
  have Ck := hidK ((hk.block (w.heap.size) (lt_of_some Bk.out) (fun s => by have s1 := s.1; have s2 := s.2; have q3 := HQ3.out; have q4 := HQ4.out; have q5 := HQ5.out; omega)).trans Bk.out)
  have Cx := hidK ((hk.block (w4.heap.size) (lt_of_some Bx.out) (fun s => by have s1 := s.1; have s2 := s.2; have q3 := HQ3.out; have q4 := HQ4.out; have q5 := HQ5.out; omega)).trans Bx.out)
  have HB8 := hidK (HB.out.trans (hk.low (X := w.heap.size) HB.out.size (fun k s => by have s1 := s.1; have q3 := HQ3.out; have q4 := HQ4.out; have q5 := HQ5.out; omega)))
  have CHY := hidK (HY.out.kept hk (fun k s => by have s1 := s.1; have q3 := HQ3.out; have q4 := HQ4.out; have q5 := HQ5.out; omega))
  have CHO1 := hidK (HO1.out.kept hk (fun k s s' => by have s1 := s.1; have s2 := s.2; have t1 := s'.1; have t2 := s'.2; have q3 := HQ3.out; have q4 := HQ4.out; have q5 := HQ5.out; omega))
  clear HB HY hk HO2 HO1 Bk Bx
  have HB := HB8
  clear HB8
  have HY := CHY
  clear CHY
  have HO1 := CHO1
  clear CHO1
  have Bk := Ck
  clear Ck
  have Bx := Cx
  clear Cx
  clear ho
  rw [← hrk]
  clear hrk
  obtain ⟨k0, k1, k2, k3, k4, k5⟩ := cs6 Bk.out
  have ltk_8 := lt_of_some Bk.out
  obtain ⟨x0, x1, x2, x3, x4, x5⟩ := cs6 Bx.out
  have ltx_8 := lt_of_some Bx.out
  go_wp2_with fail
  refine (eqqd_any va1 va0 vl1 vl0 vc1 vc0 zs _ (HO1.out.row) (R0.out.below HY.out.out)).mono ?_
  rintro e w9 ⟨rfl, hb⟩
  clear k0 k1 k2 k3 k4 k5 ltk_8 x0 x1 x2 x3 x4 x5 ltx_8
  replace Bk := upK Bk hb
  replace Bx := upK Bx hb
  replace HY := hidK (HY.out.below hb)
  replace HO1 := hidK (HO1.out.below hb)
  replace HB := upB HB hb
  clear hb
  clear hrk0
  obtain ⟨k0, k1, k2, k3, k4, k5⟩ := cs6 Bk.out
  have ltk_9 := lt_of_some Bk.out
  obtain ⟨x0, x1, x2, x3, x4, x5⟩ := cs6 Bx.out
  have ltx_9 := lt_of_some Bx.out
  go_wp2_with fail
  refine (markqd_any va1 vl1 vc1 zs 1 _ _ HO1.out (by decide) hlz hlq).mono ?_
  rintro e w10 ⟨rfl, ho, hk⟩
  clear k0 k1 k2 k3 k4 k5 ltk_9 x0 x1 x2 x3 x4 x5 ltx_9
  have Ck := hidK ((hk.block (w.heap.size) (lt_of_some Bk.out) (fun s => by have s1 := s.1; have s2 := s.2; have q3 := HQ3.out; have q4 := HQ4.out; have q5 := HQ5.out; omega)).trans Bk.out)
  have Cx := hidK ((hk.block (w4.heap.size) (lt_of_some Bx.out) (fun s => by have s1 := s.1; have s2 := s.2; have q3 := HQ3.out; have q4 := HQ4.out; have q5 := HQ5.out; omega)).trans Bx.out)
  have HB10 := hidK (HB.out.trans (hk.low (X := w.heap.size) HB.out.size (fun k s => by have s1 := s.1; have q3 := HQ3.out; have q4 := HQ4.out; have q5 := HQ5.out; omega)))
  have CHY := hidK (HY.out.kept hk (fun k s => by have s1 := s.1; have q3 := HQ3.out; have q4 := HQ4.out; have q5 := HQ5.out; omega))
  clear HB HY hk HO1 Bk Bx
  have HB := HB10
  clear HB10
  have HY := CHY
  clear CHY
  have Bk := Ck
  clear Ck
  have Bx := Cx
  clear Cx
  have HM1 := hidK ho
  clear ho
  rw [← HMM.out]
  obtain ⟨k0, k1, k2, k3, k4, k5⟩ := cs6 Bk.out
  have ltk_10 := lt_of_some Bk.out
  obtain ⟨x0, x1, x2, x3, x4, x5⟩ := cs6 Bx.out
  have ltx_10 := lt_of_some Bx.out
  go_wp2_with fail
  refine (HH.out _ HM1.out.row).mono ?_
  rintro e w11 ⟨rfl, hb⟩
  clear k0 k1 k2 k3 k4 k5 ltk_10 x0 x1 x2 x3 x4 x5 ltx_10
  replace Bk := upK Bk hb
  replace Bx := upK Bx hb
  replace HY := hidK (HY.out.below hb)
  replace HM1 := hidK (HM1.out.below hb)
  replace HB := upB HB hb
  clear hb
  obtain ⟨k0, k1, k2, k3, k4, k5⟩ := cs6 Bk.out
  have ltk_11 := lt_of_some Bk.out
  go_wp2_with fail
  refine (toCluster_any d c _ (HR.out.below HB.out) HF.out).mono ?_
  rintro e w12 ⟨d4, rfl, ho, hb⟩
  clear k0 k1 k2 k3 k4 k5 ltk_11
  replace Bk := upK Bk hb
  replace Bx := upK Bx hb
  replace HY := hidK (HY.out.below hb)
  replace HM1 := hidK (HM1.out.below hb)
  replace HB := upB HB hb
  clear hb
  have HO := hidK ho.row
  clear ho
  go_wp2_with fail
  refine (iexcs_any d4 c _ HO.out (HE.out.below HB.out)).mono ?_
  rintro e w13 ⟨va2, vl2, vc2, z2, rfl, hI, ho, hb⟩
  obtain rfl := HIS.out.same hI
  clear hI HO
  have HR2 := hidK ho.row
  clear ho
  replace Bk := upK Bk hb
  replace Bx := upK Bx hb
  replace HY := hidK (HY.out.below hb)
  replace HM1 := hidK (HM1.out.below hb)
  replace HB := upB HB hb
  clear hb
  obtain ⟨k0, k1, k2, k3, k4, k5⟩ := cs6 Bk.out
  have ltk_13 := lt_of_some Bk.out
  obtain ⟨x0, x1, x2, x3, x4, x5⟩ := cs6 Bx.out
  have ltx_13 := lt_of_some Bx.out
  go_wp2_with fail
  refine (eqqd_any va2 va0 vl2 vl0 vc2 vc0 zs _ (HR2.out) (R0.out.below (HY.out).out)).mono ?_
  rintro e w14 ⟨rfl, hb⟩
  clear k0 k1 k2 k3 k4 k5 ltk_13 x0 x1 x2 x3 x4 x5 ltx_13
  replace Bk := upK Bk hb
  replace Bx := upK Bx hb
  replace HY := hidK (HY.out.below hb)
  replace HM1 := hidK (HM1.out.below hb)
  replace HB := upB HB hb
  clear hb
  obtain ⟨k0, k1, k2, k3, k4, k5⟩ := cs6 Bk.out
  have ltk_14 := lt_of_some Bk.out
  go_wp2_with fail
  refine (HH.out _ HM1.out.row).mono ?_
  rintro e w15 ⟨rfl, hb⟩
  clear k0 k1 k2 k3 k4 k5 ltk_14
  replace Bk := upK Bk hb
  replace Bx := upK Bx hb
  replace HY := hidK (HY.out.below hb)
  replace HM1 := hidK (HM1.out.below hb)
  replace HB := upB HB hb
  clear hb
  go_wp2_with fail
  go_ret
  exact ⟨rfl, HB.out⟩

set_option linter.unusedVariables false in
theorem fnExactExcess_walk (a1 : Option Addr) (l1 y1 : Nat) (ns : List Nd) (a2 : Option Addr) (l2 y2 : Nat) (ks : List Kd) (a3 : Option Addr) (l3 y3 : Nat) (vs : List Vd) (a4 : Option Addr) (l4 y4 : Nat) (xs : List Xd) (a5 : Option Addr) (l5 y5 : Nat) (ps : List Pd) (now : Int)  (w : World)
    (h1 : RRow w a1 l1 y1 7 (ns.map ndF)) (h2 : RRow w a2 l2 y2 4 (ks.map kdF)) (h3 : RRow w a3 l3 y3 8 (vs.map vdF)) (h4 : RRow w a4 l4 y4 5 (xs.map xdF)) (h5 : RRow w a5 l5 y5 6 (ps.map pdF)) (_ : (Lit.int .i64 now).wf = true)  (hG : ens w) :
    Calls Tryz.prog 4 #[.agg #[.slice a1 l1 y1, .slice a2 l2 y2, .slice a3 l3 y3, .slice a4 l4 y4, .slice a5 l5 y5, .int .i64 now]] w fun e w' => e = .returned (.bool true) ∧ Below w.heap.size w w' :=
  excess_walk ⟨a1, l1, y1, a2, l2, y2, a3, l3, y3, a4, l4, y4, a5, l5, y5⟩ ⟨ns, ks, vs, xs, ps, now⟩  w ⟨h1, h2, h3, h4, h5⟩  hG

end Go.Proofs.YtkljbgdikmpjfaaGreatDoor

namespace Go.Proofs.YtkljbgdikmpjfaaGreatDoor
open Go.RowKit Go.ChangeShapes Go.WideShapes Go.Deep

theorem list6 {α : Type} {l : List α} (h : l.length = 6) : ∃ x0 x1 x2 x3 x4 x5, l = [x0, x1, x2, x3, x4, x5] := by
  match l, h with
  | [x0, x1, x2, x3, x4, x5], _ => exact ⟨_, _, _, _, _, _, rfl⟩
section
variable {H : Type} {enc : TypeId × Value → H} {P : Program} {w : World} {base : Nat} {spare : Nat → Bool} {held : Bool}

theorem open_aggN {r : Reach} {b0 : Nat} {t : TypeId} {fs : Array Field} {v : Value} {d : DataW H} {p : List MemPlace} (hs : P.underlying t = some (.struct fs)) (hone : oneCellFields P fs = true) (hC : P.cellsOf t = fs.size)
    (hv : Value.okWide P w r b0 t v) (h : DataW.Trod enc P w base spare held t v d p) :
    ∃ (cs : List Value) (n : Nat), v = .agg cs.toArray ∧ cs.length = fs.size ∧ ∀ (i : Nat) (f : Field), fs[i]? = some f → ∃ c y, cs[i]? = some c ∧ DataW.trod enc P w base spare held n f.type [c] = some y := by
  obtain ⟨cs, rfl, hsz⟩ := okWide_struct hs hv
  obtain ⟨fuel, hf⟩ := h
  obtain ⟨xs, n, _, hx, hl, hlen, hf'⟩ := DataW.trod_struct hs hf
  refine ⟨cs.toList, n, rfl, by rw [Array.length_toList]; exact hsz.trans hC, fun i f hi => ?_⟩
  obtain ⟨o, k⟩ := hone_of hone i f hi
  have hlt : i < fs.size := (Array.getElem?_eq_some_iff.1 hi).1
  have hlc : i < cs.toList.length := by rw [Array.length_toList, hsz, hC]; exact hlt
  have g := hf' i f hi
  rw [o, k] at g
  have e : ((Value.agg cs).cells.toList.drop i).take 1 = [cs.toList[i]'hlc] := by
    show (cs.toList.drop i).take 1 = _
    rw [List.drop_eq_getElem_cons hlc]
    rfl
  rw [e] at g
  exact ⟨_, xs[i]'(by omega), List.getElem?_eq_getElem hlc, by rw [g, List.getElem?_eq_getElem]⟩

theorem row_of_trod {t e : TypeId} {n : Nat} {c : Value} {y : DataW H × List MemPlace} (ht : P.underlying t = some (.slice e)) (he : P.underlying e = some .string) (hc : P.cellsOf e = 1)
    (h : DataW.trod enc P w base spare held n t [c] = some y) : ∃ a len cap zs, c = .slice a len cap ∧ TxRow w a len cap zs := by
  rcases open_strs ht he hc h with ⟨hcs, _⟩ | ⟨a, len, cap, m, Sx, hcs, hb, hl, hm, hmm, _, hx⟩
  · exact ⟨none, 0, 0, [], by simpa using hcs, rfl, Nat.le_refl _, by omega, fun j x hx => by simp at hx, Or.inl rfl⟩
  · have hlm : len ≤ m := by rw [hmm]; split <;> omega
    have hm' : cap ≤ 9223372036854775807 := by unfold maxLen at hm; omega
    refine ⟨some a, len, cap, (List.range len).map Sx, by simpa using hcs, by simp, hl, hm', fun j x hj => ?_, ?_⟩
    · rw [List.getElem?_map] at hj
      by_cases hjl : j < len
      · rw [List.getElem?_range hjl] at hj
        obtain rfl := Option.some.inj hj
        have := (hx j (by omega)).2
        unfold maxLen at this
        omega
      · rw [List.getElem?_eq_none (by simp; omega)] at hj
        cases hj
    · by_cases h0 : len = 0
      · subst h0; exact Or.inl rfl
      right
      obtain ⟨b, o, spot⟩ := a
      have h0' := (hx 0 (by omega)).1
      have hspot : spot = none := by simpa [Addr.add] using World.cell?_spot h0'
      subst hspot
      refine ⟨b, o, rfl, ?_, fun j x hj => ?_⟩
      · rw [Addr.add_lit] at h0'
        rcases Nat.lt_or_ge b w.heap.size with h1 | h1
        · exact h1
        · simp [World.cell?, Array.getElem?_eq_none h1] at h0'
      · rw [List.getElem?_map] at hj
        by_cases hjl : j < len
        · rw [List.getElem?_range hjl] at hj
          obtain rfl := Option.some.inj hj
          have := (hx j (by omega)).1
          rw [Addr.add_lit] at this
          exact this
        · rw [List.getElem?_eq_none (by simp; omega)] at hj
          cases hj
end

section
variable {H : Type} {enc : TypeId × Value → H} {w : World} {base : Nat} {spare : Nat → Bool} {held : Bool}

theorem open_aggC {P : Program} {n : Nat} {t : TypeId} {fs : Array Field} {cs : List Value} {x : DataW H × List MemPlace} (hs : P.underlying t = some (.struct fs)) (hone : oneCellFields P fs = true) (hC : P.cellsOf t = fs.size)
    (h : DataW.trod enc P w base spare held n t cs = some x) :
    ∃ (n : Nat), cs.length = fs.size ∧ ∀ (i : Nat) (f : Field), fs[i]? = some f → ∃ c y, cs[i]? = some c ∧ DataW.trod enc P w base spare held n f.type [c] = some y := by
  obtain ⟨xs, n, _, hx, hl, hlen, hf'⟩ := DataW.trod_struct hs h
  refine ⟨n, hl.trans hC, fun i f hi => ?_⟩
  obtain ⟨o, k⟩ := hone_of hone i f hi
  have hlt : i < fs.size := (Array.getElem?_eq_some_iff.1 hi).1
  have hlc : i < cs.length := by rw [hl, hC]; exact hlt
  have g := hf' i f hi
  rw [o, k] at g
  have e : (cs.drop i).take 1 = [cs[i]'hlc] := by
    rw [List.drop_eq_getElem_cons hlc]
    rfl
  rw [e] at g
  exact ⟨_, xs[i]'(by omega), List.getElem?_eq_getElem hlc, by rw [g, List.getElem?_eq_getElem]⟩

end

end Go.Proofs.YtkljbgdikmpjfaaGreatDoor

namespace Go.Proofs.YtkljbgdikmpjfaaGreatDoor
open Go.RowKit Go.ChangeShapes Go.WideShapes Go.Deep
namespace Rc

section
variable {H : Type} {enc : TypeId × Value → H} {w : World} {base : Nat} {spare : Nat → Bool} {held : Bool}

theorem nd_of_trod {b o n : Nat} {cs : List Value} {x : DataW H × List MemPlace} (hc : ∀ i, i < 7 → w.cell? ⟨b, o + i, none⟩ = cs[i]?) (h : DataW.trod enc Tryz.prog w base spare held n 94 cs = some x) : ∃ v : Nd, RAt w b o (ndF v) := by
  obtain ⟨m, hl, hf⟩ := open_aggC Tryz.underlying94 (by kernel_rfl) (by kernel_rfl) h
  obtain ⟨c0, y0, e0, t0⟩ := hf 0 _ rfl
  obtain ⟨b0, q0, -, s0⟩ := DataW.trod_string Tryz.underlying9 t0
  obtain rfl : c0 = .string b0 := by simpa using q0
  obtain ⟨c1, y1, e1, t1⟩ := hf 1 _ rfl
  obtain ⟨b1, q1, -, s1⟩ := DataW.trod_string Tryz.underlying9 t1
  obtain rfl : c1 = .string b1 := by simpa using q1
  obtain ⟨c2, y2, e2, t2⟩ := hf 2 _ rfl
  obtain ⟨b2, q2, -, s2⟩ := DataW.trod_int Tryz.underlying2 t2
  obtain rfl : c2 = .int .i64 b2 := by simpa using q2
  obtain ⟨c3, y3, e3, t3⟩ := hf 3 _ rfl
  obtain ⟨b3, q3, -, s3⟩ := DataW.trod_int Tryz.underlying2 t3
  obtain rfl : c3 = .int .i64 b3 := by simpa using q3
  obtain ⟨c4, y4, e4, t4⟩ := hf 4 _ rfl
  obtain ⟨b4, q4, -, s4⟩ := DataW.trod_int Tryz.underlying2 t4
  obtain rfl : c4 = .int .i64 b4 := by simpa using q4
  obtain ⟨c5, y5, e5, t5⟩ := hf 5 _ rfl
  obtain ⟨b5, q5, -⟩ := DataW.trod_bool Tryz.underlying4 t5
  obtain rfl : c5 = .bool b5 := by simpa using q5
  obtain ⟨c6, y6, e6, t6⟩ := hf 6 _ rfl
  obtain ⟨b6, l6, p6, zz, rfl, r6⟩ := row_of_trod Tryz.underlying78 Tryz.underlying9 (by kernel_rfl) t6
  unfold maxLen at s0 s1
  refine ⟨⟨b0, b1, b2, b3, b4, b5, zz⟩, fun i f hi => ?_⟩
  rcases i with _ | _ | _ | _ | _ | _ | _ | i
  · cases hi
    exact ⟨_, (hc 0 (by omega)).trans e0, rfl, show b0.size ≤ _ by omega⟩
  · cases hi
    exact ⟨_, (hc 1 (by omega)).trans e1, rfl, show b1.size ≤ _ by omega⟩
  · cases hi
    exact ⟨_, (hc 2 (by omega)).trans e2, rfl⟩
  · cases hi
    exact ⟨_, (hc 3 (by omega)).trans e3, rfl⟩
  · cases hi
    exact ⟨_, (hc 4 (by omega)).trans e4, rfl⟩
  · cases hi
    exact ⟨_, (hc 5 (by omega)).trans e5, rfl⟩
  · cases hi
    exact ⟨_, (hc 6 (by omega)).trans e6, b6, l6, p6, rfl, r6⟩
  · first | (cases hi; done) | (simp [ndF] at hi; done)

theorem ndrow_of_trod {n : Nat} {c : Value} {y : DataW H × List MemPlace} (h : DataW.trod enc Tryz.prog w base spare held n 22 [c] = some y) : ∃ a len cap, ∃ xs : List Nd, c = .slice a len cap ∧ RRow w a len cap 7 (xs.map ndF) := by
  rcases open_slice Tryz.underlying22 h with ⟨hcs, _⟩ | ⟨a, len, cap, m, n', D, Pl, hcs, hb, hl, hm, hmm, _, hx⟩
  · exact ⟨none, 0, 0, [], by simpa using hcs, rfl, Nat.le_refl _, by omega, .inl rfl⟩
  have hlm : len ≤ m := by rw [hmm]; split <;> omega
  have hm' : cap ≤ 9223372036854775807 := by unfold maxLen at hm; omega
  have hce : Tryz.prog.cellsOf 94 = 7 := by kernel_rfl
  rw [hce] at hx
  by_cases h0 : len = 0
  · subst h0
    exact ⟨some a, 0, cap, [], by simpa using hcs, rfl, hl, hm', .inl rfl⟩
  obtain ⟨b, o, spot⟩ := a
  obtain ⟨cs0, k1, k2⟩ := hx 0 (by omega)
  have hspot : spot = none := by
    obtain ⟨_, hl0, hc0⟩ := World.cells?_some k1
    have := hc0 0 (by omega)
    rw [List.getElem?_eq_getElem (by omega)] at this
    simpa [Addr.add] using World.cell?_spot this
  subst hspot
  have hblt : b < w.heap.size := by
    obtain ⟨_, hl0, hc0⟩ := World.cells?_some k1
    have := hc0 0 (by omega)
    rw [List.getElem?_eq_getElem (by omega)] at this
    rcases Nat.lt_or_ge b w.heap.size with h1 | h1
    · exact h1
    · simp [Addr.add, World.cell?, Array.getElem?_eq_none h1] at this
  have each : ∀ i, i < len → ∃ v : Nd, RAt w b (o + i * 7) (ndF v) := fun i hi => by
    obtain ⟨cs, k1, k2⟩ := hx i (by omega)
    obtain ⟨_, hl0, hc0⟩ := World.cells?_some k1
    refine nd_of_trod (fun j hj => ?_) k2
    have := hc0 j hj
    rw [add_add, Addr.add_lit] at this
    rw [Nat.add_assoc]
    exact this
  have hin : Inhabited Nd := ⟨⟨⟨#[]⟩, ⟨#[]⟩, 0, 0, 0, false, []⟩⟩
  obtain ⟨f, hf⟩ := choose_lt each
  refine ⟨some ⟨b, o, none⟩, len, cap, (List.range len).map f, by simpa using hcs, by simp, hl, hm', .inr ⟨b, o, rfl, hblt, fun j r hj => ?_⟩⟩
  rw [List.getElem?_map, List.getElem?_map] at hj
  by_cases hjl : j < len
  · rw [List.getElem?_range hjl] at hj
    obtain rfl := Option.some.inj hj
    exact hf j hjl
  · rw [List.getElem?_eq_none (by simp; omega)] at hj
    cases hj

theorem kd_of_trod {b o n : Nat} {cs : List Value} {x : DataW H × List MemPlace} (hc : ∀ i, i < 4 → w.cell? ⟨b, o + i, none⟩ = cs[i]?) (h : DataW.trod enc Tryz.prog w base spare held n 97 cs = some x) : ∃ v : Kd, RAt w b o (kdF v) := by
  obtain ⟨m, hl, hf⟩ := open_aggC Tryz.underlying97 (by kernel_rfl) (by kernel_rfl) h
  obtain ⟨c0, y0, e0, t0⟩ := hf 0 _ rfl
  obtain ⟨b0, q0, -, s0⟩ := DataW.trod_string Tryz.underlying9 t0
  obtain rfl : c0 = .string b0 := by simpa using q0
  obtain ⟨c1, y1, e1, t1⟩ := hf 1 _ rfl
  obtain ⟨b1, q1, -⟩ := DataW.trod_bool Tryz.underlying4 t1
  obtain rfl : c1 = .bool b1 := by simpa using q1
  obtain ⟨c2, y2, e2, t2⟩ := hf 2 _ rfl
  obtain ⟨b2, q2, -⟩ := DataW.trod_bool Tryz.underlying4 t2
  obtain rfl : c2 = .bool b2 := by simpa using q2
  obtain ⟨c3, y3, e3, t3⟩ := hf 3 _ rfl
  obtain ⟨b3, q3, -, s3⟩ := DataW.trod_string Tryz.underlying9 t3
  obtain rfl : c3 = .string b3 := by simpa using q3
  unfold maxLen at s0 s3
  refine ⟨⟨b0, b1, b2, b3⟩, fun i f hi => ?_⟩
  rcases i with _ | _ | _ | _ | i
  · cases hi
    exact ⟨_, (hc 0 (by omega)).trans e0, rfl, show b0.size ≤ _ by omega⟩
  · cases hi
    exact ⟨_, (hc 1 (by omega)).trans e1, rfl⟩
  · cases hi
    exact ⟨_, (hc 2 (by omega)).trans e2, rfl⟩
  · cases hi
    exact ⟨_, (hc 3 (by omega)).trans e3, rfl, show b3.size ≤ _ by omega⟩
  · first | (cases hi; done) | (simp [kdF] at hi; done)

theorem kdrow_of_trod {n : Nat} {c : Value} {y : DataW H × List MemPlace} (h : DataW.trod enc Tryz.prog w base spare held n 23 [c] = some y) : ∃ a len cap, ∃ xs : List Kd, c = .slice a len cap ∧ RRow w a len cap 4 (xs.map kdF) := by
  rcases open_slice Tryz.underlying23 h with ⟨hcs, _⟩ | ⟨a, len, cap, m, n', D, Pl, hcs, hb, hl, hm, hmm, _, hx⟩
  · exact ⟨none, 0, 0, [], by simpa using hcs, rfl, Nat.le_refl _, by omega, .inl rfl⟩
  have hlm : len ≤ m := by rw [hmm]; split <;> omega
  have hm' : cap ≤ 9223372036854775807 := by unfold maxLen at hm; omega
  have hce : Tryz.prog.cellsOf 97 = 4 := by kernel_rfl
  rw [hce] at hx
  by_cases h0 : len = 0
  · subst h0
    exact ⟨some a, 0, cap, [], by simpa using hcs, rfl, hl, hm', .inl rfl⟩
  obtain ⟨b, o, spot⟩ := a
  obtain ⟨cs0, k1, k2⟩ := hx 0 (by omega)
  have hspot : spot = none := by
    obtain ⟨_, hl0, hc0⟩ := World.cells?_some k1
    have := hc0 0 (by omega)
    rw [List.getElem?_eq_getElem (by omega)] at this
    simpa [Addr.add] using World.cell?_spot this
  subst hspot
  have hblt : b < w.heap.size := by
    obtain ⟨_, hl0, hc0⟩ := World.cells?_some k1
    have := hc0 0 (by omega)
    rw [List.getElem?_eq_getElem (by omega)] at this
    rcases Nat.lt_or_ge b w.heap.size with h1 | h1
    · exact h1
    · simp [Addr.add, World.cell?, Array.getElem?_eq_none h1] at this
  have each : ∀ i, i < len → ∃ v : Kd, RAt w b (o + i * 4) (kdF v) := fun i hi => by
    obtain ⟨cs, k1, k2⟩ := hx i (by omega)
    obtain ⟨_, hl0, hc0⟩ := World.cells?_some k1
    refine kd_of_trod (fun j hj => ?_) k2
    have := hc0 j hj
    rw [add_add, Addr.add_lit] at this
    rw [Nat.add_assoc]
    exact this
  have hin : Inhabited Kd := ⟨⟨⟨#[]⟩, false, false, ⟨#[]⟩⟩⟩
  obtain ⟨f, hf⟩ := choose_lt each
  refine ⟨some ⟨b, o, none⟩, len, cap, (List.range len).map f, by simpa using hcs, by simp, hl, hm', .inr ⟨b, o, rfl, hblt, fun j r hj => ?_⟩⟩
  rw [List.getElem?_map, List.getElem?_map] at hj
  by_cases hjl : j < len
  · rw [List.getElem?_range hjl] at hj
    obtain rfl := Option.some.inj hj
    exact hf j hjl
  · rw [List.getElem?_eq_none (by simp; omega)] at hj
    cases hj

theorem vd_of_trod {b o n : Nat} {cs : List Value} {x : DataW H × List MemPlace} (hc : ∀ i, i < 8 → w.cell? ⟨b, o + i, none⟩ = cs[i]?) (h : DataW.trod enc Tryz.prog w base spare held n 99 cs = some x) : ∃ v : Vd, RAt w b o (vdF v) := by
  obtain ⟨m, hl, hf⟩ := open_aggC Tryz.underlying99 (by kernel_rfl) (by kernel_rfl) h
  obtain ⟨c0, y0, e0, t0⟩ := hf 0 _ rfl
  obtain ⟨b0, q0, -, s0⟩ := DataW.trod_string Tryz.underlying9 t0
  obtain rfl : c0 = .string b0 := by simpa using q0
  obtain ⟨c1, y1, e1, t1⟩ := hf 1 _ rfl
  obtain ⟨b1, q1, -, s1⟩ := DataW.trod_int Tryz.underlying2 t1
  obtain rfl : c1 = .int .i64 b1 := by simpa using q1
  obtain ⟨c2, y2, e2, t2⟩ := hf 2 _ rfl
  obtain ⟨b2, q2, -, s2⟩ := DataW.trod_string Tryz.underlying9 t2
  obtain rfl : c2 = .string b2 := by simpa using q2
  obtain ⟨c3, y3, e3, t3⟩ := hf 3 _ rfl
  obtain ⟨b3, q3, -, s3⟩ := DataW.trod_string Tryz.underlying9 t3
  obtain rfl : c3 = .string b3 := by simpa using q3
  obtain ⟨c4, y4, e4, t4⟩ := hf 4 _ rfl
  obtain ⟨b4, q4, -⟩ := DataW.trod_bool Tryz.underlying4 t4
  obtain rfl : c4 = .bool b4 := by simpa using q4
  obtain ⟨c5, y5, e5, t5⟩ := hf 5 _ rfl
  obtain ⟨b5, q5, -, s5⟩ := DataW.trod_string Tryz.underlying9 t5
  obtain rfl : c5 = .string b5 := by simpa using q5
  obtain ⟨c6, y6, e6, t6⟩ := hf 6 _ rfl
  obtain ⟨b6, q6, -⟩ := DataW.trod_bool Tryz.underlying4 t6
  obtain rfl : c6 = .bool b6 := by simpa using q6
  obtain ⟨c7, y7, e7, t7⟩ := hf 7 _ rfl
  obtain ⟨b7, l7, p7, zz, rfl, r7⟩ := row_of_trod Tryz.underlying78 Tryz.underlying9 (by kernel_rfl) t7
  unfold maxLen at s0 s2 s3 s5
  refine ⟨⟨b0, b1, b2, b3, b4, b5, b6, zz⟩, fun i f hi => ?_⟩
  rcases i with _ | _ | _ | _ | _ | _ | _ | _ | i
  · cases hi
    exact ⟨_, (hc 0 (by omega)).trans e0, rfl, show b0.size ≤ _ by omega⟩
  · cases hi
    exact ⟨_, (hc 1 (by omega)).trans e1, rfl⟩
  · cases hi
    exact ⟨_, (hc 2 (by omega)).trans e2, rfl, show b2.size ≤ _ by omega⟩
  · cases hi
    exact ⟨_, (hc 3 (by omega)).trans e3, rfl, show b3.size ≤ _ by omega⟩
  · cases hi
    exact ⟨_, (hc 4 (by omega)).trans e4, rfl⟩
  · cases hi
    exact ⟨_, (hc 5 (by omega)).trans e5, rfl, show b5.size ≤ _ by omega⟩
  · cases hi
    exact ⟨_, (hc 6 (by omega)).trans e6, rfl⟩
  · cases hi
    exact ⟨_, (hc 7 (by omega)).trans e7, b7, l7, p7, rfl, r7⟩
  · first | (cases hi; done) | (simp [vdF] at hi; done)

theorem vdrow_of_trod {n : Nat} {c : Value} {y : DataW H × List MemPlace} (h : DataW.trod enc Tryz.prog w base spare held n 24 [c] = some y) : ∃ a len cap, ∃ xs : List Vd, c = .slice a len cap ∧ RRow w a len cap 8 (xs.map vdF) := by
  rcases open_slice Tryz.underlying24 h with ⟨hcs, _⟩ | ⟨a, len, cap, m, n', D, Pl, hcs, hb, hl, hm, hmm, _, hx⟩
  · exact ⟨none, 0, 0, [], by simpa using hcs, rfl, Nat.le_refl _, by omega, .inl rfl⟩
  have hlm : len ≤ m := by rw [hmm]; split <;> omega
  have hm' : cap ≤ 9223372036854775807 := by unfold maxLen at hm; omega
  have hce : Tryz.prog.cellsOf 99 = 8 := by kernel_rfl
  rw [hce] at hx
  by_cases h0 : len = 0
  · subst h0
    exact ⟨some a, 0, cap, [], by simpa using hcs, rfl, hl, hm', .inl rfl⟩
  obtain ⟨b, o, spot⟩ := a
  obtain ⟨cs0, k1, k2⟩ := hx 0 (by omega)
  have hspot : spot = none := by
    obtain ⟨_, hl0, hc0⟩ := World.cells?_some k1
    have := hc0 0 (by omega)
    rw [List.getElem?_eq_getElem (by omega)] at this
    simpa [Addr.add] using World.cell?_spot this
  subst hspot
  have hblt : b < w.heap.size := by
    obtain ⟨_, hl0, hc0⟩ := World.cells?_some k1
    have := hc0 0 (by omega)
    rw [List.getElem?_eq_getElem (by omega)] at this
    rcases Nat.lt_or_ge b w.heap.size with h1 | h1
    · exact h1
    · simp [Addr.add, World.cell?, Array.getElem?_eq_none h1] at this
  have each : ∀ i, i < len → ∃ v : Vd, RAt w b (o + i * 8) (vdF v) := fun i hi => by
    obtain ⟨cs, k1, k2⟩ := hx i (by omega)
    obtain ⟨_, hl0, hc0⟩ := World.cells?_some k1
    refine vd_of_trod (fun j hj => ?_) k2
    have := hc0 j hj
    rw [add_add, Addr.add_lit] at this
    rw [Nat.add_assoc]
    exact this
  have hin : Inhabited Vd := ⟨⟨⟨#[]⟩, 0, ⟨#[]⟩, ⟨#[]⟩, false, ⟨#[]⟩, false, []⟩⟩
  obtain ⟨f, hf⟩ := choose_lt each
  refine ⟨some ⟨b, o, none⟩, len, cap, (List.range len).map f, by simpa using hcs, by simp, hl, hm', .inr ⟨b, o, rfl, hblt, fun j r hj => ?_⟩⟩
  rw [List.getElem?_map, List.getElem?_map] at hj
  by_cases hjl : j < len
  · rw [List.getElem?_range hjl] at hj
    obtain rfl := Option.some.inj hj
    exact hf j hjl
  · rw [List.getElem?_eq_none (by simp; omega)] at hj
    cases hj

theorem xd_of_trod {b o n : Nat} {cs : List Value} {x : DataW H × List MemPlace} (hc : ∀ i, i < 5 → w.cell? ⟨b, o + i, none⟩ = cs[i]?) (h : DataW.trod enc Tryz.prog w base spare held n 102 cs = some x) : ∃ v : Xd, RAt w b o (xdF v) := by
  obtain ⟨m, hl, hf⟩ := open_aggC Tryz.underlying102 (by kernel_rfl) (by kernel_rfl) h
  obtain ⟨c0, y0, e0, t0⟩ := hf 0 _ rfl
  obtain ⟨b0, q0, -, s0⟩ := DataW.trod_string Tryz.underlying9 t0
  obtain rfl : c0 = .string b0 := by simpa using q0
  obtain ⟨c1, y1, e1, t1⟩ := hf 1 _ rfl
  obtain ⟨b1, q1, -, s1⟩ := DataW.trod_int Tryz.underlying2 t1
  obtain rfl : c1 = .int .i64 b1 := by simpa using q1
  obtain ⟨c2, y2, e2, t2⟩ := hf 2 _ rfl
  obtain ⟨b2, q2, -, s2⟩ := DataW.trod_string Tryz.underlying9 t2
  obtain rfl : c2 = .string b2 := by simpa using q2
  obtain ⟨c3, y3, e3, t3⟩ := hf 3 _ rfl
  obtain ⟨b3, q3, -⟩ := DataW.trod_bool Tryz.underlying4 t3
  obtain rfl : c3 = .bool b3 := by simpa using q3
  obtain ⟨c4, y4, e4, t4⟩ := hf 4 _ rfl
  obtain ⟨b4, q4, -, s4⟩ := DataW.trod_string Tryz.underlying9 t4
  obtain rfl : c4 = .string b4 := by simpa using q4
  unfold maxLen at s0 s2 s4
  refine ⟨⟨b0, b1, b2, b3, b4⟩, fun i f hi => ?_⟩
  rcases i with _ | _ | _ | _ | _ | i
  · cases hi
    exact ⟨_, (hc 0 (by omega)).trans e0, rfl, show b0.size ≤ _ by omega⟩
  · cases hi
    exact ⟨_, (hc 1 (by omega)).trans e1, rfl⟩
  · cases hi
    exact ⟨_, (hc 2 (by omega)).trans e2, rfl, show b2.size ≤ _ by omega⟩
  · cases hi
    exact ⟨_, (hc 3 (by omega)).trans e3, rfl⟩
  · cases hi
    exact ⟨_, (hc 4 (by omega)).trans e4, rfl, show b4.size ≤ _ by omega⟩
  · first | (cases hi; done) | (simp [xdF] at hi; done)

theorem xdrow_of_trod {n : Nat} {c : Value} {y : DataW H × List MemPlace} (h : DataW.trod enc Tryz.prog w base spare held n 25 [c] = some y) : ∃ a len cap, ∃ xs : List Xd, c = .slice a len cap ∧ RRow w a len cap 5 (xs.map xdF) := by
  rcases open_slice Tryz.underlying25 h with ⟨hcs, _⟩ | ⟨a, len, cap, m, n', D, Pl, hcs, hb, hl, hm, hmm, _, hx⟩
  · exact ⟨none, 0, 0, [], by simpa using hcs, rfl, Nat.le_refl _, by omega, .inl rfl⟩
  have hlm : len ≤ m := by rw [hmm]; split <;> omega
  have hm' : cap ≤ 9223372036854775807 := by unfold maxLen at hm; omega
  have hce : Tryz.prog.cellsOf 102 = 5 := by kernel_rfl
  rw [hce] at hx
  by_cases h0 : len = 0
  · subst h0
    exact ⟨some a, 0, cap, [], by simpa using hcs, rfl, hl, hm', .inl rfl⟩
  obtain ⟨b, o, spot⟩ := a
  obtain ⟨cs0, k1, k2⟩ := hx 0 (by omega)
  have hspot : spot = none := by
    obtain ⟨_, hl0, hc0⟩ := World.cells?_some k1
    have := hc0 0 (by omega)
    rw [List.getElem?_eq_getElem (by omega)] at this
    simpa [Addr.add] using World.cell?_spot this
  subst hspot
  have hblt : b < w.heap.size := by
    obtain ⟨_, hl0, hc0⟩ := World.cells?_some k1
    have := hc0 0 (by omega)
    rw [List.getElem?_eq_getElem (by omega)] at this
    rcases Nat.lt_or_ge b w.heap.size with h1 | h1
    · exact h1
    · simp [Addr.add, World.cell?, Array.getElem?_eq_none h1] at this
  have each : ∀ i, i < len → ∃ v : Xd, RAt w b (o + i * 5) (xdF v) := fun i hi => by
    obtain ⟨cs, k1, k2⟩ := hx i (by omega)
    obtain ⟨_, hl0, hc0⟩ := World.cells?_some k1
    refine xd_of_trod (fun j hj => ?_) k2
    have := hc0 j hj
    rw [add_add, Addr.add_lit] at this
    rw [Nat.add_assoc]
    exact this
  have hin : Inhabited Xd := ⟨⟨⟨#[]⟩, 0, ⟨#[]⟩, false, ⟨#[]⟩⟩⟩
  obtain ⟨f, hf⟩ := choose_lt each
  refine ⟨some ⟨b, o, none⟩, len, cap, (List.range len).map f, by simpa using hcs, by simp, hl, hm', .inr ⟨b, o, rfl, hblt, fun j r hj => ?_⟩⟩
  rw [List.getElem?_map, List.getElem?_map] at hj
  by_cases hjl : j < len
  · rw [List.getElem?_range hjl] at hj
    obtain rfl := Option.some.inj hj
    exact hf j hjl
  · rw [List.getElem?_eq_none (by simp; omega)] at hj
    cases hj

theorem pd_of_trod {b o n : Nat} {cs : List Value} {x : DataW H × List MemPlace} (hc : ∀ i, i < 6 → w.cell? ⟨b, o + i, none⟩ = cs[i]?) (h : DataW.trod enc Tryz.prog w base spare held n 105 cs = some x) : ∃ v : Pd, RAt w b o (pdF v) := by
  obtain ⟨m, hl, hf⟩ := open_aggC Tryz.underlying105 (by kernel_rfl) (by kernel_rfl) h
  obtain ⟨c0, y0, e0, t0⟩ := hf 0 _ rfl
  obtain ⟨b0, q0, -, s0⟩ := DataW.trod_string Tryz.underlying9 t0
  obtain rfl : c0 = .string b0 := by simpa using q0
  obtain ⟨c1, y1, e1, t1⟩ := hf 1 _ rfl
  obtain ⟨b1, q1, -, s1⟩ := DataW.trod_int Tryz.underlying2 t1
  obtain rfl : c1 = .int .i64 b1 := by simpa using q1
  obtain ⟨c2, y2, e2, t2⟩ := hf 2 _ rfl
  obtain ⟨b2, q2, -, s2⟩ := DataW.trod_string Tryz.underlying9 t2
  obtain rfl : c2 = .string b2 := by simpa using q2
  obtain ⟨c3, y3, e3, t3⟩ := hf 3 _ rfl
  obtain ⟨b3, l3, p3, zz, rfl, r3⟩ := row_of_trod Tryz.underlying78 Tryz.underlying9 (by kernel_rfl) t3
  obtain ⟨c4, y4, e4, t4⟩ := hf 4 _ rfl
  obtain ⟨b4, q4, -, s4⟩ := DataW.trod_string Tryz.underlying9 t4
  obtain rfl : c4 = .string b4 := by simpa using q4
  obtain ⟨c5, y5, e5, t5⟩ := hf 5 _ rfl
  obtain ⟨b5, q5, -, s5⟩ := DataW.trod_int Tryz.underlying2 t5
  obtain rfl : c5 = .int .i64 b5 := by simpa using q5
  unfold maxLen at s0 s2 s4
  refine ⟨⟨b0, b1, b2, zz, b4, b5⟩, fun i f hi => ?_⟩
  rcases i with _ | _ | _ | _ | _ | _ | i
  · cases hi
    exact ⟨_, (hc 0 (by omega)).trans e0, rfl, show b0.size ≤ _ by omega⟩
  · cases hi
    exact ⟨_, (hc 1 (by omega)).trans e1, rfl⟩
  · cases hi
    exact ⟨_, (hc 2 (by omega)).trans e2, rfl, show b2.size ≤ _ by omega⟩
  · cases hi
    exact ⟨_, (hc 3 (by omega)).trans e3, b3, l3, p3, rfl, r3⟩
  · cases hi
    exact ⟨_, (hc 4 (by omega)).trans e4, rfl, show b4.size ≤ _ by omega⟩
  · cases hi
    exact ⟨_, (hc 5 (by omega)).trans e5, rfl⟩
  · first | (cases hi; done) | (simp [pdF] at hi; done)

theorem pdrow_of_trod {n : Nat} {c : Value} {y : DataW H × List MemPlace} (h : DataW.trod enc Tryz.prog w base spare held n 26 [c] = some y) : ∃ a len cap, ∃ xs : List Pd, c = .slice a len cap ∧ RRow w a len cap 6 (xs.map pdF) := by
  rcases open_slice Tryz.underlying26 h with ⟨hcs, _⟩ | ⟨a, len, cap, m, n', D, Pl, hcs, hb, hl, hm, hmm, _, hx⟩
  · exact ⟨none, 0, 0, [], by simpa using hcs, rfl, Nat.le_refl _, by omega, .inl rfl⟩
  have hlm : len ≤ m := by rw [hmm]; split <;> omega
  have hm' : cap ≤ 9223372036854775807 := by unfold maxLen at hm; omega
  have hce : Tryz.prog.cellsOf 105 = 6 := by kernel_rfl
  rw [hce] at hx
  by_cases h0 : len = 0
  · subst h0
    exact ⟨some a, 0, cap, [], by simpa using hcs, rfl, hl, hm', .inl rfl⟩
  obtain ⟨b, o, spot⟩ := a
  obtain ⟨cs0, k1, k2⟩ := hx 0 (by omega)
  have hspot : spot = none := by
    obtain ⟨_, hl0, hc0⟩ := World.cells?_some k1
    have := hc0 0 (by omega)
    rw [List.getElem?_eq_getElem (by omega)] at this
    simpa [Addr.add] using World.cell?_spot this
  subst hspot
  have hblt : b < w.heap.size := by
    obtain ⟨_, hl0, hc0⟩ := World.cells?_some k1
    have := hc0 0 (by omega)
    rw [List.getElem?_eq_getElem (by omega)] at this
    rcases Nat.lt_or_ge b w.heap.size with h1 | h1
    · exact h1
    · simp [Addr.add, World.cell?, Array.getElem?_eq_none h1] at this
  have each : ∀ i, i < len → ∃ v : Pd, RAt w b (o + i * 6) (pdF v) := fun i hi => by
    obtain ⟨cs, k1, k2⟩ := hx i (by omega)
    obtain ⟨_, hl0, hc0⟩ := World.cells?_some k1
    refine pd_of_trod (fun j hj => ?_) k2
    have := hc0 j hj
    rw [add_add, Addr.add_lit] at this
    rw [Nat.add_assoc]
    exact this
  have hin : Inhabited Pd := ⟨⟨⟨#[]⟩, 0, ⟨#[]⟩, [], ⟨#[]⟩, 0⟩⟩
  obtain ⟨f, hf⟩ := choose_lt each
  refine ⟨some ⟨b, o, none⟩, len, cap, (List.range len).map f, by simpa using hcs, by simp, hl, hm', .inr ⟨b, o, rfl, hblt, fun j r hj => ?_⟩⟩
  rw [List.getElem?_map, List.getElem?_map] at hj
  by_cases hjl : j < len
  · rw [List.getElem?_range hjl] at hj
    obtain rfl := Option.some.inj hj
    exact hf j hjl
  · rw [List.getElem?_eq_none (by simp; omega)] at hj
    cases hj

end

end Rc
end Go.Proofs.YtkljbgdikmpjfaaGreatDoor

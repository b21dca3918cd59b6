/-
  A cluster's lists in the world: compared, marked, held.
-/
import Derived.Test.YtcljghpfclegmaaGreatDoorRNode
import Derived.Test.YtcljghpfclegmaaGreatDoorRClass
import Derived.Test.YtcljghpfclegmaaGreatDoorRVolume
import Derived.Test.YtcljghpfclegmaaGreatDoorRClaim
import Derived.Test.YtcljghpfclegmaaGreatDoorRPod
namespace Go.Proofs.YtcljghpfclegmaaGreatDoor
open Go.RowKit
namespace Rc
open Mk

/-- What a cluster says. -/
structure Cl where
  ns : List Nd
  ks : List Kd
  vs : List Vd
  xs : List Xd
  ps : List Pd
  now : Int
/-- Its lists, field by field. -/
structure Cr where
  n : List (List Fv)
  k : List (List Fv)
  v : List (List Fv)
  x : List (List Fv)
  p : List (List Fv)
def Cl.raw (c : Cl) : Cr := ⟨c.ns.map ndF, c.ks.map kdF, c.vs.map vdF, c.xs.map xdF, c.ps.map pdF⟩
/-- Where its lists lie. -/
structure Ad where
  a1 : Option Addr
  l1 : Nat
  c1 : Nat
  a2 : Option Addr
  l2 : Nat
  c2 : Nat
  a3 : Option Addr
  l3 : Nat
  c3 : Nat
  a4 : Option Addr
  l4 : Nat
  c4 : Nat
  a5 : Option Addr
  l5 : Nat
  c5 : Nat
structure ClRow (w : World) (d : Ad) (c : Cr) : Prop where
  n : RRow w d.a1 d.l1 d.c1 7 c.n
  k : RRow w d.a2 d.l2 d.c2 4 c.k
  v : RRow w d.a3 d.l3 d.c3 8 c.v
  x : RRow w d.a4 d.l4 d.c4 5 c.x
  p : RRow w d.a5 d.l5 d.c5 6 c.p
theorem ClRow.below {w w' : World} {d : Ad} {c : Cr} (h : ClRow w d c) (hb : Below w.heap.size w w') : ClRow w' d c := ⟨h.n.below hb, h.k.below hb, h.v.below hb, h.x.below hb, h.p.below hb⟩
/-- It owns its lists, each in blocks of its own. -/
structure ClOwnP (w : World) (d : Ad) (c : Cr) (S : Nat → Prop) (P : Nat → Nat) : Prop where
  n : ROwn w d.a1 d.l1 d.c1 7 102 c.n (fun k => S k ∧ P k = 1)
  k : ROwn w d.a2 d.l2 d.c2 4 52 c.k (fun k => S k ∧ P k = 2)
  v : ROwn w d.a3 d.l3 d.c3 8 60 c.v (fun k => S k ∧ P k = 3)
  x : ROwn w d.a4 d.l4 d.c4 5 69 c.x (fun k => S k ∧ P k = 4)
  p : ROwn w d.a5 d.l5 d.c5 6 76 c.p (fun k => S k ∧ P k = 5)
def ClOwn (w : World) (d : Ad) (c : Cr) (S : Nat → Prop) : Prop := ∃ P, ClOwnP w d c S P
theorem ClOwnP.row {w : World} {d : Ad} {c : Cr} {S : Nat → Prop} {P : Nat → Nat} (h : ClOwnP w d c S P) : ClRow w d c := ⟨h.n.row, h.k.row, h.v.row, h.x.row, h.p.row⟩
theorem ClOwn.row {w : World} {d : Ad} {c : Cr} {S : Nat → Prop} (h : ClOwn w d c S) : ClRow w d c := by obtain ⟨P, h⟩ := h; exact h.row
theorem ClOwnP.keep {w w' : World} {d : Ad} {c : Cr} {S S' : Nat → Prop} {P : Nat → Nat} (h : ClOwnP w d c S P) (hk : ∀ k, k < w.heap.size → S k → w'.heap[k]? = w.heap[k]?) (hs : ∀ k, k < w.heap.size → S k → S' k) : ClOwnP w' d c S' P :=
  ⟨h.n.keep (fun k hl s => hk k hl s.1) (fun k hl s => ⟨hs k hl s.1, s.2⟩), h.k.keep (fun k hl s => hk k hl s.1) (fun k hl s => ⟨hs k hl s.1, s.2⟩), h.v.keep (fun k hl s => hk k hl s.1) (fun k hl s => ⟨hs k hl s.1, s.2⟩), h.x.keep (fun k hl s => hk k hl s.1) (fun k hl s => ⟨hs k hl s.1, s.2⟩), h.p.keep (fun k hl s => hk k hl s.1) (fun k hl s => ⟨hs k hl s.1, s.2⟩)⟩
theorem ClOwn.below {w w' : World} {d : Ad} {c : Cr} {S : Nat → Prop} (h : ClOwn w d c S) (hb : Below w.heap.size w w') : ClOwn w' d c S := by
  obtain ⟨P, h⟩ := h
  exact ⟨P, h.keep (fun k hk _ => hb.block k hk) (fun _ _ s => s)⟩
theorem ClOwn.kept {w w' : World} {d : Ad} {c : Cr} {S S' : Nat → Prop} (h : ClOwn w d c S) (hb : KeptS S' w w') (hd : ∀ k, S k → ¬ S' k) : ClOwn w' d c S := by
  obtain ⟨P, h⟩ := h
  exact ⟨P, h.keep (fun k hk s => hb.block k hk (hd k s)) (fun _ _ s => s)⟩
theorem ClOwn.into {w : World} {d : Ad} {c : Cr} {S S' : Nat → Prop} (h : ClOwn w d c S) (hs : ∀ k, k < w.heap.size → S k → S' k) : ClOwn w d c S' := by
  obtain ⟨P, h⟩ := h
  exact ⟨P, h.keep (fun _ _ _ => rfl) hs⟩
/-- A marked cluster, and the number behind its marks. -/
def mkC (N : Int) (c : Cr) : Cr := ⟨mkRs N c.n, mkRs (mkNs N c.n) c.k, mkRs (mkNs (mkNs N c.n) c.k) c.v, mkRs (mkNs (mkNs (mkNs N c.n) c.k) c.v) c.x, mkRs (mkNs (mkNs (mkNs (mkNs N c.n) c.k) c.v) c.x) c.p⟩
def mkCn (N : Int) (c : Cr) : Int := (mkNs (mkNs (mkNs (mkNs (mkNs N c.n) c.k) c.v) c.x) c.p)
theorem mkCn_ge (N : Int) (c : Cr) : N ≤ mkCn N c := Int.le_trans (mkNs_ge _ _) (Int.le_trans (mkNs_ge _ _) (Int.le_trans (mkNs_ge _ _) (Int.le_trans (mkNs_ge _ _) (mkNs_ge _ _))))
theorem mkCn_n (N : Int) (c : Cr) : mkNs N c.n ≤ mkCn N c := (Int.le_trans (Int.le_trans (Int.le_trans (Int.le_trans (Int.le_refl _) (mkNs_ge _ _)) (mkNs_ge _ _)) (mkNs_ge _ _)) (mkNs_ge _ _))
theorem mkCn_k (N : Int) (c : Cr) : mkNs (mkNs N c.n) c.k ≤ mkCn N c := (Int.le_trans (Int.le_trans (Int.le_trans (Int.le_refl _) (mkNs_ge _ _)) (mkNs_ge _ _)) (mkNs_ge _ _))
theorem mkCn_v (N : Int) (c : Cr) : mkNs (mkNs (mkNs N c.n) c.k) c.v ≤ mkCn N c := (Int.le_trans (Int.le_trans (Int.le_refl _) (mkNs_ge _ _)) (mkNs_ge _ _))
theorem mkCn_x (N : Int) (c : Cr) : mkNs (mkNs (mkNs (mkNs N c.n) c.k) c.v) c.x ≤ mkCn N c := (Int.le_trans (Int.le_refl _) (mkNs_ge _ _))
theorem mkCn_p (N : Int) (c : Cr) : mkNs (mkNs (mkNs (mkNs (mkNs N c.n) c.k) c.v) c.x) c.p ≤ mkCn N c := (Int.le_refl _)

set_option maxRecDepth 10000 in
set_option maxHeartbeats 3200000 in
theorem eqCluster_any (d d' : Ad) (c : Cl) (w : World) (hr : ClRow w d c.raw) (hr' : ClRow w d' c.raw) :
    Calls Tryz.prog 16 #[.agg #[.slice d.a1 d.l1 d.c1, .slice d.a2 d.l2 d.c2, .slice d.a3 d.l3 d.c3, .slice d.a4 d.l4 d.c4, .slice d.a5 d.l5 d.c5, .int .i64 c.now], .agg #[.slice d'.a1 d'.l1 d'.c1, .slice d'.a2 d'.l2 d'.c2, .slice d'.a3 d'.l3 d'.c3, .slice d'.a4 d'.l4 d'.c4, .slice d'.a5 d'.l5 d'.c5, .int .i64 c.now]] w fun e w' => e = .returned (.bool true) ∧ Below w.heap.size w w' := by
  have HR := hidK (hr.below (below2 w (.cells #[.slice d.a1 d.l1 d.c1, .slice d.a2 d.l2 d.c2, .slice d.a3 d.l3 d.c3, .slice d.a4 d.l4 d.c4, .slice d.a5 d.l5 d.c5, .int .i64 c.now] 37) (.cells #[.slice d'.a1 d'.l1 d'.c1, .slice d'.a2 d'.l2 d'.c2, .slice d'.a3 d'.l3 d'.c3, .slice d'.a4 d'.l4 d'.c4, .slice d'.a5 d'.l5 d'.c5, .int .i64 c.now] 37)))
  have HR' := hidK (hr'.below (below2 w (.cells #[.slice d.a1 d.l1 d.c1, .slice d.a2 d.l2 d.c2, .slice d.a3 d.l3 d.c3, .slice d.a4 d.l4 d.c4, .slice d.a5 d.l5 d.c5, .int .i64 c.now] 37) (.cells #[.slice d'.a1 d'.l1 d'.c1, .slice d'.a2 d'.l2 d'.c2, .slice d'.a3 d'.l3 d'.c3, .slice d'.a4 d'.l4 d'.c4, .slice d'.a5 d'.l5 d'.c5, .int .i64 c.now] 37)))
  have HB0 := hidK (below2 w (.cells #[.slice d.a1 d.l1 d.c1, .slice d.a2 d.l2 d.c2, .slice d.a3 d.l3 d.c3, .slice d.a4 d.l4 d.c4, .slice d.a5 d.l5 d.c5, .int .i64 c.now] 37) (.cells #[.slice d'.a1 d'.l1 d'.c1, .slice d'.a2 d'.l2 d'.c2, .slice d'.a3 d'.l3 d'.c3, .slice d'.a4 d'.l4 d'.c4, .slice d'.a5 d'.l5 d'.c5, .int .i64 c.now] 37))
  have HG0 := hidK (heap2_0 w (.cells #[.slice d.a1 d.l1 d.c1, .slice d.a2 d.l2 d.c2, .slice d.a3 d.l3 d.c3, .slice d.a4 d.l4 d.c4, .slice d.a5 d.l5 d.c5, .int .i64 c.now] 37) (.cells #[.slice d'.a1 d'.l1 d'.c1, .slice d'.a2 d'.l2 d'.c2, .slice d'.a3 d'.l3 d'.c3, .slice d'.a4 d'.l4 d'.c4, .slice d'.a5 d'.l5 d'.c5, .int .i64 c.now] 37))
  have HG1 := hidK (heap2_1 w (.cells #[.slice d.a1 d.l1 d.c1, .slice d.a2 d.l2 d.c2, .slice d.a3 d.l3 d.c3, .slice d.a4 d.l4 d.c4, .slice d.a5 d.l5 d.c5, .int .i64 c.now] 37) (.cells #[.slice d'.a1 d'.l1 d'.c1, .slice d'.a2 d'.l2 d'.c2, .slice d'.a3 d'.l3 d'.c3, .slice d'.a4 d'.l4 d'.c4, .slice d'.a5 d'.l5 d'.c5, .int .i64 c.now] 37))
  clear hr hr'
  go_enter Tryz.func16, Tryz.ntmps16
  go_wp2_with fail
  refine (eqnd_any d.a1 d'.a1 d.l1 d'.l1 d.c1 d'.c1 c.ns _ HR.out.n HR'.out.n).mono ?_
  rintro e w1 ⟨rfl, hb⟩
  have HR1 := hidK (HR.out.below hb)
  have HR'1 := hidK (HR'.out.below hb)
  have HB1 := hidK (HB0.out.trans (hb.mono (HB0.out.size)))
  have HG01 := hidK ((hb.block _ (lt_of_some HG0.out)).trans HG0.out)
  have HG11 := hidK ((hb.block _ (lt_of_some HG1.out)).trans HG1.out)
  clear hb HR HR' HB0 HG0 HG1
  have HR := HR1
  have HR' := HR'1
  have HG0 := HG01
  have HG1 := HG11
  clear HR1 HR'1 HG01 HG11
  have c0 : w1.cell? ⟨w.heap.size, 1, none⟩ = some (.slice d.a2 d.l2 d.c2) := cellK HG0.out 1
  have c1 : w1.cell? ⟨w.heap.size + 1, 1, none⟩ = some (.slice d'.a2 d'.l2 d'.c2) := cellK HG1.out 1
  go_wp2_with fail
  refine (eqkd_any d.a2 d'.a2 d.l2 d'.l2 d.c2 d'.c2 c.ks _ HR.out.k HR'.out.k).mono ?_
  rintro e w2 ⟨rfl, hb⟩
  have HR2 := hidK (HR.out.below hb)
  have HR'2 := hidK (HR'.out.below hb)
  have HB2 := hidK (HB1.out.trans (hb.mono (HB1.out.size)))
  have HG02 := hidK ((hb.block _ (lt_of_some HG0.out)).trans HG0.out)
  have HG12 := hidK ((hb.block _ (lt_of_some HG1.out)).trans HG1.out)
  clear hb HR HR' HB1 HG0 HG1 c0 c1
  have HR := HR2
  have HR' := HR'2
  have HG0 := HG02
  have HG1 := HG12
  clear HR2 HR'2 HG02 HG12
  have c0 : w2.cell? ⟨w.heap.size, 2, none⟩ = some (.slice d.a3 d.l3 d.c3) := cellK HG0.out 2
  have c1 : w2.cell? ⟨w.heap.size + 1, 2, none⟩ = some (.slice d'.a3 d'.l3 d'.c3) := cellK HG1.out 2
  go_wp2_with fail
  refine (eqvd_any d.a3 d'.a3 d.l3 d'.l3 d.c3 d'.c3 c.vs _ HR.out.v HR'.out.v).mono ?_
  rintro e w3 ⟨rfl, hb⟩
  have HR3 := hidK (HR.out.below hb)
  have HR'3 := hidK (HR'.out.below hb)
  have HB3 := hidK (HB2.out.trans (hb.mono (HB2.out.size)))
  have HG03 := hidK ((hb.block _ (lt_of_some HG0.out)).trans HG0.out)
  have HG13 := hidK ((hb.block _ (lt_of_some HG1.out)).trans HG1.out)
  clear hb HR HR' HB2 HG0 HG1 c0 c1
  have HR := HR3
  have HR' := HR'3
  have HG0 := HG03
  have HG1 := HG13
  clear HR3 HR'3 HG03 HG13
  have c0 : w3.cell? ⟨w.heap.size, 3, none⟩ = some (.slice d.a4 d.l4 d.c4) := cellK HG0.out 3
  have c1 : w3.cell? ⟨w.heap.size + 1, 3, none⟩ = some (.slice d'.a4 d'.l4 d'.c4) := cellK HG1.out 3
  go_wp2_with fail
  refine (eqxd_any d.a4 d'.a4 d.l4 d'.l4 d.c4 d'.c4 c.xs _ HR.out.x HR'.out.x).mono ?_
  rintro e w4 ⟨rfl, hb⟩
  have HR4 := hidK (HR.out.below hb)
  have HR'4 := hidK (HR'.out.below hb)
  have HB4 := hidK (HB3.out.trans (hb.mono (HB3.out.size)))
  have HG04 := hidK ((hb.block _ (lt_of_some HG0.out)).trans HG0.out)
  have HG14 := hidK ((hb.block _ (lt_of_some HG1.out)).trans HG1.out)
  clear hb HR HR' HB3 HG0 HG1 c0 c1
  have HR := HR4
  have HR' := HR'4
  have HG0 := HG04
  have HG1 := HG14
  clear HR4 HR'4 HG04 HG14
  have c0 : w4.cell? ⟨w.heap.size, 4, none⟩ = some (.slice d.a5 d.l5 d.c5) := cellK HG0.out 4
  have c1 : w4.cell? ⟨w.heap.size + 1, 4, none⟩ = some (.slice d'.a5 d'.l5 d'.c5) := cellK HG1.out 4
  go_wp2_with fail
  refine (eqpd_any d.a5 d'.a5 d.l5 d'.l5 d.c5 d'.c5 c.ps _ HR.out.p HR'.out.p).mono ?_
  rintro e w5 ⟨rfl, hb⟩
  have HR5 := hidK (HR.out.below hb)
  have HR'5 := hidK (HR'.out.below hb)
  have HB5 := hidK (HB4.out.trans (hb.mono (HB4.out.size)))
  have HG05 := hidK ((hb.block _ (lt_of_some HG0.out)).trans HG0.out)
  have HG15 := hidK ((hb.block _ (lt_of_some HG1.out)).trans HG1.out)
  clear hb HR HR' HB4 HG0 HG1 c0 c1
  have HR := HR5
  have HR' := HR'5
  have HG0 := HG05
  have HG1 := HG15
  clear HR5 HR'5 HG05 HG15
  have c0 : w5.cell? ⟨w.heap.size, 5, none⟩ = some (.int .i64 c.now) := cellK HG0.out 5
  have c1 : w5.cell? ⟨w.heap.size + 1, 5, none⟩ = some (.int .i64 c.now) := cellK HG1.out 5
  go_wp2
  go_ret
  exact ⟨rfl, HB5.out⟩

set_option maxRecDepth 10000 in
set_option maxHeartbeats 3200000 in
theorem markCluster_any (d : Ad) (c : Cl) (N : Int) (S : Nat → Prop) (w : World) (ho : ClOwn w d c.raw S) (hS : ∀ k, S k → k < w.heap.size) (hN : 0 < N) (hb : mkCn N c.raw ≤ 1152921504606846976) :
    Calls Tryz.prog 20 #[.agg #[.slice d.a1 d.l1 d.c1, .slice d.a2 d.l2 d.c2, .slice d.a3 d.l3 d.c3, .slice d.a4 d.l4 d.c4, .slice d.a5 d.l5 d.c5, .int .i64 c.now], .int .i64 N] w fun e w' => e = .returned (.int .i64 (mkCn N c.raw)) ∧ ClOwn w' d (mkC N c.raw) S ∧ KeptS S w w' := by
  obtain ⟨P, ho⟩ := ho
  have h1 := ho.keep (w' := w.alloc (.cells #[.slice d.a1 d.l1 d.c1, .slice d.a2 d.l2 d.c2, .slice d.a3 d.l3 d.c3, .slice d.a4 d.l4 d.c4, .slice d.a5 d.l5 d.c5, .int .i64 c.now] 37)) (fun k hk _ => (below1 w _).block k hk) (fun _ _ s => s)
  have O1 := hidK h1.n
  have O2 := hidK h1.k
  have O3 := hidK h1.v
  have O4 := hidK h1.x
  have O5 := hidK h1.p
  have HK0 : Hid (KeptS S w (w.alloc (.cells #[.slice d.a1 d.l1 d.c1, .slice d.a2 d.l2 d.c2, .slice d.a3 d.l3 d.c3, .slice d.a4 d.l4 d.c4, .slice d.a5 d.l5 d.c5, .int .i64 c.now] 37))) := KeptS.of_below (below1 w _)
  have HS := hidK hS
  have HG0 : Hid ((w.alloc (.cells #[.slice d.a1 d.l1 d.c1, .slice d.a2 d.l2 d.c2, .slice d.a3 d.l3 d.c3, .slice d.a4 d.l4 d.c4, .slice d.a5 d.l5 d.c5, .int .i64 c.now] 37)).heap[w.heap.size]? = some (.cells #[.slice d.a1 d.l1 d.c1, .slice d.a2 d.l2 d.c2, .slice d.a3 d.l3 d.c3, .slice d.a4 d.l4 d.c4, .slice d.a5 d.l5 d.c5, .int .i64 c.now] 37 (0, 0))) := Array.getElem?_push_size
  have hnn : ¬ S w.heap.size := fun s => Nat.lt_irrefl _ (hS _ s)
  have HNN := hidK hnn
  have HBd := hidK hb
  clear ho h1 hS hnn hb
  go_enter Tryz.func20, Tryz.ntmps20
  go_wp2_with fail
  refine (marknd_any d.a1 d.l1 d.c1 c.ns (N) _ _ (by exact O1.out) hN (Int.le_trans (mkCn_n N c.raw) HBd.out) (Nat.le_trans O1.out.2.1 O1.out.2.2.1)).mono ?_
  rintro e w1 ⟨rfl, ho, hk⟩
  have M1 := hidK ho
  have O21 := hidK (O2.out.kept hk (fun k s q => by have h1 := s.2; have h2 := q.2; omega))
  have O31 := hidK (O3.out.kept hk (fun k s q => by have h1 := s.2; have h2 := q.2; omega))
  have O41 := hidK (O4.out.kept hk (fun k s q => by have h1 := s.2; have h2 := q.2; omega))
  have O51 := hidK (O5.out.kept hk (fun k s q => by have h1 := s.2; have h2 := q.2; omega))
  have HK1 := hidK (HK0.out.trans (hk.mono (fun _ s => s.1)))
  have HG1 := hidK ((hk.block _ (lt_of_some HG0.out) (fun s => HNN.out s.1)).trans HG0.out)
  clear ho hk HK0 HG0 O1 O2 O3 O4 O5
  have O2 := O21
  clear O21
  have O3 := O31
  clear O31
  have O4 := O41
  clear O41
  have O5 := O51
  clear O51
  have c0 : w1.cell? ⟨w.heap.size, 1, none⟩ = some (.slice d.a2 d.l2 d.c2) := cellK HG1.out 1
  go_wp2_with fail
  refine (markkd_any d.a2 d.l2 d.c2 c.ks (mkNs N (c.ns.map ndF)) _ _ (by exact O2.out) (Int.lt_of_lt_of_le hN (mkNs_ge _ _)) (Int.le_trans (mkCn_k N c.raw) HBd.out) (Nat.le_trans O2.out.2.1 O2.out.2.2.1)).mono ?_
  rintro e w2 ⟨rfl, ho, hk⟩
  have M2 := hidK ho
  have M12 := hidK (M1.out.kept hk (fun k s q => by have h1 := s.2; have h2 := q.2; omega))
  have O32 := hidK (O3.out.kept hk (fun k s q => by have h1 := s.2; have h2 := q.2; omega))
  have O42 := hidK (O4.out.kept hk (fun k s q => by have h1 := s.2; have h2 := q.2; omega))
  have O52 := hidK (O5.out.kept hk (fun k s q => by have h1 := s.2; have h2 := q.2; omega))
  have HK2 := hidK (HK1.out.trans (hk.mono (fun _ s => s.1)))
  have HG2 := hidK ((hk.block _ (lt_of_some HG1.out) (fun s => HNN.out s.1)).trans HG1.out)
  clear ho hk HK1 HG1 M1 O2 O3 O4 O5 c0
  have M1 := M12
  clear M12
  have O3 := O32
  clear O32
  have O4 := O42
  clear O42
  have O5 := O52
  clear O52
  have c0 : w2.cell? ⟨w.heap.size, 2, none⟩ = some (.slice d.a3 d.l3 d.c3) := cellK HG2.out 2
  go_wp2_with fail
  refine (markvd_any d.a3 d.l3 d.c3 c.vs (mkNs (mkNs N (c.ns.map ndF)) (c.ks.map kdF)) _ _ (by exact O3.out) (Int.lt_of_lt_of_le (Int.lt_of_lt_of_le hN (mkNs_ge _ _)) (mkNs_ge _ _)) (Int.le_trans (mkCn_v N c.raw) HBd.out) (Nat.le_trans O3.out.2.1 O3.out.2.2.1)).mono ?_
  rintro e w3 ⟨rfl, ho, hk⟩
  have M3 := hidK ho
  have M13 := hidK (M1.out.kept hk (fun k s q => by have h1 := s.2; have h2 := q.2; omega))
  have M23 := hidK (M2.out.kept hk (fun k s q => by have h1 := s.2; have h2 := q.2; omega))
  have O43 := hidK (O4.out.kept hk (fun k s q => by have h1 := s.2; have h2 := q.2; omega))
  have O53 := hidK (O5.out.kept hk (fun k s q => by have h1 := s.2; have h2 := q.2; omega))
  have HK3 := hidK (HK2.out.trans (hk.mono (fun _ s => s.1)))
  have HG3 := hidK ((hk.block _ (lt_of_some HG2.out) (fun s => HNN.out s.1)).trans HG2.out)
  clear ho hk HK2 HG2 M1 M2 O3 O4 O5 c0
  have M1 := M13
  clear M13
  have M2 := M23
  clear M23
  have O4 := O43
  clear O43
  have O5 := O53
  clear O53
  have c0 : w3.cell? ⟨w.heap.size, 3, none⟩ = some (.slice d.a4 d.l4 d.c4) := cellK HG3.out 3
  go_wp2_with fail
  refine (markxd_any d.a4 d.l4 d.c4 c.xs (mkNs (mkNs (mkNs N (c.ns.map ndF)) (c.ks.map kdF)) (c.vs.map vdF)) _ _ (by exact O4.out) (Int.lt_of_lt_of_le (Int.lt_of_lt_of_le (Int.lt_of_lt_of_le hN (mkNs_ge _ _)) (mkNs_ge _ _)) (mkNs_ge _ _)) (Int.le_trans (mkCn_x N c.raw) HBd.out) (Nat.le_trans O4.out.2.1 O4.out.2.2.1)).mono ?_
  rintro e w4 ⟨rfl, ho, hk⟩
  have M4 := hidK ho
  have M14 := hidK (M1.out.kept hk (fun k s q => by have h1 := s.2; have h2 := q.2; omega))
  have M24 := hidK (M2.out.kept hk (fun k s q => by have h1 := s.2; have h2 := q.2; omega))
  have M34 := hidK (M3.out.kept hk (fun k s q => by have h1 := s.2; have h2 := q.2; omega))
  have O54 := hidK (O5.out.kept hk (fun k s q => by have h1 := s.2; have h2 := q.2; omega))
  have HK4 := hidK (HK3.out.trans (hk.mono (fun _ s => s.1)))
  have HG4 := hidK ((hk.block _ (lt_of_some HG3.out) (fun s => HNN.out s.1)).trans HG3.out)
  clear ho hk HK3 HG3 M1 M2 M3 O4 O5 c0
  have M1 := M14
  clear M14
  have M2 := M24
  clear M24
  have M3 := M34
  clear M34
  have O5 := O54
  clear O54
  have c0 : w4.cell? ⟨w.heap.size, 4, none⟩ = some (.slice d.a5 d.l5 d.c5) := cellK HG4.out 4
  go_wp2_with fail
  refine (markpd_any d.a5 d.l5 d.c5 c.ps (mkNs (mkNs (mkNs (mkNs N (c.ns.map ndF)) (c.ks.map kdF)) (c.vs.map vdF)) (c.xs.map xdF)) _ _ (by exact O5.out) (Int.lt_of_lt_of_le (Int.lt_of_lt_of_le (Int.lt_of_lt_of_le (Int.lt_of_lt_of_le hN (mkNs_ge _ _)) (mkNs_ge _ _)) (mkNs_ge _ _)) (mkNs_ge _ _)) (Int.le_trans (mkCn_p N c.raw) HBd.out) (Nat.le_trans O5.out.2.1 O5.out.2.2.1)).mono ?_
  rintro e w5 ⟨rfl, ho, hk⟩
  have M5 := hidK ho
  have M15 := hidK (M1.out.kept hk (fun k s q => by have h1 := s.2; have h2 := q.2; omega))
  have M25 := hidK (M2.out.kept hk (fun k s q => by have h1 := s.2; have h2 := q.2; omega))
  have M35 := hidK (M3.out.kept hk (fun k s q => by have h1 := s.2; have h2 := q.2; omega))
  have M45 := hidK (M4.out.kept hk (fun k s q => by have h1 := s.2; have h2 := q.2; omega))
  have HK5 := hidK (HK4.out.trans (hk.mono (fun _ s => s.1)))
  have HG5 := hidK ((hk.block _ (lt_of_some HG4.out) (fun s => HNN.out s.1)).trans HG4.out)
  clear ho hk HK4 HG4 M1 M2 M3 M4 O5 c0
  have M1 := M15
  clear M15
  have M2 := M25
  clear M25
  have M3 := M35
  clear M35
  have M4 := M45
  clear M45
  go_wp2_with fail
  go_ret
  exact ⟨rfl, ⟨P, M1.out, M2.out, M3.out, M4.out, M5.out⟩, HK5.out⟩

set_option maxRecDepth 10000 in
set_option maxHeartbeats 3200000 in
theorem heldCluster_any (d : Ad) (c : Cl) (now N : Int) (w : World) (hr : ClRow w d (mkC N c.raw)) (hN : 0 < N) (hb : mkCn N c.raw ≤ 1152921504606846976) :
    Calls Tryz.prog 92 #[.agg #[.slice d.a1 d.l1 d.c1, .slice d.a2 d.l2 d.c2, .slice d.a3 d.l3 d.c3, .slice d.a4 d.l4 d.c4, .slice d.a5 d.l5 d.c5, .int .i64 now], .int .i64 N] w fun e w' => e = .returned (.int .i64 (mkCn N c.raw)) ∧ Below w.heap.size w w' := by
  have HR := hidK (hr.below (below1 w (.cells #[.slice d.a1 d.l1 d.c1, .slice d.a2 d.l2 d.c2, .slice d.a3 d.l3 d.c3, .slice d.a4 d.l4 d.c4, .slice d.a5 d.l5 d.c5, .int .i64 now] 37)))
  have HB0 := hidK (below1 w (.cells #[.slice d.a1 d.l1 d.c1, .slice d.a2 d.l2 d.c2, .slice d.a3 d.l3 d.c3, .slice d.a4 d.l4 d.c4, .slice d.a5 d.l5 d.c5, .int .i64 now] 37))
  have HG0 : Hid ((w.alloc (.cells #[.slice d.a1 d.l1 d.c1, .slice d.a2 d.l2 d.c2, .slice d.a3 d.l3 d.c3, .slice d.a4 d.l4 d.c4, .slice d.a5 d.l5 d.c5, .int .i64 now] 37)).heap[w.heap.size]? = some (.cells #[.slice d.a1 d.l1 d.c1, .slice d.a2 d.l2 d.c2, .slice d.a3 d.l3 d.c3, .slice d.a4 d.l4 d.c4, .slice d.a5 d.l5 d.c5, .int .i64 now] 37 (0, 0))) := Array.getElem?_push_size
  have HBd := hidK hb
  clear hr hb
  have p1 : ¬ mkNs N (c.ns.map ndF) < 0 := Int.not_lt.2 (Int.le_of_lt (Int.lt_of_lt_of_le hN (mkNs_ge _ _)))
  have p2 : ¬ mkNs (mkNs N (c.ns.map ndF)) (c.ks.map kdF) < 0 := Int.not_lt.2 (Int.le_of_lt (Int.lt_of_lt_of_le (Int.lt_of_lt_of_le hN (mkNs_ge _ _)) (mkNs_ge _ _)))
  have p3 : ¬ mkNs (mkNs (mkNs N (c.ns.map ndF)) (c.ks.map kdF)) (c.vs.map vdF) < 0 := Int.not_lt.2 (Int.le_of_lt (Int.lt_of_lt_of_le (Int.lt_of_lt_of_le (Int.lt_of_lt_of_le hN (mkNs_ge _ _)) (mkNs_ge _ _)) (mkNs_ge _ _)))
  have p4 : ¬ mkNs (mkNs (mkNs (mkNs N (c.ns.map ndF)) (c.ks.map kdF)) (c.vs.map vdF)) (c.xs.map xdF) < 0 := Int.not_lt.2 (Int.le_of_lt (Int.lt_of_lt_of_le (Int.lt_of_lt_of_le (Int.lt_of_lt_of_le (Int.lt_of_lt_of_le hN (mkNs_ge _ _)) (mkNs_ge _ _)) (mkNs_ge _ _)) (mkNs_ge _ _)))
  have p5 : ¬ mkNs (mkNs (mkNs (mkNs (mkNs N (c.ns.map ndF)) (c.ks.map kdF)) (c.vs.map vdF)) (c.xs.map xdF)) (c.ps.map pdF) < 0 := Int.not_lt.2 (Int.le_of_lt (Int.lt_of_lt_of_le (Int.lt_of_lt_of_le (Int.lt_of_lt_of_le (Int.lt_of_lt_of_le (Int.lt_of_lt_of_le hN (mkNs_ge _ _)) (mkNs_ge _ _)) (mkNs_ge _ _)) (mkNs_ge _ _)) (mkNs_ge _ _)))
  go_enter Tryz.func92, Tryz.ntmps92
  go_wp2_with fail
  refine (heldnd_any d.a1 d.l1 d.c1 c.ns (N) _ (by exact HR.out.n) hN (Int.le_trans (mkCn_n N c.raw) HBd.out) (Nat.le_trans HR.out.n.2.1 HR.out.n.2.2.1)).mono ?_
  rintro e w1 ⟨rfl, hb⟩
  have HR1 := hidK (HR.out.below hb)
  have HB1 := hidK (HB0.out.trans (hb.mono (HB0.out.size)))
  have HG1 := hidK ((hb.block _ (lt_of_some HG0.out)).trans HG0.out)
  clear hb HR HB0 HG0
  have HR := HR1
  clear HR1
  have c0 : w1.cell? ⟨w.heap.size, 1, none⟩ = some (.slice d.a2 d.l2 d.c2) := cellK HG1.out 1
  go_wp2_with fail
  refine (heldkd_any d.a2 d.l2 d.c2 c.ks (mkNs N (c.ns.map ndF)) _ (by exact HR.out.k) (Int.lt_of_lt_of_le hN (mkNs_ge _ _)) (Int.le_trans (mkCn_k N c.raw) HBd.out) (Nat.le_trans HR.out.k.2.1 HR.out.k.2.2.1)).mono ?_
  rintro e w2 ⟨rfl, hb⟩
  have HR2 := hidK (HR.out.below hb)
  have HB2 := hidK (HB1.out.trans (hb.mono (HB1.out.size)))
  have HG2 := hidK ((hb.block _ (lt_of_some HG1.out)).trans HG1.out)
  clear hb HR HB1 HG1 c0
  have HR := HR2
  clear HR2
  have c0 : w2.cell? ⟨w.heap.size, 2, none⟩ = some (.slice d.a3 d.l3 d.c3) := cellK HG2.out 2
  go_wp2_with fail
  refine (heldvd_any d.a3 d.l3 d.c3 c.vs (mkNs (mkNs N (c.ns.map ndF)) (c.ks.map kdF)) _ (by exact HR.out.v) (Int.lt_of_lt_of_le (Int.lt_of_lt_of_le hN (mkNs_ge _ _)) (mkNs_ge _ _)) (Int.le_trans (mkCn_v N c.raw) HBd.out) (Nat.le_trans HR.out.v.2.1 HR.out.v.2.2.1)).mono ?_
  rintro e w3 ⟨rfl, hb⟩
  have HR3 := hidK (HR.out.below hb)
  have HB3 := hidK (HB2.out.trans (hb.mono (HB2.out.size)))
  have HG3 := hidK ((hb.block _ (lt_of_some HG2.out)).trans HG2.out)
  clear hb HR HB2 HG2 c0
  have HR := HR3
  clear HR3
  have c0 : w3.cell? ⟨w.heap.size, 3, none⟩ = some (.slice d.a4 d.l4 d.c4) := cellK HG3.out 3
  go_wp2_with fail
  refine (heldxd_any d.a4 d.l4 d.c4 c.xs (mkNs (mkNs (mkNs N (c.ns.map ndF)) (c.ks.map kdF)) (c.vs.map vdF)) _ (by exact HR.out.x) (Int.lt_of_lt_of_le (Int.lt_of_lt_of_le (Int.lt_of_lt_of_le hN (mkNs_ge _ _)) (mkNs_ge _ _)) (mkNs_ge _ _)) (Int.le_trans (mkCn_x N c.raw) HBd.out) (Nat.le_trans HR.out.x.2.1 HR.out.x.2.2.1)).mono ?_
  rintro e w4 ⟨rfl, hb⟩
  have HR4 := hidK (HR.out.below hb)
  have HB4 := hidK (HB3.out.trans (hb.mono (HB3.out.size)))
  have HG4 := hidK ((hb.block _ (lt_of_some HG3.out)).trans HG3.out)
  clear hb HR HB3 HG3 c0
  have HR := HR4
  clear HR4
  have c0 : w4.cell? ⟨w.heap.size, 4, none⟩ = some (.slice d.a5 d.l5 d.c5) := cellK HG4.out 4
  go_wp2_with fail
  refine (heldpd_any d.a5 d.l5 d.c5 c.ps (mkNs (mkNs (mkNs (mkNs N (c.ns.map ndF)) (c.ks.map kdF)) (c.vs.map vdF)) (c.xs.map xdF)) _ (by exact HR.out.p) (Int.lt_of_lt_of_le (Int.lt_of_lt_of_le (Int.lt_of_lt_of_le (Int.lt_of_lt_of_le hN (mkNs_ge _ _)) (mkNs_ge _ _)) (mkNs_ge _ _)) (mkNs_ge _ _)) (Int.le_trans (mkCn_p N c.raw) HBd.out) (Nat.le_trans HR.out.p.2.1 HR.out.p.2.2.1)).mono ?_
  rintro e w5 ⟨rfl, hb⟩
  have HR5 := hidK (HR.out.below hb)
  have HB5 := hidK (HB4.out.trans (hb.mono (HB4.out.size)))
  have HG5 := hidK ((hb.block _ (lt_of_some HG4.out)).trans HG4.out)
  clear hb HR HB4 HG4 c0
  have HR := HR5
  clear HR5
  go_wp2_with fail
  go_ret
  exact ⟨rfl, HB5.out⟩

end Rc
end Go.Proofs.YtcljghpfclegmaaGreatDoor

import Derived.Test.YtkljbgdikmpjfaaGreatDoorA5
import Derived.Stop.LaidErr
import Derived.ChangeVars
import Derived.Deep.Strs
import Derived.Deep.Fields
import Derived.WideShapes
import Derived.ChangeArms
/-
 The next disk to be taken off or put on, as the program tells it.
-/
set_option maxRecDepth 100000
set_option maxHeartbeats 12800000
namespace Go.Proofs.YtkljbgdikmpjfaaGreatDoor
open Go.RowKit
namespace Rc
open Mk

def TxW (zs : List ByteArray) : Fact:=fun v w => ∃ a' l' c',v = .slice a' l' c' ∧ TxRow w a' l' c' zs
theorem TxW.mono (zs : List ByteArray) : Fact.Mono (TxW zs):=by
 rintro v w w' ⟨a',l',c',h1,h2⟩ hb;exact ⟨a',l',c',h1,h2.below hb⟩
def WonF (W : World) (c : Cl) : Fact:=fun v w => ∃ d,v = .agg #[.slice d.a1 d.l1 d.c1,.slice d.a2 d.l2 d.c2,.slice d.a3 d.l3 d.c3,.slice d.a4 d.l4 d.c4,.slice d.a5 d.l5 d.c5,.int .i64 c.now] ∧ ClOwn w d c.raw (fun k => W.heap.size ≤ k)
theorem WonF.mono (W : World) (c : Cl) : Fact.Mono (WonF W c):=by
 rintro v w w' ⟨d,h1,h2⟩ hb;exact ⟨d,h1,h2.below hb⟩
def CouF (W : World) (c : Cl) (n : ByteArray) : Fact:=fun v w => ∃ d,v = .agg #[.slice d.a1 d.l1 d.c1,.slice d.a2 d.l2 d.c2,.slice d.a3 d.l3 d.c3,.slice d.a4 d.l4 d.c4,.slice d.a5 d.l5 d.c5,.int .i64 c.now,.string n,.int .i64 0] ∧ ClOwn w d c.raw (fun k => W.heap.size ≤ k)
theorem CouF.mono (W : World) (c : Cl) (n : ByteArray) : Fact.Mono (CouF W c n):=by
 rintro v w w' ⟨d,h1,h2⟩ hb;exact ⟨d,h1,h2.below hb⟩
def Laid2 (a b : ByteArray) : Fact:=fun v w => ∃ g,v = .slice (some ⟨g,0,none⟩) 2 2 ∧ w.heap[g]? = some (.cells #[.string a,.string b] 9 (0,0))
theorem Laid2.mono (a b : ByteArray) : Fact.Mono (Laid2 a b):=by
 rintro v w w' ⟨g,h1,h2⟩ hb;exact ⟨g,h1,(hb.block g (lt_of_some h2)).trans h2⟩
theorem put_ex (t : ByteArray) (zs : List ByteArray) : ∃ ys,Put t zs ys:=by
 by_cases h : t ∈ zs
 ·exact ⟨zs,.inl ⟨h,rfl⟩⟩
 ·refine ⟨_,.inr ⟨pl (fun s : ByteArray => s) zs t,List.findIdx_le_length,rfl,fun j y hj hy => ?_,fun y hy => ?_⟩⟩
  ·have h1:=List.not_of_lt_findIdx hj;rw [(List.getElem?_eq_some_iff.1 hy).2] at h1
   simpa using h1
  ·obtain ⟨h2,h3⟩:=List.getElem?_eq_some_iff.1 hy;have h1:=List.findIdx_getElem (w:=h2);have h4 : zs[List.findIdx (fun x : ByteArray => !Op.bytesLess x.toList t.toList) zs]'h2 = y:=h3;rw [h4] at h1;exact less_not (by simpa using h1) (fun e => h (e ▸ List.mem_of_getElem? hy))
theorem join2 (a b s : List UInt8) : Lib.join [a,b] s = a ++ (s ++ b):=by simp [Lib.join,List.intercalate]
theorem words2_len (a b : ByteArray) : (Lib.join ([a,b].map (·.data.toList)) [32]).length = a.size + (1 + b.size):=by
 show (Lib.join [a.data.toList,b.data.toList] [32]).length = _
 rw [join2,List.length_append,List.length_append,Array.length_toList,Array.length_toList]
 rfl
theorem words2 (a b : ByteArray) : wordsOf [a,b] = a ++ (⟨#[32]⟩ ++ b):=by
 show (⟨(Lib.join [a.data.toList,b.data.toList] [32]).toArray⟩ : ByteArray) = _
 rw [join2]
 apply ByteArray.ext
 simp [ByteArray.data_append]
theorem words_off (n : ByteArray) : wordsOf [⟨#[111,102,102]⟩,n] = wOff ++ n:=by
 rw [words2]
 apply ByteArray.ext
 simp [ByteArray.data_append,wOff]
theorem words_on (n : ByteArray) : wordsOf [⟨#[111,110]⟩,n] = wOn ++ n:=by
 rw [words2]
 apply ByteArray.ext
 simp [ByteArray.data_append,wOn]

theorem iatt_any (d : Ad) (c : Cl) (E : Nat → Addr) (w : World) (hr : ClRow w d c.raw) (hG : Ers w E) :
  Calls Tryz.prog 18 #[.agg #[.slice d.a1 d.l1 d.c1,.slice d.a2 d.l2 d.c2,.slice d.a3 d.l3 d.c3,.slice d.a4 d.l4 d.c4,.slice d.a5 d.l5 d.c5,.int .i64 c.now]] w (OutI (AttIs c) w):=by
 have HR:=hidK hr;have HE:=hidK hG;have HEN:=hidK hG.ens;have HB:=hidK (Below.refl w.heap.size w);clear hr hG
 go_enter Tryz.func18,Tryz.ntmps18
 go_wp2_with fail;refine (iright_any d c _ (HR.out.below (HB.out.trans ((below2 _ _ _).mono HB.out.size))) (HEN.out.below (HB.out.trans ((below2 _ _ _).mono HB.out.size)))).mono ?_;rintro e w1 ⟨r,rfl,hi,hb⟩;obtain ⟨HA0,HA1,hbx⟩:=slots2 hb;have Bk:=hidK HA0;have Br:=hidK HA1;replace HB:=upB HB hbx;clear hb hbx HA0 HA1;have HI:=hidK hi;clear hi
 cases r
 ·have HV : Hid (AttIs c (co0 (codeOf 1))):=.inl ⟨fun h => (by have h9:=HI.out.2 h;cases h9),rfl⟩;clear HI;obtain ⟨cc,hcc⟩ : ∃ cc,cc = codeOf 1:=⟨_,rfl⟩;rw [← hcc] at HV;have ev:=(HE.out.below HB.out).v1;have evl:=cell_lt ev;obtain ⟨k0,k1,k2,k3,k4,k5⟩:=cs6 Bk.out;have ltk_1:=lt_of_some Bk.out;go_wp2_with fail;refine (refused_any E 1 cc hcc _ (HE.out.below HB.out) (by first | decide | omega)).mono ?_;rintro e w2 ⟨rfl,hb⟩;clear k0 k1 k2 k3 k4 k5 ltk_1;replace Bk:=upK Bk hb;replace Br:=upK Br hb;replace HB:=upB HB hb;clear hb;clear hcc;obtain ⟨r0,r1,r2,r3,r4,r5,r6,r7⟩:=cs8 Br.out;have ltr_2:=lt_of_some Br.out;have fr0:=froK Br.out 0;have fr1:=froK Br.out 1;have fr2:=froK Br.out 2;have fr3:=froK Br.out 3;have fr4:=froK Br.out 4;have fr5:=froK Br.out 5;have fr6:=froK Br.out 6;have fr7:=froK Br.out 7;have hrl : w.heap.size + 1 < w2.heap.size:=lt_of_some Br.out
  go_wp2
  exact bodyPost_ret (v:=.agg #[.slice none 0 0,.slice none 0 0,.slice none 0 0,.slice none 0 0,.slice none 0 0,.int .i64 0,.string ⟨#[]⟩,.int .i64 cc]) (by simp [results,Tryz.results18,go_sem, *]) rfl ⟨ad0,co0 cc,rfl,HV.out,own0 _ _,set_below (show w.heap.size ≤ w.heap.size + 1 by omega) (set_below (show w.heap.size ≤ w.heap.size + 1 by omega) (set_below (show w.heap.size ≤ w.heap.size + 1 by omega) (set_below (show w.heap.size ≤ w.heap.size + 1 by omega) (set_below (show w.heap.size ≤ w.heap.size + 1 by omega) (set_below (show w.heap.size ≤ w.heap.size + 1 by omega) (set_below (show w.heap.size ≤ w.heap.size + 1 by omega) (set_below (show w.heap.size ≤ w.heap.size + 1 by omega) (HB.out))))))))⟩
 have HT:=hidK (HI.out.1 (by first | trivial | rfl));clear HI;obtain ⟨k0,k1,k2,k3,k4,k5⟩:=cs6 Bk.out;have ltk_1:=lt_of_some Bk.out;go_wp2_with fail;refine (iexc_any d c _ (HR.out.below HB.out) HT.out).mono ?_;rintro e w2 ⟨ea,el,ec,es,rfl,ho,hrq,hmem,hle,hb⟩;clear k0 k1 k2 k3 k4 k5 ltk_1;replace Bk:=upK Bk hb;replace Br:=upK Br hb;replace HB:=upB HB hb;clear hb;have HER:=hidK ho.row
 have hel : es.length = el:=by simpa using ho.row.1
 have HES:=hidK (And.intro hrq hmem);clear ho hrq hmem
 by_cases he0 : 0 < el
 ·have hei : (0 : Int) < el:=by omega
  obtain ⟨b,o,y,rfl,hbl,hy,hat⟩:=qd_at HER.out he0;obtain ⟨-,-,hc0,hc1⟩:=qd_cells hat;have HY0:=hidK hy;obtain ⟨i,x,hv,hvn,hvd⟩:=xn_has ((HES.out.2 y).1 (List.mem_of_getElem? hy));have HV0:=hidK hv;have HVN:=hidK hvn;have HVD:=hidK hvd
  have hc0' : w2.cell? ⟨b,o,none⟩ = some (.string y.n):=by simpa using hc0
  have hc1' : w2.cell? ⟨b,o + 1,none⟩ = some (.string y.d):=by simpa using hc1
  have HYN:=hidK hc0';have HY1:=hidK hc1';have HYB:=hidK hbl;clear hat hy hv hvn hvd hc0 hc1 hc0' hc1' hbl;obtain ⟨k0,k1,k2,k3,k4,k5⟩:=cs6 Bk.out;have ltk_2:=lt_of_some Bk.out;go_wp2_with fail;clear k0 k1 k2 k3 k4 k5 ltk_2;rename_i K0 hK0;refine Gs.wp_region_grow_last (SR:=Gs.Form w2) 4 (PsV w2 w x) (PsV.mono w2 w x) (fun h => h.low) (by kernel_rfl) rfl rfl (by kernel_rfl) ?_;refine' Gs.Grow.stepC _ rfl ?_ ?_;rotate_left 1
  ·refine Obl.plain rfl ?_;intro ac wg K hsz hW hf hK;clear hsz;have e1:=hf 1 (by decide)
   simp [slotFact,List.lookup] at e1
   clear hf;obtain ⟨d0,d1,d2,d3,d4,d5⟩:=cs6 ((hW.block _ (lt_of_some Bk.out)).trans Bk.out);go_simp;refine hK _ _ (Below.refl _ _) ?_;with_reducible rfl
  refine' Gs.Grow.stepC _ rfl ?_ ?_;rotate_left 1
  ·refine Obl.plain rfl ?_;intro ac wg K hsz hW hf hK;clear hsz;have e3:=hf 3 (by decide)
   simp [slotFact,List.lookup] at e3
   clear hf;go_simp;refine hK _ _ (Below.refl _ _) ?_;with_reducible rfl
  refine' Gs.Grow.stepC _ rfl ?_ ?_;rotate_left 1
  ·refine Obl.plain rfl ?_;intro ac wg K hsz hW hf hK;clear hsz;have e21:=hf 21 (by decide)
   simp [slotFact,List.lookup] at e21
   clear hf;go_simp;refine hK _ _ (Below.refl _ _) ?_;with_reducible rfl
  refine' Gs.Grow.stepC _ rfl ?_ ?_;rotate_left 1
  ·refine Obl.plain rfl ?_;intro ac wg K hsz hW hf hK;clear hsz;have e22:=hf 22 (by decide)
   simp [slotFact,List.lookup] at e22
   clear hf;go_simp;refine hK _ _ (Below.refl _ _) ?_;with_reducible rfl
  refine' Gs.Grow.stepC _ rfl ?_ ?_;rotate_left 1
  ·refine Obl.plain rfl ?_;intro ac wg K hsz hW hf hK;clear hsz;have e23:=hf 23 (by decide)
   simp [slotFact,List.lookup] at e23
   clear hf;have c7:=(cell_below hW HYB.out).trans HYN.out;go_simp;refine hK _ _ (Below.refl _ _) ?_;with_reducible rfl
  refine Gs.Grow.step (VtF w x) rfl (VtF.mono _ w x) ?_ ?_
  ·refine Obl.plain rfl ?_;intro ac wg K hsz hW hf hK;clear hsz;have e20:=hf 20 (by decide)
   simp [slotFact,List.lookup] at e20
   have e24:=hf 24 (by decide)
   simp [slotFact,List.lookup] at e24
   clear hf;go_simp;refine (thevd_any d c.now c.vs y.n w _ HR.out.v (HB.out.trans (hW.mono HB.out.size))).mono ?_;rintro e w6 ⟨hb6,hf⟩;have hit9:=hit_at HT.out.2.1.2.2.1.2.2 HV0.out HVN.out
   rcases hf with ⟨hh,n9,va,vl,vc,hx,hn9,rfl,-,-,-,-,hrow⟩ | ⟨hh,rfl⟩
   rotate_left
   ·rw [hit9.2] at hh
    cases hh
   obtain ⟨-,rfl⟩:=HT.out.2.1.2.2.1.2.2.inj HV0.out hx (HVN.out.trans hn9.symm);exact hK _ _ hb6 ⟨va,vl,vc,rfl,hrow⟩
  refine Gs.Grow.step (VtF w x) rfl (VtF.mono _ w x) ?_ ?_
  ·refine Obl.plain rfl ?_;intro ac wg K hsz hW hf hK;clear hsz;have e25:=hf 25 (by decide)
   simp [slotFact,List.lookup] at e25
   clear hf;obtain ⟨va,vl,vc,e25,hrow⟩:=e25;go_simp;exact hK _ _ (Below.refl _ _) ⟨va,vl,vc,rfl,hrow⟩
  refine Gs.Grow.step (VaF w x) rfl (VaF.mono _ w x) ?_ ?_
  ·refine Obl.plain rfl ?_;intro ac wg K hsz hW hf hK;clear hsz;have e19:=hf 19 (by decide)
   simp [slotFact,List.lookup] at e19
   clear hf;obtain ⟨va,vl,vc,e19,hrow⟩:=e19;go_simp;exact hK _ _ (Below.refl _ _) ⟨va,vl,vc,rfl,hrow⟩
  refine' Gs.Grow.stepC (.bool true) rfl ?_ ?_
  ·refine Obl.plain rfl ?_;intro ac wg K hsz hW hf hK;clear hsz;have e19:=hf 19 (by decide)
   simp [slotFact,List.lookup] at e19
   obtain ⟨va,vl,vc,e19,-⟩:=e19;clear hf;go_simp;refine hK _ _ (Below.refl _ _) ?_;with_reducible rfl
  refine Gs.Grow.step (New8 w2 81) rfl (New8.mono w2 81) ?_ ?_
  ·refine Obl.plain rfl ?_;intro ac wg K hsz hW hf hK;clear hsz;clear hf;go_simp;exact hK _ _ (below1 _ _) ⟨_,_,_,_,_,_,_,_,_,rfl,hW.size,Array.getElem?_push_size⟩
  refine Gs.Grow.store rfl ?_ ?_
  ·refine Gs.StObl.plain rfl ?_;intro ac wg K hsz hW hf hK;clear hsz;have e4:=hf 4 (by decide)
   simp [slotFact,List.lookup] at e4
   have e26:=hf 26 (by decide)
   simp [slotFact,List.lookup] at e26
   clear hf;obtain ⟨g,c0,c1,c2,c3,c4,c5,c6,c7,e4,hgB,hgk⟩:=e4;obtain ⟨va,vl,vc,e26,hrow⟩:=e26;have HGK:=hidK hgk;have HRO:=hidK hrow;obtain ⟨g0,g1,g2,g3,g4,g5,g6,g7⟩:=cs8 hgk;have fg0:=froK hgk 0;have fg1:=froK hgk 1;have fg2:=froK hgk 2;have fg3:=froK hgk 3;have fg4:=froK hgk 4;have fg5:=froK hgk 5;have fg6:=froK hgk 6;have fg7:=froK hgk 7;have hgl:=lt_of_some hgk;have EP:=hidK e4;clear hgk hrow;go_simp;refine hK undef _ ?_ ?_
   ·exact form_set hgB (form_set hgB (form_set hgB (form_set hgB (form_set hgB (form_set hgB (form_set hgB (form_set hgB (form_refl _ _))))))))
   ·exact ⟨g,va,vl,vc,by simpa using EP.out,hgB,HRO.out,set8 HGK.out _ _ _ _ _ _ _ _⟩
  refine Gs.Grow.done ?_;intro q wz hW hf hps;simp only [List.forall_mem_cons] at hf;obtain ⟨-,h27,-,-,-,h24,h23,h22,h21,h20,-⟩:=hf
  have hps2 : PsV w2 w x (q 4) wz:=by simpa [putsAll,Act.put] using hps
  obtain ⟨g,va,vl,vc,hv4,hgB,hrow,hblk⟩:=hps2;have HWZ:=hidK hW;have HRO:=hidK hrow;have HGV:=hidK hblk;clear hps hrow hblk;intro K hK;rw [if_pos (by rfl)];simp only [putsAll,List.foldr,Act.put,List.setIfInBounds_toArray,List.set_cons_zero,List.set_cons_succ,h27,h24,h23,h22,h21,h20,hv4];simp only [List.getLast];go_simp;refine hK _ _ ?_;refine hK0 _ _ ?_;clear hK hK0 K K0;have BkZ:=upK Bk HWZ.out;have BrZ:=upK Br HWZ.out;have HBZ:=hidK (HB.out.trans (HWZ.out.mono HB.out.size));have HYZ:=hidK ((cell_below HWZ.out HYB.out).trans HY1.out);have HYBZ : Hid (b < wz.heap.size):=Nat.lt_of_lt_of_le HYB.out HWZ.out.size;have HRZ:=hidK (HR.out.below HBZ.out);have HROZ:=hidK (HRO.out.below HBZ.out);have hvk:=HT.out.2.1.2.2.1.2.1 i x HV0.out
  have z0 : (onV x (wo (fun s : ByteArray => s) y.d x.zs)).n.size ≤ 9223372036854775807:=by have h1:=hvk.1.2.1;show x.n.size ≤ _;omega
  have z2 : (onV x (wo (fun s : ByteArray => s) y.d x.zs)).z.size ≤ 9223372036854775807:=by have h1:=hvk.2.2.1.2.1;show x.z.size ≤ _;omega
  have z3 : (onV x (wo (fun s : ByteArray => s) y.d x.zs)).k.size ≤ 9223372036854775807:=by have h1:=hvk.2.2.2.1.2.1;show x.k.size ≤ _;omega
  have z5 : (onV x (wo (fun s : ByteArray => s) y.d x.zs)).m.size ≤ 9223372036854775807:=by
   show x.m.size ≤ _
   rcases hvk.2.2.2.2.1 with h1 | h1
   ·rw [h1];decide
   ·have h2:=h1.2.1;omega
  have hn20 : x.n.size ≤ 20:=hvk.1.2.1;have HL3 : Hid ((⟨#[111,102,102]⟩ : ByteArray).size ≤ 3):=(by decide : (⟨#[111,102,102]⟩ : ByteArray).size ≤ 3)
  have hvl : vl ≤ 64:=by have h1 : x.zs.length = vl:=HRO.out.1;have:=(HT.out.on HV0.out).1;omega
  have hzl : ((wo (fun s : ByteArray => s) y.d x.zs)).length ≤ 7:=Nat.le_trans (List.length_filter_le _ _) (by have:=(HT.out.on HV0.out).1;omega);have HZ:=hidK (And.intro z0 (And.intro z2 (And.intro z3 z5)));have hq1 : w.heap.size + 1 < wz.heap.size:=lt_of_some BrZ.out;clear hvk z0 z2 z3 z5;go_wp2_with fail;rename_i K0 hK0;refine wp_region_grow_last (by kernel_rfl) rfl rfl (by kernel_rfl) ?_;refine' Grow.stepC _ rfl ?_ ?_;rotate_left 1
  ·refine Obl.plain rfl ?_;intro ac wg K hsz hW hf hK;clear hsz;have e1:=hf 1 (by decide)
   simp [slotFact,List.lookup] at e1
   clear hf;obtain ⟨d0,d1,d2,d3,d4,d5⟩:=cs6 ((hW.block _ (lt_of_some BkZ.out)).trans BkZ.out);go_simp;refine hK _ _ (Below.refl _ _) ?_;with_reducible rfl
  refine' Grow.stepC _ rfl ?_ ?_;rotate_left 1
  ·refine Obl.plain rfl ?_;intro ac wg K hsz hW hf hK;clear hsz;have e4:=hf 4 (by decide)
   simp [slotFact,List.lookup] at e4
   clear hf;obtain ⟨e0,e1,e2,e3,e4,e5,e6,e7⟩:=cs8 ((hW.block _ (lt_of_some HGV.out)).trans HGV.out);go_simp;refine hK _ _ (Below.refl _ _) ?_;with_reducible rfl
  refine' Grow.stepC _ rfl ?_ ?_;rotate_left 1
  ·refine Obl.plain rfl ?_;intro ac wg K hsz hW hf hK;clear hsz;have e4:=hf 4 (by decide)
   simp [slotFact,List.lookup] at e4
   clear hf;go_simp;refine hK _ _ (Below.refl _ _) ?_;with_reducible rfl
  refine' Grow.stepC _ rfl ?_ ?_;rotate_left 1
  ·refine Obl.plain rfl ?_;intro ac wg K hsz hW hf hK;clear hsz;have e30:=hf 30 (by decide)
   simp [slotFact,List.lookup] at e30
   clear hf;obtain ⟨e0,e1,e2,e3,e4,e5,e6,e7⟩:=cs8 ((hW.block _ (lt_of_some HGV.out)).trans HGV.out);go_simp;refine hK _ _ (Below.refl _ _) ?_;with_reducible rfl
  refine' Grow.stepC _ rfl ?_ ?_;rotate_left 1
  ·refine Obl.plain rfl ?_;intro ac wg K hsz hW hf hK;clear hsz;have e3:=hf 3 (by decide)
   simp [slotFact,List.lookup] at e3
   clear hf;go_simp;refine hK _ _ (Below.refl _ _) ?_;with_reducible rfl
  refine' Grow.stepC _ rfl ?_ ?_;rotate_left 1
  ·refine Obl.plain rfl ?_;intro ac wg K hsz hW hf hK;clear hsz;have e32:=hf 32 (by decide)
   simp [slotFact,List.lookup] at e32
   clear hf;go_simp;refine hK _ _ (Below.refl _ _) ?_;with_reducible rfl
  refine' Grow.stepC _ rfl ?_ ?_;rotate_left 1
  ·refine Obl.plain rfl ?_;intro ac wg K hsz hW hf hK;clear hsz;have e33:=hf 33 (by decide)
   simp [slotFact,List.lookup] at e33
   clear hf;go_simp;refine hK _ _ (Below.refl _ _) ?_;with_reducible rfl
  refine' Grow.stepC _ rfl ?_ ?_;rotate_left 1
  ·refine Obl.plain rfl ?_;intro ac wg K hsz hW hf hK;clear hsz;have e34:=hf 34 (by decide)
   simp [slotFact,List.lookup] at e34
   clear hf;have c7:=(cell_below hW HYBZ.out).trans HYZ.out;go_simp;refine hK _ _ (Below.refl _ _) ?_;with_reducible rfl
  refine Grow.step (TxW ((wo (fun s : ByteArray => s) y.d x.zs))) rfl (TxW.mono _) ?_ ?_
  ·refine Obl.plain rfl ?_;intro ac wg K hsz hW hf hK;clear hsz;have e31:=hf 31 (by decide)
   simp [slotFact,List.lookup] at e31
   have e35:=hf 35 (by decide)
   simp [slotFact,List.lookup] at e35
   clear hf;go_simp;refine (itakeT_any va vl vc x.zs y.d _ (HROZ.out.below hW) (rising_rt (HT.out.on HV0.out).2) hvl HVD.out).mono ?_;rintro e w6 ⟨ta,tl,tc,rfl,htx,hb6⟩;exact hK _ _ hb6 ⟨ta,tl,tc,rfl,htx⟩
  refine Grow.step (WonF wz (volC c i (onV x ((wo (fun s : ByteArray => s) y.d x.zs))))) rfl (WonF.mono _ _) ?_ ?_
  ·refine Obl.plain rfl ?_;intro ac wg K hsz hW hf hK;clear hsz;have e28:=hf 28 (by decide)
   simp [slotFact,List.lookup] at e28
   have e29:=hf 29 (by decide)
   simp [slotFact,List.lookup] at e29
   have e36:=hf 36 (by decide)
   simp [slotFact,List.lookup] at e36
   clear hf;obtain ⟨ta,tl,tc,e36,htx⟩:=e36;go_simp
   have htl : tl ≤ 8001:=by have h1 : ((wo (fun s : ByteArray => s) y.d x.zs)).length = tl:=htx.1;omega
   refine (iwon_any d c (onV x ((wo (fun s : ByteArray => s) y.d x.zs))) va vl vc ta tl tc _ (HRZ.out.below hW) HT.out.sm htx htl HZ.out.1 HZ.out.2.1 HZ.out.2.2.1 HZ.out.2.2.2).mono ?_;rintro e w6 ⟨d',rfl,ho6,hb6⟩;rw [volC_put HT.out HV0.out] at ho6;have hs6:=hW.size;exact hK _ _ hb6 ⟨d',rfl,ho6.into (fun k _ s => by have s1 : wg.heap.size ≤ k:=s;show wz.heap.size ≤ k;omega)⟩
  refine' Grow.stepC _ rfl ?_ ?_;rotate_left 1
  ·refine Obl.plain rfl ?_;intro ac wg K hsz hW hf hK;clear hsz;have e4:=hf 4 (by decide)
   simp [slotFact,List.lookup] at e4
   clear hf;go_simp;refine hK _ _ (Below.refl _ _) ?_;with_reducible rfl
  refine' Grow.stepC _ rfl ?_ ?_;rotate_left 1
  ·refine Obl.plain rfl ?_;intro ac wg K hsz hW hf hK;clear hsz;have e38:=hf 38 (by decide)
   simp [slotFact,List.lookup] at e38
   clear hf;obtain ⟨e0,e1,e2,e3,e4,e5,e6,e7⟩:=cs8 ((hW.block _ (lt_of_some HGV.out)).trans HGV.out);go_simp;refine hK _ _ (Below.refl _ _) ?_;with_reducible rfl
  refine Grow.step (Laid2 ⟨#[111,102,102]⟩ x.n) rfl (Laid2.mono _ _) ?_ ?_
  ·refine Obl.plain rfl ?_;intro ac wg K hsz hW hf hK;clear hsz;have e39:=hf 39 (by decide)
   simp [slotFact,List.lookup] at e39
   clear hf;go_simp;exact hK _ _ (below1 _ _) ⟨_,rfl,Array.getElem?_push_size⟩
  refine' Grow.stepC (.string (wOff ++ x.n)) rfl ?_ ?_
  ·refine Obl.plain rfl ?_;intro ac wg K hsz hW hf hK;clear hsz;have e40:=hf 40 (by decide)
   simp [slotFact,List.lookup] at e40
   obtain ⟨lb,e40,hlb⟩:=e40;clear hf;go_simp
   refine (worded_any lb 0 2 [⟨#[111,102,102]⟩,x.n] 2 _ (fun j z hz => by
    rw [Nat.zero_add,cellK hlb]
    rcases j with _ | _ | j
    ·cases hz;rfl
    ·cases hz;rfl
    ·simp at hz) (lt_of_some hlb) rfl (by decide) (Nat.le_refl _) (by rw [words2_len];have h9:=HL3.out;omega)).mono ?_
   rintro e w6 ⟨rfl,hb6⟩;refine hK _ _ hb6 ?_;rw [words_off]
  refine Grow.step (CouF wz (volC c i (onV x ((wo (fun s : ByteArray => s) y.d x.zs)))) (wOff ++ x.n)) rfl (CouF.mono _ _ _) ?_ ?_
  ·refine Obl.plain rfl ?_;intro ac wg K hsz hW hf hK;clear hsz;have e37:=hf 37 (by decide)
   simp [slotFact,List.lookup] at e37
   have e41:=hf 41 (by decide)
   simp [slotFact,List.lookup] at e41
   clear hf;obtain ⟨d',e37,ho⟩:=e37;go_simp;exact hK _ _ (Below.refl _ _) ⟨d',rfl,ho⟩
  refine Grow.done ?_;intro q wy hW hf;simp only [List.forall_mem_cons] at hf;obtain ⟨h42,h41,-,h39,h38,-,-,h35,h34,h33,h32,h31,h30,h29,h28,-⟩:=hf;obtain ⟨d',hv9,ho⟩:=h42;have HO:=hidK ho;have HWY:=hidK hW;have Br6:=upK BrZ hW;obtain ⟨r0,r1,r2,r3,r4,r5,r6,r7⟩:=cs8 Br6.out;have fr0:=froK Br6.out 0;have fr1:=froK Br6.out 1;have fr2:=froK Br6.out 2;have fr3:=froK Br6.out 3;have fr4:=froK Br6.out 4;have fr5:=froK Br6.out 5;have fr6:=froK Br6.out 6;have fr7:=froK Br6.out 7;have hrl:=lt_of_some Br6.out;clear ho;intro K hK;rw [if_pos (by rfl)];simp only [putsAll,List.foldr,Act.put,List.setIfInBounds_toArray,List.set_cons_zero,List.set_cons_succ,h41,h39,h38,h35,h34,h33,h32,h31,h30,h29,h28,hv9];simp only [List.getLast];go_simp;refine hK _ _ ?_;refine hK0 _ _ ?_;clear hK hK0 K K0;have HV : Hid (AttIs c ⟨volC c i (onV x ((wo (fun s : ByteArray => s) y.d x.zs))),wOff ++ x.n,0⟩):=.inr (.inl ⟨HT.out,es,y,i,x,HES.out,HY0.out,HV0.out,HVN.out,rfl⟩)
  go_wp2
  refine bodyPost_ret (v:=.agg #[.slice d'.a1 d'.l1 d'.c1,.slice d'.a2 d'.l2 d'.c2,.slice d'.a3 d'.l3 d'.c3,.slice d'.a4 d'.l4 d'.c4,.slice d'.a5 d'.l5 d'.c5,.int .i64 c.now,.string (wOff ++ x.n),.int .i64 0]) (by simp [results,Tryz.results18,go_sem, *];rfl) rfl ⟨d',⟨volC c i (onV x ((wo (fun s : ByteArray => s) y.d x.zs))),wOff ++ x.n,0⟩,rfl,HV.out,?_,set_below (show w.heap.size ≤ w.heap.size + 1 by omega) (set_below (show w.heap.size ≤ w.heap.size + 1 by omega) (set_below (show w.heap.size ≤ w.heap.size + 1 by omega) (set_below (show w.heap.size ≤ w.heap.size + 1 by omega) (set_below (show w.heap.size ≤ w.heap.size + 1 by omega) (set_below (show w.heap.size ≤ w.heap.size + 1 by omega) (set_below (show w.heap.size ≤ w.heap.size + 1 by omega) (set_below (show w.heap.size ≤ w.heap.size + 1 by omega) (HBZ.out.trans (HWY.out.mono HBZ.out.size)))))))))⟩;obtain ⟨P,hP⟩:=HO.out
  exact ⟨P,hP.keep (w':=((((((((wy.setCell ⟨w.heap.size + 1,0,none⟩ (.slice d'.a1 d'.l1 d'.c1)).setCell ⟨w.heap.size + 1,1,none⟩ (.slice d'.a2 d'.l2 d'.c2)).setCell ⟨w.heap.size + 1,2,none⟩ (.slice d'.a3 d'.l3 d'.c3)).setCell ⟨w.heap.size + 1,3,none⟩ (.slice d'.a4 d'.l4 d'.c4)).setCell ⟨w.heap.size + 1,4,none⟩ (.slice d'.a5 d'.l5 d'.c5)).setCell ⟨w.heap.size + 1,5,none⟩ (.int .i64 c.now)).setCell ⟨w.heap.size + 1,6,none⟩ (.string (wOff ++ x.n))).setCell ⟨w.heap.size + 1,7,none⟩ (.int .i64 0))) (fun k hk s => by have s1 : wz.heap.size ≤ k:=s;rw [Below.heap_setCell _ _ _ _ (show k ≠ w.heap.size + 1 by omega),Below.heap_setCell _ _ _ _ (show k ≠ w.heap.size + 1 by omega),Below.heap_setCell _ _ _ _ (show k ≠ w.heap.size + 1 by omega),Below.heap_setCell _ _ _ _ (show k ≠ w.heap.size + 1 by omega),Below.heap_setCell _ _ _ _ (show k ≠ w.heap.size + 1 by omega),Below.heap_setCell _ _ _ _ (show k ≠ w.heap.size + 1 by omega),Below.heap_setCell _ _ _ _ (show k ≠ w.heap.size + 1 by omega),Below.heap_setCell _ _ _ _ (show k ≠ w.heap.size + 1 by omega)]) (fun k _ s => by have s1 : wz.heap.size ≤ k:=s;show w.heap.size ≤ k;omega)⟩
 have hei : ¬ (0 : Int) < el:=by omega
 have HNX : Hid (∀ q,¬ Xn c c.vs.length q):=fun q hq => by
  have h1:=(HES.out.2 q).2 hq;obtain ⟨j,hj⟩:=List.getElem?_of_mem h1;have:=(List.getElem?_eq_some_iff.1 hj).1
  omega
 clear HER HES;obtain ⟨k0,k1,k2,k3,k4,k5⟩:=cs6 Bk.out;have ltk_2:=lt_of_some Bk.out;go_wp2_with fail;refine (ilak_any d c _ (HR.out.below HB.out) HT.out).mono ?_;rintro e w3 ⟨fa,fl,fc,ws,rfl,ho,hrq,hmem,hle2,hb⟩;clear k0 k1 k2 k3 k4 k5 ltk_2;replace Bk:=upK Bk hb;replace Br:=upK Br hb;replace HB:=upB HB hb;clear hb;have HER:=hidK ho
 have hfl : (lakL c ws).length = fl:=by simpa using ho.1
 have HES:=hidK (And.intro hrq hmem);clear ho hrq hmem
 by_cases hf0 : 0 < fl
 ·have hfi : (0 : Int) < fl:=by omega
  obtain ⟨b,o,y,rfl,hbl,hy,hat⟩:=qd_at HER.out hf0;obtain ⟨-,hzd,hc0,hc1⟩:=qd_cells hat;have HY0:=hidK hy;obtain ⟨i,jn,x,n,hv,hvn,-,-⟩:=wn_has HT.out ((HES.out.2 y).1 (lak_mem (List.mem_of_getElem? hy)).1);have HV0:=hidK hv;have HVN:=hidK hvn;have HZD:=hidK hzd
  have hc0' : w3.cell? ⟨b,o,none⟩ = some (.string y.n):=by simpa using hc0
  have hc1' : w3.cell? ⟨b,o + 1,none⟩ = some (.string y.d):=by simpa using hc1
  have HYN:=hidK hc0';have HY1:=hidK hc1';have HYB:=hidK hbl;obtain ⟨ys,hys⟩:=put_ex y.d x.zs;have HPY:=hidK hys;clear hat hy hv hvn hc0 hc1 hc0' hc1' hbl hzd hys;obtain ⟨k0,k1,k2,k3,k4,k5⟩:=cs6 Bk.out;have ltk_3:=lt_of_some Bk.out;go_wp2_with fail;clear k0 k1 k2 k3 k4 k5 ltk_3;rename_i K0 hK0;refine Gs.wp_region_grow_last (SR:=Gs.Form w3) 7 (PsV w3 w x) (PsV.mono w3 w x) (fun h => h.low) (by kernel_rfl) rfl rfl (by kernel_rfl) ?_;refine' Gs.Grow.stepC _ rfl ?_ ?_;rotate_left 1
  ·refine Obl.plain rfl ?_;intro ac wg K hsz hW hf hK;clear hsz;have e1:=hf 1 (by decide)
   simp [slotFact,List.lookup] at e1
   clear hf;obtain ⟨d0,d1,d2,d3,d4,d5⟩:=cs6 ((hW.block _ (lt_of_some Bk.out)).trans Bk.out);go_simp;refine hK _ _ (Below.refl _ _) ?_;with_reducible rfl
  refine' Gs.Grow.stepC _ rfl ?_ ?_;rotate_left 1
  ·refine Obl.plain rfl ?_;intro ac wg K hsz hW hf hK;clear hsz;have e6:=hf 6 (by decide)
   simp [slotFact,List.lookup] at e6
   clear hf;go_simp;refine hK _ _ (Below.refl _ _) ?_;with_reducible rfl
  refine' Gs.Grow.stepC _ rfl ?_ ?_;rotate_left 1
  ·refine Obl.plain rfl ?_;intro ac wg K hsz hW hf hK;clear hsz;have e50:=hf 50 (by decide)
   simp [slotFact,List.lookup] at e50
   clear hf;go_simp;refine hK _ _ (Below.refl _ _) ?_;with_reducible rfl
  refine' Gs.Grow.stepC _ rfl ?_ ?_;rotate_left 1
  ·refine Obl.plain rfl ?_;intro ac wg K hsz hW hf hK;clear hsz;have e51:=hf 51 (by decide)
   simp [slotFact,List.lookup] at e51
   clear hf;go_simp;refine hK _ _ (Below.refl _ _) ?_;with_reducible rfl
  refine' Gs.Grow.stepC _ rfl ?_ ?_;rotate_left 1
  ·refine Obl.plain rfl ?_;intro ac wg K hsz hW hf hK;clear hsz;have e52:=hf 52 (by decide)
   simp [slotFact,List.lookup] at e52
   clear hf;have c7:=(cell_below hW HYB.out).trans HYN.out;go_simp;refine hK _ _ (Below.refl _ _) ?_;with_reducible rfl
  refine Gs.Grow.step (VtF w x) rfl (VtF.mono _ w x) ?_ ?_
  ·refine Obl.plain rfl ?_;intro ac wg K hsz hW hf hK;clear hsz;have e49:=hf 49 (by decide)
   simp [slotFact,List.lookup] at e49
   have e53:=hf 53 (by decide)
   simp [slotFact,List.lookup] at e53
   clear hf;go_simp;refine (thevd_any d c.now c.vs y.n w _ HR.out.v (HB.out.trans (hW.mono HB.out.size))).mono ?_;rintro e w6 ⟨hb6,hf⟩;have hit9:=hit_at HT.out.2.1.2.2.1.2.2 HV0.out HVN.out
   rcases hf with ⟨hh,n9,va,vl,vc,hx,hn9,rfl,-,-,-,-,hrow⟩ | ⟨hh,rfl⟩
   rotate_left
   ·rw [hit9.2] at hh
    cases hh
   obtain ⟨-,rfl⟩:=HT.out.2.1.2.2.1.2.2.inj HV0.out hx (HVN.out.trans hn9.symm);exact hK _ _ hb6 ⟨va,vl,vc,rfl,hrow⟩
  refine Gs.Grow.step (VtF w x) rfl (VtF.mono _ w x) ?_ ?_
  ·refine Obl.plain rfl ?_;intro ac wg K hsz hW hf hK;clear hsz;have e54:=hf 54 (by decide)
   simp [slotFact,List.lookup] at e54
   clear hf;obtain ⟨va,vl,vc,e54,hrow⟩:=e54;go_simp;exact hK _ _ (Below.refl _ _) ⟨va,vl,vc,rfl,hrow⟩
  refine Gs.Grow.step (VaF w x) rfl (VaF.mono _ w x) ?_ ?_
  ·refine Obl.plain rfl ?_;intro ac wg K hsz hW hf hK;clear hsz;have e48:=hf 48 (by decide)
   simp [slotFact,List.lookup] at e48
   clear hf;obtain ⟨va,vl,vc,e48,hrow⟩:=e48;go_simp;exact hK _ _ (Below.refl _ _) ⟨va,vl,vc,rfl,hrow⟩
  refine' Gs.Grow.stepC (.bool true) rfl ?_ ?_
  ·refine Obl.plain rfl ?_;intro ac wg K hsz hW hf hK;clear hsz;have e48:=hf 48 (by decide)
   simp [slotFact,List.lookup] at e48
   obtain ⟨va,vl,vc,e48,-⟩:=e48;clear hf;go_simp;refine hK _ _ (Below.refl _ _) ?_;with_reducible rfl
  refine Gs.Grow.step (New8 w3 81) rfl (New8.mono w3 81) ?_ ?_
  ·refine Obl.plain rfl ?_;intro ac wg K hsz hW hf hK;clear hsz;clear hf;go_simp;exact hK _ _ (below1 _ _) ⟨_,_,_,_,_,_,_,_,_,rfl,hW.size,Array.getElem?_push_size⟩
  refine Gs.Grow.store rfl ?_ ?_
  ·refine Gs.StObl.plain rfl ?_;intro ac wg K hsz hW hf hK;clear hsz;have e7:=hf 7 (by decide)
   simp [slotFact,List.lookup] at e7
   have e55:=hf 55 (by decide)
   simp [slotFact,List.lookup] at e55
   clear hf;obtain ⟨g,c0,c1,c2,c3,c4,c5,c6,c7,e7,hgB,hgk⟩:=e7;obtain ⟨va,vl,vc,e55,hrow⟩:=e55;have HGK:=hidK hgk;have HRO:=hidK hrow;obtain ⟨g0,g1,g2,g3,g4,g5,g6,g7⟩:=cs8 hgk;have fg0:=froK hgk 0;have fg1:=froK hgk 1;have fg2:=froK hgk 2;have fg3:=froK hgk 3;have fg4:=froK hgk 4;have fg5:=froK hgk 5;have fg6:=froK hgk 6;have fg7:=froK hgk 7;have hgl:=lt_of_some hgk;have EP:=hidK e7;clear hgk hrow;go_simp;refine hK undef _ ?_ ?_
   ·exact form_set hgB (form_set hgB (form_set hgB (form_set hgB (form_set hgB (form_set hgB (form_set hgB (form_set hgB (form_refl _ _))))))))
   ·exact ⟨g,va,vl,vc,by simpa using EP.out,hgB,HRO.out,set8 HGK.out _ _ _ _ _ _ _ _⟩
  refine Gs.Grow.done ?_;intro q wz hW hf hps;simp only [List.forall_mem_cons] at hf;obtain ⟨-,h56,-,-,-,h53,h52,h51,h50,h49,-⟩:=hf
  have hps2 : PsV w3 w x (q 7) wz:=by simpa [putsAll,Act.put] using hps
  obtain ⟨g,va,vl,vc,hv7,hgB,hrow,hblk⟩:=hps2;have HWZ:=hidK hW;have HRO:=hidK hrow;have HGV:=hidK hblk;clear hps hrow hblk;intro K hK;rw [if_pos (by rfl)];simp only [putsAll,List.foldr,Act.put,List.setIfInBounds_toArray,List.set_cons_zero,List.set_cons_succ,h56,h53,h52,h51,h50,h49,hv7];simp only [List.getLast];go_simp;refine hK _ _ ?_;refine hK0 _ _ ?_;clear hK hK0 K K0;have BkZ:=upK Bk HWZ.out;have BrZ:=upK Br HWZ.out;have HBZ:=hidK (HB.out.trans (HWZ.out.mono HB.out.size));have HYZ:=hidK ((cell_below HWZ.out HYB.out).trans HY1.out);have HYBZ : Hid (b < wz.heap.size):=Nat.lt_of_lt_of_le HYB.out HWZ.out.size;have HRZ:=hidK (HR.out.below HBZ.out);have HROZ:=hidK (HRO.out.below HBZ.out);have hvk:=HT.out.2.1.2.2.1.2.1 i x HV0.out
  have z0 : (onV x ys).n.size ≤ 9223372036854775807:=by have h1:=hvk.1.2.1;show x.n.size ≤ _;omega
  have z2 : (onV x ys).z.size ≤ 9223372036854775807:=by have h1:=hvk.2.2.1.2.1;show x.z.size ≤ _;omega
  have z3 : (onV x ys).k.size ≤ 9223372036854775807:=by have h1:=hvk.2.2.2.1.2.1;show x.k.size ≤ _;omega
  have z5 : (onV x ys).m.size ≤ 9223372036854775807:=by
   show x.m.size ≤ _
   rcases hvk.2.2.2.2.1 with h1 | h1
   ·rw [h1];decide
   ·have h2:=h1.2.1;omega
  have hn20 : x.n.size ≤ 20:=hvk.1.2.1;have HL3 : Hid ((⟨#[111,110]⟩ : ByteArray).size ≤ 3):=(by decide : (⟨#[111,110]⟩ : ByteArray).size ≤ 3)
  have hvl : vl ≤ 64:=by have h1 : x.zs.length = vl:=HRO.out.1;have:=(HT.out.on HV0.out).1;omega
  have hzl : (ys).length ≤ 7:=by have h1:=HPY.out.len;have:=(HT.out.on HV0.out).1;omega
  have HZ:=hidK (And.intro z0 (And.intro z2 (And.intro z3 z5)));have hq1 : w.heap.size + 1 < wz.heap.size:=lt_of_some BrZ.out;clear hvk z0 z2 z3 z5;go_wp2_with fail;rename_i K0 hK0;refine wp_region_grow_last (by kernel_rfl) rfl rfl (by kernel_rfl) ?_;refine' Grow.stepC _ rfl ?_ ?_;rotate_left 1
  ·refine Obl.plain rfl ?_;intro ac wg K hsz hW hf hK;clear hsz;have e1:=hf 1 (by decide)
   simp [slotFact,List.lookup] at e1
   clear hf;obtain ⟨d0,d1,d2,d3,d4,d5⟩:=cs6 ((hW.block _ (lt_of_some BkZ.out)).trans BkZ.out);go_simp;refine hK _ _ (Below.refl _ _) ?_;with_reducible rfl
  refine' Grow.stepC _ rfl ?_ ?_;rotate_left 1
  ·refine Obl.plain rfl ?_;intro ac wg K hsz hW hf hK;clear hsz;have e7:=hf 7 (by decide)
   simp [slotFact,List.lookup] at e7
   clear hf;obtain ⟨e0,e1,e2,e3,e4,e5,e6,e7⟩:=cs8 ((hW.block _ (lt_of_some HGV.out)).trans HGV.out);go_simp;refine hK _ _ (Below.refl _ _) ?_;with_reducible rfl
  refine' Grow.stepC _ rfl ?_ ?_;rotate_left 1
  ·refine Obl.plain rfl ?_;intro ac wg K hsz hW hf hK;clear hsz;have e7:=hf 7 (by decide)
   simp [slotFact,List.lookup] at e7
   clear hf;go_simp;refine hK _ _ (Below.refl _ _) ?_;with_reducible rfl
  refine' Grow.stepC _ rfl ?_ ?_;rotate_left 1
  ·refine Obl.plain rfl ?_;intro ac wg K hsz hW hf hK;clear hsz;have e59:=hf 59 (by decide)
   simp [slotFact,List.lookup] at e59
   clear hf;obtain ⟨e0,e1,e2,e3,e4,e5,e6,e7⟩:=cs8 ((hW.block _ (lt_of_some HGV.out)).trans HGV.out);go_simp;refine hK _ _ (Below.refl _ _) ?_;with_reducible rfl
  refine' Grow.stepC _ rfl ?_ ?_;rotate_left 1
  ·refine Obl.plain rfl ?_;intro ac wg K hsz hW hf hK;clear hsz;have e6:=hf 6 (by decide)
   simp [slotFact,List.lookup] at e6
   clear hf;go_simp;refine hK _ _ (Below.refl _ _) ?_;with_reducible rfl
  refine' Grow.stepC _ rfl ?_ ?_;rotate_left 1
  ·refine Obl.plain rfl ?_;intro ac wg K hsz hW hf hK;clear hsz;have e61:=hf 61 (by decide)
   simp [slotFact,List.lookup] at e61
   clear hf;go_simp;refine hK _ _ (Below.refl _ _) ?_;with_reducible rfl
  refine' Grow.stepC _ rfl ?_ ?_;rotate_left 1
  ·refine Obl.plain rfl ?_;intro ac wg K hsz hW hf hK;clear hsz;have e62:=hf 62 (by decide)
   simp [slotFact,List.lookup] at e62
   clear hf;go_simp;refine hK _ _ (Below.refl _ _) ?_;with_reducible rfl
  refine' Grow.stepC _ rfl ?_ ?_;rotate_left 1
  ·refine Obl.plain rfl ?_;intro ac wg K hsz hW hf hK;clear hsz;have e63:=hf 63 (by decide)
   simp [slotFact,List.lookup] at e63
   clear hf;have c7:=(cell_below hW HYBZ.out).trans HYZ.out;go_simp;refine hK _ _ (Below.refl _ _) ?_;with_reducible rfl
  refine Grow.step (TxW (ys)) rfl (TxW.mono _) ?_ ?_
  ·refine Obl.plain rfl ?_;intro ac wg K hsz hW hf hK;clear hsz;have e60:=hf 60 (by decide)
   simp [slotFact,List.lookup] at e60
   have e64:=hf 64 (by decide)
   simp [slotFact,List.lookup] at e64
   clear hf;go_simp;refine (iputT_any va vl vc x.zs y.d _ (HROZ.out.below hW) (rising_rt (HT.out.on HV0.out).2) hvl HZD.out).mono ?_;rintro e w6 ⟨ta,tl,tc,ys9,rfl,htx,hput,hb6⟩;have hrt:=rising_rt (HT.out.on HV0.out).2
   obtain rfl : ys9 = ys:=RT.ext (hput.ris hrt) (HPY.out.ris hrt) fun s => by rw [hput.mem,HPY.out.mem]
   exact hK _ _ hb6 ⟨ta,tl,tc,rfl,htx⟩
  refine Grow.step (WonF wz (volC c i (onV x (ys)))) rfl (WonF.mono _ _) ?_ ?_
  ·refine Obl.plain rfl ?_;intro ac wg K hsz hW hf hK;clear hsz;have e57:=hf 57 (by decide)
   simp [slotFact,List.lookup] at e57
   have e58:=hf 58 (by decide)
   simp [slotFact,List.lookup] at e58
   have e65:=hf 65 (by decide)
   simp [slotFact,List.lookup] at e65
   clear hf;obtain ⟨ta,tl,tc,e65,htx⟩:=e65;go_simp
   have htl : tl ≤ 8001:=by have h1 : (ys).length = tl:=htx.1;omega
   refine (iwon_any d c (onV x (ys)) va vl vc ta tl tc _ (HRZ.out.below hW) HT.out.sm htx htl HZ.out.1 HZ.out.2.1 HZ.out.2.2.1 HZ.out.2.2.2).mono ?_;rintro e w6 ⟨d',rfl,ho6,hb6⟩;rw [volC_put HT.out HV0.out] at ho6;have hs6:=hW.size;exact hK _ _ hb6 ⟨d',rfl,ho6.into (fun k _ s => by have s1 : wg.heap.size ≤ k:=s;show wz.heap.size ≤ k;omega)⟩
  refine' Grow.stepC _ rfl ?_ ?_;rotate_left 1
  ·refine Obl.plain rfl ?_;intro ac wg K hsz hW hf hK;clear hsz;have e7:=hf 7 (by decide)
   simp [slotFact,List.lookup] at e7
   clear hf;go_simp;refine hK _ _ (Below.refl _ _) ?_;with_reducible rfl
  refine' Grow.stepC _ rfl ?_ ?_;rotate_left 1
  ·refine Obl.plain rfl ?_;intro ac wg K hsz hW hf hK;clear hsz;have e67:=hf 67 (by decide)
   simp [slotFact,List.lookup] at e67
   clear hf;obtain ⟨e0,e1,e2,e3,e4,e5,e6,e7⟩:=cs8 ((hW.block _ (lt_of_some HGV.out)).trans HGV.out);go_simp;refine hK _ _ (Below.refl _ _) ?_;with_reducible rfl
  refine Grow.step (Laid2 ⟨#[111,110]⟩ x.n) rfl (Laid2.mono _ _) ?_ ?_
  ·refine Obl.plain rfl ?_;intro ac wg K hsz hW hf hK;clear hsz;have e68:=hf 68 (by decide)
   simp [slotFact,List.lookup] at e68
   clear hf;go_simp;exact hK _ _ (below1 _ _) ⟨_,rfl,Array.getElem?_push_size⟩
  refine' Grow.stepC (.string (wOn ++ x.n)) rfl ?_ ?_
  ·refine Obl.plain rfl ?_;intro ac wg K hsz hW hf hK;clear hsz;have e69:=hf 69 (by decide)
   simp [slotFact,List.lookup] at e69
   obtain ⟨lb,e69,hlb⟩:=e69;clear hf;go_simp
   refine (worded_any lb 0 2 [⟨#[111,110]⟩,x.n] 2 _ (fun j z hz => by
    rw [Nat.zero_add,cellK hlb]
    rcases j with _ | _ | j
    ·cases hz;rfl
    ·cases hz;rfl
    ·simp at hz) (lt_of_some hlb) rfl (by decide) (Nat.le_refl _) (by rw [words2_len];have h9:=HL3.out;omega)).mono ?_
   rintro e w6 ⟨rfl,hb6⟩;refine hK _ _ hb6 ?_;rw [words_on]
  refine Grow.step (CouF wz (volC c i (onV x (ys))) (wOn ++ x.n)) rfl (CouF.mono _ _ _) ?_ ?_
  ·refine Obl.plain rfl ?_;intro ac wg K hsz hW hf hK;clear hsz;have e66:=hf 66 (by decide)
   simp [slotFact,List.lookup] at e66
   have e70:=hf 70 (by decide)
   simp [slotFact,List.lookup] at e70
   clear hf;obtain ⟨d',e66,ho⟩:=e66;go_simp;exact hK _ _ (Below.refl _ _) ⟨d',rfl,ho⟩
  refine Grow.done ?_;intro q wy hW hf;simp only [List.forall_mem_cons] at hf;obtain ⟨h71,h70,-,h68,h67,-,-,h64,h63,h62,h61,h60,h59,h58,h57,-⟩:=hf;obtain ⟨d',hv9,ho⟩:=h71;have HO:=hidK ho;have HWY:=hidK hW;have Br6:=upK BrZ hW;obtain ⟨r0,r1,r2,r3,r4,r5,r6,r7⟩:=cs8 Br6.out;have fr0:=froK Br6.out 0;have fr1:=froK Br6.out 1;have fr2:=froK Br6.out 2;have fr3:=froK Br6.out 3;have fr4:=froK Br6.out 4;have fr5:=froK Br6.out 5;have fr6:=froK Br6.out 6;have fr7:=froK Br6.out 7;have hrl:=lt_of_some Br6.out;clear ho;intro K hK;rw [if_pos (by rfl)];simp only [putsAll,List.foldr,Act.put,List.setIfInBounds_toArray,List.set_cons_zero,List.set_cons_succ,h70,h68,h67,h64,h63,h62,h61,h60,h59,h58,h57,hv9];simp only [List.getLast];go_simp;refine hK _ _ ?_;refine hK0 _ _ ?_;clear hK hK0 K K0;have HV : Hid (AttIs c ⟨volC c i (onV x (ys)),wOn ++ x.n,0⟩):=.inr (.inr ⟨HT.out,HNX.out,ws,HES.out,.inl ⟨y,i,x,ys,HY0.out,HV0.out,HVN.out,HPY.out,rfl⟩⟩)
  go_wp2
  refine bodyPost_ret (v:=.agg #[.slice d'.a1 d'.l1 d'.c1,.slice d'.a2 d'.l2 d'.c2,.slice d'.a3 d'.l3 d'.c3,.slice d'.a4 d'.l4 d'.c4,.slice d'.a5 d'.l5 d'.c5,.int .i64 c.now,.string (wOn ++ x.n),.int .i64 0]) (by simp [results,Tryz.results18,go_sem, *];rfl) rfl ⟨d',⟨volC c i (onV x (ys)),wOn ++ x.n,0⟩,rfl,HV.out,?_,set_below (show w.heap.size ≤ w.heap.size + 1 by omega) (set_below (show w.heap.size ≤ w.heap.size + 1 by omega) (set_below (show w.heap.size ≤ w.heap.size + 1 by omega) (set_below (show w.heap.size ≤ w.heap.size + 1 by omega) (set_below (show w.heap.size ≤ w.heap.size + 1 by omega) (set_below (show w.heap.size ≤ w.heap.size + 1 by omega) (set_below (show w.heap.size ≤ w.heap.size + 1 by omega) (set_below (show w.heap.size ≤ w.heap.size + 1 by omega) (HBZ.out.trans (HWY.out.mono HBZ.out.size)))))))))⟩;obtain ⟨P,hP⟩:=HO.out
  exact ⟨P,hP.keep (w':=((((((((wy.setCell ⟨w.heap.size + 1,0,none⟩ (.slice d'.a1 d'.l1 d'.c1)).setCell ⟨w.heap.size + 1,1,none⟩ (.slice d'.a2 d'.l2 d'.c2)).setCell ⟨w.heap.size + 1,2,none⟩ (.slice d'.a3 d'.l3 d'.c3)).setCell ⟨w.heap.size + 1,3,none⟩ (.slice d'.a4 d'.l4 d'.c4)).setCell ⟨w.heap.size + 1,4,none⟩ (.slice d'.a5 d'.l5 d'.c5)).setCell ⟨w.heap.size + 1,5,none⟩ (.int .i64 c.now)).setCell ⟨w.heap.size + 1,6,none⟩ (.string (wOn ++ x.n))).setCell ⟨w.heap.size + 1,7,none⟩ (.int .i64 0))) (fun k hk s => by have s1 : wz.heap.size ≤ k:=s;rw [Below.heap_setCell _ _ _ _ (show k ≠ w.heap.size + 1 by omega),Below.heap_setCell _ _ _ _ (show k ≠ w.heap.size + 1 by omega),Below.heap_setCell _ _ _ _ (show k ≠ w.heap.size + 1 by omega),Below.heap_setCell _ _ _ _ (show k ≠ w.heap.size + 1 by omega),Below.heap_setCell _ _ _ _ (show k ≠ w.heap.size + 1 by omega),Below.heap_setCell _ _ _ _ (show k ≠ w.heap.size + 1 by omega),Below.heap_setCell _ _ _ _ (show k ≠ w.heap.size + 1 by omega),Below.heap_setCell _ _ _ _ (show k ≠ w.heap.size + 1 by omega)]) (fun k _ s => by have s1 : wz.heap.size ≤ k:=s;show w.heap.size ≤ k;omega)⟩
 have hfi : ¬ (0 : Int) < fl:=by omega
 have HV : Hid (AttIs c (co0 (codeOf 2))):=.inr (.inr ⟨HT.out,HNX.out,ws,HES.out,.inr ⟨List.eq_nil_of_length_eq_zero (by omega),rfl⟩⟩);obtain ⟨cc,hcc⟩ : ∃ cc,cc = codeOf 2:=⟨_,rfl⟩;rw [← hcc] at HV;have ev:=(HE.out.below HB.out).v2;have evl:=cell_lt ev;obtain ⟨k0,k1,k2,k3,k4,k5⟩:=cs6 Bk.out;have ltk_3:=lt_of_some Bk.out;go_wp2_with fail;refine (refused_any E 2 cc hcc _ (HE.out.below HB.out) (by first | decide | omega)).mono ?_;rintro e w4 ⟨rfl,hb⟩;clear k0 k1 k2 k3 k4 k5 ltk_3;replace Bk:=upK Bk hb;replace Br:=upK Br hb;replace HB:=upB HB hb;clear hb;clear hcc;obtain ⟨r0,r1,r2,r3,r4,r5,r6,r7⟩:=cs8 Br.out;have ltr_4:=lt_of_some Br.out;have fr0:=froK Br.out 0;have fr1:=froK Br.out 1;have fr2:=froK Br.out 2;have fr3:=froK Br.out 3;have fr4:=froK Br.out 4;have fr5:=froK Br.out 5;have fr6:=froK Br.out 6;have fr7:=froK Br.out 7;have hrl : w.heap.size + 1 < w4.heap.size:=lt_of_some Br.out
 go_wp2
 exact bodyPost_ret (v:=.agg #[.slice none 0 0,.slice none 0 0,.slice none 0 0,.slice none 0 0,.slice none 0 0,.int .i64 0,.string ⟨#[]⟩,.int .i64 cc]) (by simp [results,Tryz.results18,go_sem, *]) rfl ⟨ad0,co0 cc,rfl,HV.out,own0 _ _,set_below (show w.heap.size ≤ w.heap.size + 1 by omega) (set_below (show w.heap.size ≤ w.heap.size + 1 by omega) (set_below (show w.heap.size ≤ w.heap.size + 1 by omega) (set_below (show w.heap.size ≤ w.heap.size + 1 by omega) (set_below (show w.heap.size ≤ w.heap.size + 1 by omega) (set_below (show w.heap.size ≤ w.heap.size + 1 by omega) (set_below (show w.heap.size ≤ w.heap.size + 1 by omega) (set_below (show w.heap.size ≤ w.heap.size + 1 by omega) (HB.out))))))))⟩

def BoxQ (B : Nat) : Fact:=fun v w => ∃ b,v = .pointer (some ⟨b,0,none⟩) ∧ B ≤ b ∧ w.heap[b]? = some (.cells #[.string ⟨#[]⟩,.string ⟨#[]⟩] 63 (0,0))
theorem BoxQ.mono (B : Nat) : Fact.Mono (BoxQ B):=by
 rintro v w w' ⟨b,h1,h2,h3⟩ hb;exact ⟨b,h1,h2,(hb.block _ (lt_of_some h3)).trans h3⟩
theorem name_neE {x : ByteArray} (h : NameOk x) : ¬ x = ⟨#[]⟩:=fun e => by
 rw [e] at h;have h8:=h.1
 revert h8
 decide
theorem wn_wnt {c : Cl} (hT : RightI c) {k : Nat} {v : Vd} {t : ByteArray} (hj : c.vs[k]? = some v) (ht : ¬ t = ⟨#[]⟩) : Wn c c.ps.length ⟨v.n,t⟩ ↔ Wnt c v t:=by
 have hv:=hT.2.1.2.2.1.2.2
 constructor
 ·rintro ⟨j,p,_,hp,hd,i,s,v',hs,⟨i1,jv,x,h1,h2,h3,h4⟩,e⟩;obtain ⟨e1,e2⟩:=Qd.mk.inj e;obtain ⟨-,rfl⟩:=hv.inj hj h3 e1
  have hne : ¬ x.v = ⟨#[]⟩:=by rw [← h4];exact name_neE (hT.2.1.2.2.1.2.1 _ v hj).1
  obtain ⟨i',j',x',v',k1,k2,k3,k4,k5,k6,_⟩:=(hT.2.2.1.2 i1 x h1).2.resolve_left hne;obtain ⟨_,rfl⟩:=hv.inj k3 hj (k4.trans h4.symm);refine ⟨j,p,hp,e2.symm,i,?_⟩;rw [hs,k6,h2]
 ·rintro ⟨j,p,hp,hd,i,hk⟩;have hz:=(hT.2.1.2.2.2.2.2.1 j p hp).2.2.2.1.2;have hne : ¬ v.m = ⟨#[]⟩:=name_neE (hz i v.m hk).1;obtain ⟨i',j',x',v',k1,k2,k3,k4,k5,k6,_⟩:=(hT.2.2.1.1 k v hj).2.resolve_left hne;exact ⟨j,p,(List.getElem?_eq_some_iff.1 hp).1,hp,by rw [hd];exact ht,i,v.m,v,hk,⟨i',k,x',k1,k2,hj,k5.symm⟩,by rw [hd]⟩

theorem sexc_any (d : Ad) (c : Cl) (w : World) (hr : ClRow w d c.raw) (hT : RightI c) :
  Calls Tryz.prog 48 #[.agg #[.slice d.a1 d.l1 d.c1,.slice d.a2 d.l2 d.c2,.slice d.a3 d.l3 d.c3,.slice d.a4 d.l4 d.c4,.slice d.a5 d.l5 d.c5,.int .i64 c.now]] w (ExcAns c (w.heap.size + 1) w):=by
 obtain ⟨a1,l1,y1,a2,l2,y2,a3,l3,y3,a4,l4,y4,a5,l5,y5⟩:=d;dsimp only;have HR:=hidK hr
 have hl1 : c.ns.length = l1:=by simpa using (show (c.ns.map ndF).length = l1 from hr.n.1)
 have hm1 : l1 ≤ 9223372036854775807:=Nat.le_trans hr.n.2.1 hr.n.2.2.1
 have hl2 : c.ks.length = l2:=by simpa using (show (c.ks.map kdF).length = l2 from hr.k.1)
 have hm2 : l2 ≤ 9223372036854775807:=Nat.le_trans hr.k.2.1 hr.k.2.2.1
 have hl3 : c.vs.length = l3:=by simpa using (show (c.vs.map vdF).length = l3 from hr.v.1)
 have hm3 : l3 ≤ 9223372036854775807:=Nat.le_trans hr.v.2.1 hr.v.2.2.1
 have hl4 : c.xs.length = l4:=by simpa using (show (c.xs.map xdF).length = l4 from hr.x.1)
 have hm4 : l4 ≤ 9223372036854775807:=Nat.le_trans hr.x.2.1 hr.x.2.2.1
 have hl5 : c.ps.length = l5:=by simpa using (show (c.ps.map pdF).length = l5 from hr.p.1)
 have hm5 : l5 ≤ 9223372036854775807:=Nat.le_trans hr.p.2.1 hr.p.2.2.1;clear hr;have HT:=hidK hT;clear hT;have HB:=hidK (Below.refl w.heap.size w)
 have h58 : c.vs.length ≤ 8:=by have:=HT.out.sm.v;omega
 go_enter Tryz.func48,Tryz.ntmps48
 go_wp2_with fail;refine (swan_any ⟨a1,l1,y1,a2,l2,y2,a3,l3,y3,a4,l4,y4,a5,l5,y5⟩ c _ (HR.out.below (HB.out.trans ((below1 _ _).mono HB.out.size))) HT.out).mono ?_;rintro e w0 ⟨wa,wl,wc,zw,rfl,how,hrw,hmw,hlw,hb⟩;obtain ⟨HA0,hbx⟩:=slots1 hb;have Bk:=hidK HA0;replace HB:=upB HB hbx;clear hb hbx HA0;have HOW:=hidK how.row;have HMW:=hidK hmw;clear how hrw hmw hlw;obtain ⟨k0,k1,k2,k3,k4,k5⟩:=cs6 Bk.out;have ltk_1:=lt_of_some Bk.out
 go_wp2
 clear k0 k1 k2 k3 k4 k5 ltk_1;have hs0 : w.heap.size < w0.heap.size:=lt_of_some Bk.out
 go_loopw [4,5] (fun vo vi wr => ∃ (k : Nat) (ca : Option Addr) (cl cc : Nat) (ys : List Qd),k ≤ l3 ∧ vi = .int .i64 k ∧ vo = .slice ca cl cc ∧ Hid (ROwn wr ca cl cc 2 63 (ys.map qdF) (fun j => w.heap.size + 1 ≤ j) ∧ RQ ys ∧ (∀ q,q ∈ ys ↔ Xn c k q) ∧ ys.length ≤ 8 * k) ∧ Hid (Below w0.heap.size w0 wr)) (fun _ vi _ => l3 - (intOf vi).toNat)
 case atStart => exact ⟨0,_,0,0,[],by omega,rfl,rfl,⟨⟨rfl,Nat.le_refl _,by omega,.inl rfl⟩,List.Pairwise.nil,fun q => ⟨fun h => by simp at h,fun ⟨j,p,h,_⟩ => by omega⟩,by simp⟩,below1 _ _⟩
 case round =>
  obtain ⟨k,ca,cl,cc,ys,hk,rfl,rfl,HQ,HL⟩:=hrel;replace Bk:=hidK ((HL.out.block w.heap.size hs0).trans Bk.out);replace HB:=hidK (HB.out.trans (HL.out.mono HB.out.size));replace HOW:=hidK (HOW.out.below HL.out);have hLs:=HL.out.size
  by_cases hlt : k < l3
  ·obtain ⟨b,o,x,rfl,hb,hx,hat⟩:=vd_at (HR.out.v.below HB.out) hlt;obtain ⟨va,vl,vc,hvr,z0,z2,z3,z5,c0,c1,c2,c3,c4,c5,c6,c7⟩:=vd_cells hat;have HXx:=hidK hx;have HTx:=hidK hvr;have HZx0:=hidK z0;have HZx2:=hidK z2;have HZx3:=hidK z3;have HZx5:=hidK z5;clear hat hx z0 z2 z3 z5 hvr;have hbw:=hb;clear hb
   have hk1 : (k : Int) < l3:=by omega
   obtain ⟨W1,hW1⟩ : ∃ W1,W1 = wr:=⟨_,rfl⟩;subst hW1;have hxz : x.zs.length = vl:=HTx.out.1
   have hv3 : vl ≤ 8:=by have h9:=(names_six (HT.out.2.1.2.2.1.2.1 k x HXx.out).2.2.2.2.2.2).1;omega
   have hyb:=HQ.out.2.2.2;obtain ⟨k0,k1,k2,k3,k4,k5⟩:=cs6 Bk.out;have ltk_1:=lt_of_some Bk.out
   go_wp2
   clear k0 k1 k2 k3 k4 k5 ltk_1;clear c0 c1 c2 c3 c4 c5 c6 c7 hbw
   go_loopw [4,7] (fun vo vi wr => ∃ (n : Nat) (ca : Option Addr) (cl cc : Nat) (ys : List Qd),n ≤ vl ∧ vi = .int .i64 n ∧ vo = .slice ca cl cc ∧ Hid (ROwn wr ca cl cc 2 63 (ys.map qdF) (fun j => w.heap.size + 1 ≤ j) ∧ RQ ys ∧ (∀ q,q ∈ ys ↔ Xn c k q ∨ Xc c x n q) ∧ ys.length ≤ 8 * k + n) ∧ Hid (Below (W1.heap.size + 1) (W1.alloc (.cells #[.string x.n,.int .i64 x.c,.string x.z,.string x.k,.bool x.x,.string x.m,.bool x.y,.slice va vl vc] 81)) wr)) (fun _ vi _ => vl - (intOf vi).toNat)
   case atStart => exact ⟨0,_,_,_,ys,by omega,rfl,rfl,⟨HQ.out.1.below (below1 _ _),HQ.out.2.1,fun q => by rw [HQ.out.2.2.1];exact ⟨.inl,fun h => h.elim id (fun ⟨i,t,h,_⟩ => by omega)⟩,by omega⟩,Below.refl _ _⟩
   case round =>
    clear HQ hyb;obtain ⟨n,ca,cl,cc,ys,hn,rfl,rfl,HQ,HL2⟩:=hrel;have hbP : Below W1.heap.size W1 wr:=(below1 W1 (.cells #[.string x.n,.int .i64 x.c,.string x.z,.string x.k,.bool x.x,.string x.m,.bool x.y,.slice va vl vc] 81)).trans (HL2.out.mono (by omega));have Bp:=hidK ((HL2.out.block W1.heap.size (by omega)).trans (heap_alloc_new W1 (.cells #[.string x.n,.int .i64 x.c,.string x.z,.string x.k,.bool x.x,.string x.m,.bool x.y,.slice va vl vc] 81)));replace Bk:=upK Bk hbP;replace HB:=upB HB hbP;replace HOW:=hidK (HOW.out.below hbP);have HBP:=hidK hbP;have hs2:=hbP.size
    have hs3 : W1.heap.size + 1 ≤ wr.heap.size:=by have h8:=HL2.out.size;rw [size1] at h8;exact h8
    have hyl : ys.length = cl:=by have h9 : (ys.map qdF).length = cl:=HQ.out.1.1;rw [List.length_map] at h9;exact h9
    have hyb:=HQ.out.2.2.2;clear hbP
    by_cases hlt2 : n < vl
    ·have hk3 : (n : Int) < vl:=by omega
     obtain ⟨b2,o2,t,rfl,hb2,hx2,hc2,hsz2⟩:=(HTx.out.below HBP.out).at hlt2;have HXT:=hidK hx2;obtain ⟨j,nd,hj,hjn,-⟩:=HT.out.2.2.2.2.1.1 k x HXx.out n t hx2
     have HTN : Hid (¬ t = ⟨#[]⟩):=by rw [← hjn];exact name_neE (HT.out.2.1.1.2.1 j nd hj).1
     have HJ:=hidK hj;have HJN:=hidK hjn;have HZT:=hidK hsz2;have HTC:=hidK (And.intro hb2 hc2);clear hj hjn hx2 hsz2 hb2 hc2;obtain ⟨k0,k1,k2,k3,k4,k5⟩:=cs6 Bk.out;have ltk_1:=lt_of_some Bk.out;obtain ⟨p0,p1,p2,p3,p4,p5,p6,p7⟩:=cs8 Bp.out;have ltp_1:=lt_of_some Bp.out;go_wp2_with fail;clear k0 k1 k2 k3 k4 k5 ltk_1 p0 p1 p2 p3 p4 p5 p6 p7 ltp_1;rename_i K0 hK0;refine wp_region_grow_last (by kernel_rfl) rfl rfl (by kernel_rfl) ?_;refine' Grow.stepC _ rfl ?_ ?_;rotate_left 1
     ·refine Obl.plain rfl ?_;intro ac wg K hsz hW hf hK;clear hsz;have e6:=hf 6 (by decide)
      simp [slotFact,List.lookup] at e6
      clear hf;go_simp;refine hK _ _ (Below.refl _ _) ?_;with_reducible rfl
     refine' Grow.stepC _ rfl ?_ ?_;rotate_left 1
     ·refine Obl.plain rfl ?_;intro ac wg K hsz hW hf hK;clear hsz;have e31:=hf 31 (by decide)
      simp [slotFact,List.lookup] at e31
      clear hf;obtain ⟨p0,p1,p2,p3,p4,p5,p6,p7⟩:=cs8 ((hW.block _ (lt_of_some Bp.out)).trans Bp.out);go_simp;refine hK _ _ (Below.refl _ _) ?_;with_reducible rfl
     refine' Grow.stepC _ rfl ?_ ?_;rotate_left 1
     ·refine Obl.plain rfl ?_;intro ac wg K hsz hW hf hK;clear hsz;have e6:=hf 6 (by decide)
      simp [slotFact,List.lookup] at e6
      clear hf;go_simp;refine hK _ _ (Below.refl _ _) ?_;with_reducible rfl
     refine' Grow.stepC _ rfl ?_ ?_;rotate_left 1
     ·refine Obl.plain rfl ?_;intro ac wg K hsz hW hf hK;clear hsz;have e33:=hf 33 (by decide)
      simp [slotFact,List.lookup] at e33
      clear hf;obtain ⟨p0,p1,p2,p3,p4,p5,p6,p7⟩:=cs8 ((hW.block _ (lt_of_some Bp.out)).trans Bp.out);go_simp;refine hK _ _ (Below.refl _ _) ?_;with_reducible rfl
     refine' Grow.stepC _ rfl ?_ ?_;rotate_left 1
     ·refine Obl.plain rfl ?_;intro ac wg K hsz hW hf hK;clear hsz;have e7:=hf 7 (by decide)
      simp [slotFact,List.lookup] at e7
      clear hf;go_simp;refine hK _ _ (Below.refl _ _) ?_;with_reducible rfl
     refine' Grow.stepC _ rfl ?_ ?_;rotate_left 1
     ·refine Obl.plain rfl ?_;intro ac wg K hsz hW hf hK;clear hsz;have e34:=hf 34 (by decide)
      simp [slotFact,List.lookup] at e34
      have e35:=hf 35 (by decide)
      simp [slotFact,List.lookup] at e35
      clear hf
      have hj0 : ¬ (n : Int) < 0:=by omega
      go_simp;refine hK _ _ (Below.refl _ _) ?_;with_reducible rfl
     refine' Grow.stepC _ rfl ?_ ?_;rotate_left 1
     ·refine Obl.plain rfl ?_;intro ac wg K hsz hW hf hK;clear hsz;have e36:=hf 36 (by decide)
      simp [slotFact,List.lookup] at e36
      clear hf;have tc:=(cell_below hW HTC.out.1).trans HTC.out.2;go_simp;refine hK _ _ (Below.refl _ _) ?_;with_reducible rfl
     refine' Grow.stepC _ rfl ?_ ?_;rotate_left 1
     ·refine Obl.plain rfl ?_;intro ac wg K hsz hW hf hK;clear hsz;have e32:=hf 32 (by decide)
      simp [slotFact,List.lookup] at e32
      have e37:=hf 37 (by decide)
      simp [slotFact,List.lookup] at e37
      clear hf;go_simp;refine hK _ _ (Below.refl _ _) ?_;with_reducible rfl
     refine Grow.step (BoxQ wr.heap.size) rfl (BoxQ.mono _) ?_ ?_
     ·refine Obl.plain rfl ?_;intro ac wg K hsz hW hf hK;clear hsz;clear hf;go_simp;exact hK _ _ (below1 _ _) ⟨_,rfl,hW.size,Array.getElem?_push_size⟩
     refine Grow.done ?_;intro q w5 hW hf;simp only [List.forall_mem_cons] at hf;obtain ⟨⟨b9,h8,hb9,hg9⟩,h38,-⟩:=hf;have g0:=hg9;have g1 : (w5.setCell ⟨b9,0,none⟩ (.string x.n)).heap[b9]? = some (.cells #[.string x.n,.string ⟨#[]⟩] 63 (0,0)):=block_set g0 _;have g2 : ((w5.setCell ⟨b9,0,none⟩ (.string x.n)).setCell ⟨b9,1,none⟩ (.string t)).heap[b9]? = some (.cells #[.string x.n,.string t] 63 (0,0)):=block_set g1 _;obtain ⟨t0,t1⟩:=cs2 hg9;have f0:=froK hg9 0;have f1:=froK hg9 1;have Bx:=hidK g2;have HWX : Hid (Below wr.heap.size wr ((w5.setCell ⟨b9,0,none⟩ (.string x.n)).setCell ⟨b9,1,none⟩ (.string t))):=set_below hb9 (set_below hb9 (hW));clear g0 g1 g2 hg9;intro K hK;rw [if_pos (by rfl)];simp only [putsAll,List.foldr,Act.put,List.setIfInBounds_toArray,List.set_cons_zero,List.set_cons_succ,h8,h38];simp only [List.getLast];go_simp;refine hK _ _ ?_;refine hK0 _ _ ?_;clear hK hK0 K K0
     generalize ((w5.setCell ⟨b9,0,none⟩ (.string x.n)).setCell ⟨b9,1,none⟩ (.string t)) = X3 at Bx HWX ⊢
     clear t0 t1 f0 f1 hW h8 h38;have HY2 : Hid (Bw wr X3):=Bw.below (Bw.refl wr) HWX.out;replace HB:=hidK (HB.out.trans (HWX.out.mono HB.out.size));replace HOW:=hidK (HOW.out.below HWX.out);replace Bk:=hidK ((HWX.out.block _ (lt_of_some Bk.out)).trans Bk.out);replace Bp:=hidK ((HWX.out.block _ (lt_of_some Bp.out)).trans Bp.out);clear HWX;obtain ⟨k0,k1,k2,k3,k4,k5⟩:=cs6 Bk.out;have ltk_1:=lt_of_some Bk.out;obtain ⟨p0,p1,p2,p3,p4,p5,p6,p7⟩:=cs8 Bp.out;have ltp_1:=lt_of_some Bp.out;obtain ⟨x0,x1⟩:=cs2 Bx.out;have ltx_1:=lt_of_some Bx.out;go_wp2_with fail;refine (shasQ_any wa wl wc zw ⟨x.n,t⟩ _ HOW.out).mono ?_;rintro e w2 ⟨r,rfl,hi,hb3⟩;clear k0 k1 k2 k3 k4 k5 ltk_1 p0 p1 p2 p3 p4 p5 p6 p7 ltp_1 x0 x1 ltx_1;replace Bk:=upK Bk hb3;replace Bp:=upK Bp hb3;replace Bx:=upK Bx hb3;replace HY2:=hidK (HY2.out.below hb3);replace HOW:=hidK (HOW.out.below hb3);replace HB:=upB HB hb3;clear hb3;have HI:=hidK hi;clear hi
     cases r
     rotate_left
     ·obtain ⟨k0,k1,k2,k3,k4,k5⟩:=cs6 Bk.out;have ltk_2:=lt_of_some Bk.out;obtain ⟨p0,p1,p2,p3,p4,p5,p6,p7⟩:=cs8 Bp.out;have ltp_2:=lt_of_some Bp.out;obtain ⟨x0,x1⟩:=cs2 Bx.out;have ltx_2:=lt_of_some Bx.out
      go_wp2
      refine ⟨⟨n + 1,ca,cl,cc,ys,by omega,by go_num,rfl,⟨HQ.out.1.below HY2.out.out,HQ.out.2.1,fun q => ?_,by omega⟩,HL2.out.trans (HY2.out.out.mono hs3)⟩,by simp [intOf];omega⟩;rw [HQ.out.2.2.1,Xc.no HXT.out (fun h => h.1 ((wn_wnt HT.out HXx.out HTN.out).1 ((HMW.out _).1 (HI.out.1 (by first | trivial | rfl)))))]
     have HNW : Hid (¬ Wnt c x t):=fun h => by have h9:=HI.out.2 ((HMW.out _).2 ((wn_wnt HT.out HXx.out HTN.out).2 h));cases h9
     clear HI;obtain ⟨k0,k1,k2,k3,k4,k5⟩:=cs6 Bk.out;have ltk_2:=lt_of_some Bk.out;obtain ⟨p0,p1,p2,p3,p4,p5,p6,p7⟩:=cs8 Bp.out;have ltp_2:=lt_of_some Bp.out;obtain ⟨x0,x1⟩:=cs2 Bx.out;have ltx_2:=lt_of_some Bx.out;go_wp2_with fail;refine (soff_any ⟨a1,l1,y1,a2,l2,y2,(some ⟨b,o,none⟩),l3,y3,a4,l4,y4,a5,l5,y5⟩ c ⟨x.n,t⟩ j nd _ (HR.out.below HB.out) HT.out HJ.out HJN.out).mono ?_;rintro e w3 ⟨r,rfl,hi,hb3⟩;clear k0 k1 k2 k3 k4 k5 ltk_2 p0 p1 p2 p3 p4 p5 p6 p7 ltp_2 x0 x1 ltx_2;replace Bk:=upK Bk hb3;replace Bp:=upK Bp hb3;replace Bx:=upK Bx hb3;replace HY2:=hidK (HY2.out.below hb3);replace HOW:=hidK (HOW.out.below hb3);replace HB:=upB HB hb3;clear hb3;have HI:=hidK hi;clear hi
     cases r
     ·obtain ⟨k0,k1,k2,k3,k4,k5⟩:=cs6 Bk.out;have ltk_3:=lt_of_some Bk.out;obtain ⟨p0,p1,p2,p3,p4,p5,p6,p7⟩:=cs8 Bp.out;have ltp_3:=lt_of_some Bp.out;obtain ⟨x0,x1⟩:=cs2 Bx.out;have ltx_3:=lt_of_some Bx.out
      go_wp2
      refine ⟨⟨n + 1,ca,cl,cc,ys,by omega,by go_num,rfl,⟨HQ.out.1.below HY2.out.out,HQ.out.2.1,fun q => ?_,by omega⟩,HL2.out.trans (HY2.out.out.mono hs3)⟩,by simp [intOf];omega⟩;rw [HQ.out.2.2.1,Xc.no HXT.out (fun h => by have h9:=HI.out.2 ((Mof.iff HT.out.2.1.1.2.2 HJ.out HJN.out).1 h.2);cases h9)]
     have HMO : Hid (Mof c x t):=(Mof.iff HT.out.2.1.1.2.2 HJ.out HJN.out).2 (HI.out.1 (by first | trivial | rfl));clear HI;obtain ⟨k0,k1,k2,k3,k4,k5⟩:=cs6 Bk.out;have ltk_3:=lt_of_some Bk.out;obtain ⟨p0,p1,p2,p3,p4,p5,p6,p7⟩:=cs8 Bp.out;have ltp_3:=lt_of_some Bp.out;obtain ⟨x0,x1⟩:=cs2 Bx.out;have ltx_3:=lt_of_some Bx.out;go_wp2_with fail;refine (sputQ_any ca cl cc ys ⟨x.n,t⟩ (w.heap.size + 1) _ (HQ.out.1.below HY2.out.out) (by have:=HY2.out.le;omega) (by omega) HZx0.out HZT.out).mono ?_;rintro e w4 ⟨sa,sl,sc,zs2,rfl,ho2,hp2,hb3⟩;clear k0 k1 k2 k3 k4 k5 ltk_3 p0 p1 p2 p3 p4 p5 p6 p7 ltp_3 x0 x1 ltx_3;replace Bk:=upK Bk hb3;replace Bp:=upK Bp hb3;replace Bx:=upK Bx hb3;replace HY2:=hidK (HY2.out.below hb3);replace HOW:=hidK (HOW.out.below hb3);replace HB:=upB HB hb3;clear hb3;have HP2:=hidK hp2;have HO2:=hidK ho2;clear hp2 ho2;obtain ⟨k0,k1,k2,k3,k4,k5⟩:=cs6 Bk.out;have ltk_4:=lt_of_some Bk.out;obtain ⟨p0,p1,p2,p3,p4,p5,p6,p7⟩:=cs8 Bp.out;have ltp_4:=lt_of_some Bp.out;obtain ⟨x0,x1⟩:=cs2 Bx.out;have ltx_4:=lt_of_some Bx.out
     go_wp2
     refine ⟨⟨n + 1,sa,sl,sc,zs2,by omega,by go_num,rfl,⟨HO2.out,HP2.out.ris HQ.out.2.1,fun q => ?_,by have h9:=HP2.out.len;omega⟩,HL2.out.trans (HY2.out.out.mono hs3)⟩,by simp [intOf];omega⟩;rw [HP2.out.mem,HQ.out.2.2.1,Xc.yes HXT.out HNW.out HMO.out,or_assoc]
    have hk3 : ¬ (n : Int) < vl:=by omega
    have hnv : n = vl:=by omega
    obtain ⟨p0,p1,p2,p3,p4,p5,p6,p7⟩:=cs8 Bp.out;have ltp_1:=lt_of_some Bp.out
    go_wp2
    refine ⟨⟨k + 1,ca,cl,cc,ys,by omega,by go_num,rfl,⟨HQ.out.1,HQ.out.2.1,fun q => ?_,by omega⟩,HL.out.trans (HBP.out.mono (by omega))⟩,by simp [intOf];omega⟩;rw [HQ.out.2.2.1,Xn.step HXx.out,hxz,hnv]
  have hk1 : ¬ (k : Int) < l3:=by omega
  have hkl : k = l3:=by omega
  obtain ⟨k0,k1,k2,k3,k4,k5⟩:=cs6 Bk.out;have ltk_1:=lt_of_some Bk.out
  go_wp2
  go_ret;exact ⟨_,_,_,ys,rfl,HQ.out.1,HQ.out.2.1,by rw [hl3,← hkl];exact HQ.out.2.2.1,by have:=HQ.out.2.2.2;omega,HB.out⟩

def BoxV (B : Nat) : Fact:=fun v w => ∃ b,v = .pointer (some ⟨b,0,none⟩) ∧ B ≤ b ∧ w.heap[b]? = some (.cells #[.string ⟨#[]⟩,.int .i64 0,.string ⟨#[]⟩,.string ⟨#[]⟩,.bool false,.string ⟨#[]⟩,.bool false,.slice none 0 0] 81 (0,0))
theorem BoxV.mono (B : Nat) : Fact.Mono (BoxV B):=by
 rintro v w w' ⟨b,h1,h2,h3⟩ hb;exact ⟨b,h1,h2,(hb.block _ (lt_of_some h3)).trans h3⟩

theorem scan_any (d : Ad) (c : Cl) (x : Qd) (i j : Nat) (v : Vd) (n : Nd) (w : World) (hr : ClRow w d c.raw) (hT : RightI c) (hv : c.vs[i]? = some v) (hvn : v.n = x.n) (hn : c.ns[j]? = some n) (hnn : n.n = x.d) :
  Calls Tryz.prog 54 #[.agg #[.slice d.a1 d.l1 d.c1,.slice d.a2 d.l2 d.c2,.slice d.a3 d.l3 d.c3,.slice d.a4 d.l4 d.c4,.slice d.a5 d.l5 d.c5,.int .i64 c.now],.agg #[.string x.n,.string x.d]] w (BoolB (CanN c v n) w):=by
 obtain ⟨a1,l1,y1,a2,l2,y2,a3,l3,y3,a4,l4,y4,a5,l5,y5⟩:=d;dsimp only;have HR:=hidK hr
 have hl1 : c.ns.length = l1:=by simpa using (show (c.ns.map ndF).length = l1 from hr.n.1)
 have hm1 : l1 ≤ 9223372036854775807:=Nat.le_trans hr.n.2.1 hr.n.2.2.1
 have hl2 : c.ks.length = l2:=by simpa using (show (c.ks.map kdF).length = l2 from hr.k.1)
 have hm2 : l2 ≤ 9223372036854775807:=Nat.le_trans hr.k.2.1 hr.k.2.2.1
 have hl3 : c.vs.length = l3:=by simpa using (show (c.vs.map vdF).length = l3 from hr.v.1)
 have hm3 : l3 ≤ 9223372036854775807:=Nat.le_trans hr.v.2.1 hr.v.2.2.1
 have hl4 : c.xs.length = l4:=by simpa using (show (c.xs.map xdF).length = l4 from hr.x.1)
 have hm4 : l4 ≤ 9223372036854775807:=Nat.le_trans hr.x.2.1 hr.x.2.2.1
 have hl5 : c.ps.length = l5:=by simpa using (show (c.ps.map pdF).length = l5 from hr.p.1)
 have hm5 : l5 ≤ 9223372036854775807:=Nat.le_trans hr.p.2.1 hr.p.2.2.1;clear hr;have HT:=hidK hT;have HVI:=hidK hv;have HVN:=hidK hvn;have HN:=hidK hn;have HNN:=hidK hnn;have h8 : c.vs.length ≤ 8:=hT.sm.v
 have hi1 : i < l3:=by have:=(List.getElem?_eq_some_iff.1 hv).1;omega
 have hi2 : (i : Int) < l3:=by omega
 have hi0 : ¬ (i : Int) < 0:=by omega
 have hj1 : j < l1:=by have:=(List.getElem?_eq_some_iff.1 hn).1;omega
 have hj2 : (j : Int) < l1:=by omega
 have hj0 : ¬ (j : Int) < 0:=by omega
 clear hT hn hnn hv hvn;have HB:=hidK (Below.refl w.heap.size w);obtain ⟨b,o,y,rfl,hbl,hy,hat⟩:=vd_at HR.out.v hi1;rw [HVI.out] at hy;obtain rfl:=Option.some.inj hy;obtain ⟨va,vl,vc,hvr,-,-,-,-,d0,d1,d2,d3,d4,d5,d6,d7⟩:=vd_cells hat;have HV:=hidK hvr;have hvl : v.zs.length = vl:=hvr.1;clear hat hy hvr;obtain ⟨b1,o1,y,rfl,hbn,hy,hat⟩:=nd_at HR.out.n hj1;rw [HN.out] at hy;obtain rfl:=Option.some.inj hy;obtain ⟨na,nl,nc,-,-,-,-,-,-,e3,-,-,-⟩:=nd_cells hat;clear hat hy
 go_enter Tryz.func54,Tryz.ntmps54
 go_wp2_with fail;obtain ⟨W,hW0⟩ : ∃ W,W = ((w.alloc (.cells #[.slice (some ⟨b1,o1,none⟩) l1 y1,.slice a2 l2 y2,.slice (some ⟨b,o,none⟩) l3 y3,.slice a4 l4 y4,.slice a5 l5 y5,.int .i64 c.now] 38)).alloc (.cells #[.string x.n,.string x.d] 63)):=⟨_,rfl⟩
 have Bk : Hid (W.heap[w.heap.size]? = some (.cells #[.slice (some ⟨b1,o1,none⟩) l1 y1,.slice a2 l2 y2,.slice (some ⟨b,o,none⟩) l3 y3,.slice a4 l4 y4,.slice a5 l5 y5,.int .i64 c.now] 38 (0,0))):=by rw [hW0];exact heap2_0 _ _ _
 have Bx : Hid (W.heap[w.heap.size + 1]? = some (.cells #[.string x.n,.string x.d] 63 (0,0))):=by rw [hW0];exact heap2_1 _ _ _
 have HBW : Hid (Below w.heap.size w W):=by rw [hW0];exact below2 _ _ _
 have HNC:=hidK (And.intro d0 (And.intro d1 (And.intro d2 (And.intro d3 (And.intro d4 (And.intro d5 (And.intro d6 d7)))))));have HBL:=hidK hbl;have HNS:=hidK (And.intro hbn e3);rw [← hW0];clear hW0 d0 d1 d2 d3 d4 d5 d6 d7 hbl hbn e3;rename_i K0 hK0;refine wp_region_grow_last (by kernel_rfl) rfl rfl (by kernel_rfl) ?_;refine' Grow.stepC _ rfl ?_ ?_;rotate_left 1
 ·refine Obl.plain rfl ?_;intro ac wg K hsz hW hf hK;clear hsz;have e2:=hf 2 (by decide)
  simp [slotFact,List.lookup] at e2
  clear hf;go_simp;refine hK _ _ (Below.refl _ _) ?_;with_reducible rfl
 refine' Grow.stepC _ rfl ?_ ?_;rotate_left 1
 ·refine Obl.plain rfl ?_;intro ac wg K hsz hW hf hK;clear hsz;have e6:=hf 6 (by decide)
  simp [slotFact,List.lookup] at e6
  clear hf;obtain ⟨k0,k1,k2,k3,k4,k5⟩:=cs6 ((hW.block _ (lt_of_some Bk.out)).trans Bk.out);go_simp;refine hK _ _ (Below.refl _ _) ?_;with_reducible rfl
 refine' Grow.stepC _ rfl ?_ ?_;rotate_left 1
 ·refine Obl.plain rfl ?_;intro ac wg K hsz hW hf hK;clear hsz;have e2:=hf 2 (by decide)
  simp [slotFact,List.lookup] at e2
  clear hf;obtain ⟨k0,k1,k2,k3,k4,k5⟩:=cs6 ((hW.block _ (lt_of_some Bk.out)).trans Bk.out);go_simp;refine hK _ _ (Below.refl _ _) ?_;with_reducible rfl
 refine' Grow.stepC _ rfl ?_ ?_;rotate_left 1
 ·refine Obl.plain rfl ?_;intro ac wg K hsz hW hf hK;clear hsz;have e3:=hf 3 (by decide)
  simp [slotFact,List.lookup] at e3
  clear hf;go_simp;refine hK _ _ (Below.refl _ _) ?_;with_reducible rfl
 refine' Grow.stepC _ rfl ?_ ?_;rotate_left 1
 ·refine Obl.plain rfl ?_;intro ac wg K hsz hW hf hK;clear hsz;have e9:=hf 9 (by decide)
  simp [slotFact,List.lookup] at e9
  clear hf;obtain ⟨k0,k1⟩:=cs2 ((hW.block _ (lt_of_some Bx.out)).trans Bx.out);go_simp;refine hK _ _ (Below.refl _ _) ?_;with_reducible rfl
 refine' Grow.stepC (.int .i64 i) rfl ?_ ?_
 ·refine Obl.plain rfl ?_;intro ac wg K hsz hW hf hK;clear hsz;have e8:=hf 8 (by decide)
  simp [slotFact,List.lookup] at e8
  have e10:=hf 10 (by decide)
  simp [slotFact,List.lookup] at e10
  clear hf;go_simp;refine (sxvd_hit ⟨(some ⟨b1,o1,none⟩),l1,y1,a2,l2,y2,(some ⟨b,o,none⟩),l3,y3,a4,l4,y4,a5,l5,y5⟩ c.now c.vs x.n _ (HR.out.v.below (HBW.out.trans (hW.mono HBW.out.size))) HT.out.2.1.2.2.1.2.2 HVI.out HVN.out).mono ?_;rintro e w6 ⟨rfl,hb6⟩;exact hK _ _ hb6 rfl
 refine' Grow.stepC _ rfl ?_ ?_;rotate_left 1
 ·refine Obl.plain rfl ?_;intro ac wg K hsz hW hf hK;clear hsz;have e7:=hf 7 (by decide)
  simp [slotFact,List.lookup] at e7
  have e11:=hf 11 (by decide)
  simp [slotFact,List.lookup] at e11
  clear hf;go_simp;refine hK _ _ (Below.refl _ _) ?_;with_reducible rfl
 refine' Grow.stepC _ rfl ?_ ?_;rotate_left 1
 ·refine Obl.plain rfl ?_;intro ac wg K hsz hW hf hK;clear hsz;have e12:=hf 12 (by decide)
  simp [slotFact,List.lookup] at e12
  clear hf;obtain ⟨d0,d1,d2,d3,d4,d5,d6,d7⟩:=HNC.out;have hbg:=HBW.out.trans (hW.mono HBW.out.size);replace d0:=(cell_below hbg HBL.out).trans d0;replace d1:=(cell_below hbg HBL.out).trans d1;replace d2:=(cell_below hbg HBL.out).trans d2;replace d3:=(cell_below hbg HBL.out).trans d3;replace d4:=(cell_below hbg HBL.out).trans d4;replace d5:=(cell_below hbg HBL.out).trans d5;replace d6:=(cell_below hbg HBL.out).trans d6;replace d7:=(cell_below hbg HBL.out).trans d7;go_simp;refine hK _ _ (Below.refl _ _) ?_;with_reducible rfl
 refine Grow.step (BoxV W.heap.size) rfl (BoxV.mono _) ?_ ?_
 ·refine Obl.plain rfl ?_;intro ac wg K hsz hW hf hK;clear hsz;clear hf;go_simp;exact hK _ _ (below1 _ _) ⟨_,rfl,hW.size,Array.getElem?_push_size⟩
 refine Grow.done ?_;intro q wz hW hf;simp only [List.forall_mem_cons] at hf;obtain ⟨⟨b9,h5,hb9,hg9⟩,h13,-⟩:=hf;have g0:=hg9;have g1 : (wz.setCell ⟨b9,0,none⟩ (.string v.n)).heap[b9]? = some (.cells #[.string v.n,.int .i64 0,.string ⟨#[]⟩,.string ⟨#[]⟩,.bool false,.string ⟨#[]⟩,.bool false,.slice none 0 0] 81 (0,0)):=block_set g0 _;have g2 : ((wz.setCell ⟨b9,0,none⟩ (.string v.n)).setCell ⟨b9,1,none⟩ (.int .i64 v.c)).heap[b9]? = some (.cells #[.string v.n,.int .i64 v.c,.string ⟨#[]⟩,.string ⟨#[]⟩,.bool false,.string ⟨#[]⟩,.bool false,.slice none 0 0] 81 (0,0)):=block_set g1 _;have g3 : (((wz.setCell ⟨b9,0,none⟩ (.string v.n)).setCell ⟨b9,1,none⟩ (.int .i64 v.c)).setCell ⟨b9,2,none⟩ (.string v.z)).heap[b9]? = some (.cells #[.string v.n,.int .i64 v.c,.string v.z,.string ⟨#[]⟩,.bool false,.string ⟨#[]⟩,.bool false,.slice none 0 0] 81 (0,0)):=block_set g2 _;have g4 : ((((wz.setCell ⟨b9,0,none⟩ (.string v.n)).setCell ⟨b9,1,none⟩ (.int .i64 v.c)).setCell ⟨b9,2,none⟩ (.string v.z)).setCell ⟨b9,3,none⟩ (.string v.k)).heap[b9]? = some (.cells #[.string v.n,.int .i64 v.c,.string v.z,.string v.k,.bool false,.string ⟨#[]⟩,.bool false,.slice none 0 0] 81 (0,0)):=block_set g3 _;have g5 : (((((wz.setCell ⟨b9,0,none⟩ (.string v.n)).setCell ⟨b9,1,none⟩ (.int .i64 v.c)).setCell ⟨b9,2,none⟩ (.string v.z)).setCell ⟨b9,3,none⟩ (.string v.k)).setCell ⟨b9,4,none⟩ (.bool v.x)).heap[b9]? = some (.cells #[.string v.n,.int .i64 v.c,.string v.z,.string v.k,.bool v.x,.string ⟨#[]⟩,.bool false,.slice none 0 0] 81 (0,0)):=block_set g4 _
 have g6 : ((((((wz.setCell ⟨b9,0,none⟩ (.string v.n)).setCell ⟨b9,1,none⟩ (.int .i64 v.c)).setCell ⟨b9,2,none⟩ (.string v.z)).setCell ⟨b9,3,none⟩ (.string v.k)).setCell ⟨b9,4,none⟩ (.bool v.x)).setCell ⟨b9,5,none⟩ (.string v.m)).heap[b9]? = some (.cells #[.string v.n,.int .i64 v.c,.string v.z,.string v.k,.bool v.x,.string v.m,.bool false,.slice none 0 0] 81 (0,0)):=block_set g5 _;have g7 : (((((((wz.setCell ⟨b9,0,none⟩ (.string v.n)).setCell ⟨b9,1,none⟩ (.int .i64 v.c)).setCell ⟨b9,2,none⟩ (.string v.z)).setCell ⟨b9,3,none⟩ (.string v.k)).setCell ⟨b9,4,none⟩ (.bool v.x)).setCell ⟨b9,5,none⟩ (.string v.m)).setCell ⟨b9,6,none⟩ (.bool v.y)).heap[b9]? = some (.cells #[.string v.n,.int .i64 v.c,.string v.z,.string v.k,.bool v.x,.string v.m,.bool v.y,.slice none 0 0] 81 (0,0)):=block_set g6 _;have g8 : ((((((((wz.setCell ⟨b9,0,none⟩ (.string v.n)).setCell ⟨b9,1,none⟩ (.int .i64 v.c)).setCell ⟨b9,2,none⟩ (.string v.z)).setCell ⟨b9,3,none⟩ (.string v.k)).setCell ⟨b9,4,none⟩ (.bool v.x)).setCell ⟨b9,5,none⟩ (.string v.m)).setCell ⟨b9,6,none⟩ (.bool v.y)).setCell ⟨b9,7,none⟩ (.slice va vl vc)).heap[b9]? = some (.cells #[.string v.n,.int .i64 v.c,.string v.z,.string v.k,.bool v.x,.string v.m,.bool v.y,.slice va vl vc] 81 (0,0)):=block_set g7 _;obtain ⟨t0,t1,t2,t3,t4,t5,t6,t7⟩:=cs8 hg9;have f0:=froK hg9 0;have f1:=froK hg9 1;have f2:=froK hg9 2;have f3:=froK hg9 3;have f4:=froK hg9 4;have f5:=froK hg9 5;have f6:=froK hg9 6;have f7:=froK hg9 7;have Bv:=hidK g8
 have HWX : Hid (Below W.heap.size W ((((((((wz.setCell ⟨b9,0,none⟩ (.string v.n)).setCell ⟨b9,1,none⟩ (.int .i64 v.c)).setCell ⟨b9,2,none⟩ (.string v.z)).setCell ⟨b9,3,none⟩ (.string v.k)).setCell ⟨b9,4,none⟩ (.bool v.x)).setCell ⟨b9,5,none⟩ (.string v.m)).setCell ⟨b9,6,none⟩ (.bool v.y)).setCell ⟨b9,7,none⟩ (.slice va vl vc))):=set_below hb9 (set_below hb9 (set_below hb9 (set_below hb9 (set_below hb9 (set_below hb9 (set_below hb9 (set_below hb9 (hW))))))));clear g0 g1 g2 g3 g4 g5 g6 g7 g8 hg9;intro K hK;rw [if_pos (by rfl)];simp only [putsAll,List.foldr,Act.put,List.setIfInBounds_toArray,List.set_cons_zero,List.set_cons_succ,h5,h13];simp only [List.getLast];go_simp;refine hK _ _ ?_;refine hK0 _ _ ?_;clear hK hK0 K K0
 generalize ((((((((wz.setCell ⟨b9,0,none⟩ (.string v.n)).setCell ⟨b9,1,none⟩ (.int .i64 v.c)).setCell ⟨b9,2,none⟩ (.string v.z)).setCell ⟨b9,3,none⟩ (.string v.k)).setCell ⟨b9,4,none⟩ (.bool v.x)).setCell ⟨b9,5,none⟩ (.string v.m)).setCell ⟨b9,6,none⟩ (.bool v.y)).setCell ⟨b9,7,none⟩ (.slice va vl vc)) = X3 at Bv HWX ⊢
 clear t0 f0 t1 f1 t2 f2 t3 f3 t4 f4 t5 f5 t6 f6 t7 f7;have HB3:=hidK (HBW.out.trans (HWX.out.mono HBW.out.size));replace Bk:=hidK ((HWX.out.block _ (lt_of_some Bk.out)).trans Bk.out);replace Bx:=hidK ((HWX.out.block _ (lt_of_some Bx.out)).trans Bx.out);clear HB hW HWX HBW HNC HBL;have HB:=HB3;clear HB3;obtain ⟨k0,k1,k2,k3,k4,k5⟩:=cs6 Bk.out;have ltk_0:=lt_of_some Bk.out;obtain ⟨x0,x1⟩:=cs2 Bx.out;have ltx_0:=lt_of_some Bx.out;obtain ⟨v0,v1,v2,v3,v4,v5,v6,v7⟩:=cs8 Bv.out;have ltv_0:=lt_of_some Bv.out;go_wp2_with fail;refine (shas_any va vl vc v.zs x.d _ (HV.out.below HB.out)).mono ?_;rintro e w3 ⟨r,rfl,hi,hb⟩;clear k0 k1 k2 k3 k4 k5 ltk_0 x0 x1 ltx_0 v0 v1 v2 v3 v4 v5 v6 v7 ltv_0;replace Bk:=upK Bk hb;replace Bx:=upK Bx hb;replace Bv:=upK Bv hb;replace HB:=upB HB hb;clear hb;have HI:=hidK hi;clear hi;rw [← HNN.out] at HI
 cases r
 rotate_left
 ·obtain ⟨k0,k1,k2,k3,k4,k5⟩:=cs6 Bk.out;have ltk_1:=lt_of_some Bk.out;obtain ⟨x0,x1⟩:=cs2 Bx.out;have ltx_1:=lt_of_some Bx.out;obtain ⟨v0,v1,v2,v3,v4,v5,v6,v7⟩:=cs8 Bv.out;have ltv_1:=lt_of_some Bv.out
  go_wp2
  go_ret;exact BoolB.f (fun h => h.1 (HI.out.1 (by first | trivial | rfl))) HB.out
 have HNI : Hid (¬ InL v.zs n.n):=fun h => by have h9:=HI.out.2 h;cases h9
 clear HI
 cases hx : v.x
 rotate_left
 ·rw [hx] at Bv;have HX:=hidK hx;clear hx
  by_cases h0 : 0 < vl
  ·have h1 : (0 : Int) < vl:=by omega
   obtain ⟨k0,k1,k2,k3,k4,k5⟩:=cs6 Bk.out;have ltk_1:=lt_of_some Bk.out;obtain ⟨x0,x1⟩:=cs2 Bx.out;have ltx_1:=lt_of_some Bx.out;obtain ⟨v0,v1,v2,v3,v4,v5,v6,v7⟩:=cs8 Bv.out;have ltv_1:=lt_of_some Bv.out
   go_wp2
   go_ret;exact BoolB.f (fun h => h.2.1 ⟨HX.out,by omega⟩) HB.out
  ·have h1 : ¬ (0 : Int) < vl:=by omega
   obtain ⟨k0,k1,k2,k3,k4,k5⟩:=cs6 Bk.out;have ltk_1:=lt_of_some Bk.out;obtain ⟨x0,x1⟩:=cs2 Bx.out;have ltx_1:=lt_of_some Bx.out;obtain ⟨v0,v1,v2,v3,v4,v5,v6,v7⟩:=cs8 Bv.out;have ltv_1:=lt_of_some Bv.out;go_wp2_with fail;have hn9:=(cell_below HB.out HNS.out.1).trans HNS.out.2;clear k0 k1 k2 k3 k4 k5 ltk_1 x0 x1 ltx_1 v0 v1 v2 v3 v4 v5 v6 v7 ltv_1;have Gk:=Bk;have Gx:=Bx;have Gv:=Bv;have HW:=HB;obtain ⟨k0,k1,k2,k3,k4,k5⟩:=sl6 Gk;obtain ⟨x0,x1⟩:=sl2 Gx;obtain ⟨v0,v1,v2,v3,v4,v5,v6,v7⟩:=sl8 Gv;have ns : ∀ q : Wd w3,q.w.cell? ⟨b1,o1 + j * 7 + 3,none⟩ = some (.int .i64 n.s):=fun q => (q.cell (Nat.lt_of_lt_of_le HNS.out.1 HB.out.size)).trans (hn9);have hne0:=Wd.ne w3;have HC0:=hidK (fun q : Wd w3 => son_any ⟨(some ⟨b1,o1,none⟩),l1,y1,a2,l2,y2,(some ⟨b,o,none⟩),l3,y3,a4,l4,y4,a5,l5,y5⟩ c.now c.vs x.d q.w (HR.out.v.below (HW.out.trans (q.b.mono HW.out.size))) h8);have HC1:=hidK (fun q : Wd w3 => sxnd_hit ⟨(some ⟨b1,o1,none⟩),l1,y1,a2,l2,y2,(some ⟨b,o,none⟩),l3,y3,a4,l4,y4,a5,l5,y5⟩ c.now c.ns x.d q.w (HR.out.n.below (HW.out.trans (q.b.mono HW.out.size))) HT.out.2.1.1.2.2 HN.out HNN.out);go_wp2_with fail;refine wp_region_wide (by kernel_rfl) (by kernel_rfl) ?_
   repeat (go_big_quiet_step (first | (go_at_call 104;exact Calls.wide (HC0.out _)) | (go_at_call 105;exact Calls.wide (HC1.out _)) | fail))
   refine wpQuiet_nil ?_;rintro _ ⟨q1,rfl⟩;have HB2:=upB HW q1.b;have Ck:=upK Gk q1.b;have Cx:=upK Gx q1.b;have Cv:=upK Gv q1.b;clear hne0 HW HB HC0 HC1 k0 k1 k2 k3 k4 k5 x0 x1 v0 v1 v2 v3 v4 v5 v6 v7 ns Gk Gx Gv Bk Bx Bv;have HB:=HB2;clear HB2;have Bk:=Ck;clear Ck;have Bx:=Cx;clear Cx;have Bv:=Cv;clear Cv
   go_wp2
   go_ret;exact ⟨_,rfl,by rw [HNN.out.symm];simp only [decide_eq_true_eq];exact ⟨fun h => ⟨HNI.out,(fun h => by omega),h⟩,fun h => h.2.2⟩,HB.out⟩
 ·rw [hx] at Bv;have HX:=hidK hx;clear hx;obtain ⟨k0,k1,k2,k3,k4,k5⟩:=cs6 Bk.out;have ltk_1:=lt_of_some Bk.out;obtain ⟨x0,x1⟩:=cs2 Bx.out;have ltx_1:=lt_of_some Bx.out;obtain ⟨v0,v1,v2,v3,v4,v5,v6,v7⟩:=cs8 Bv.out;have ltv_1:=lt_of_some Bv.out;go_wp2_with fail;have hn9:=(cell_below HB.out HNS.out.1).trans HNS.out.2;clear k0 k1 k2 k3 k4 k5 ltk_1 x0 x1 ltx_1 v0 v1 v2 v3 v4 v5 v6 v7 ltv_1;have Gk:=Bk;have Gx:=Bx;have Gv:=Bv;have HW:=HB;obtain ⟨k0,k1,k2,k3,k4,k5⟩:=sl6 Gk;obtain ⟨x0,x1⟩:=sl2 Gx;obtain ⟨v0,v1,v2,v3,v4,v5,v6,v7⟩:=sl8 Gv;have ns : ∀ q : Wd w3,q.w.cell? ⟨b1,o1 + j * 7 + 3,none⟩ = some (.int .i64 n.s):=fun q => (q.cell (Nat.lt_of_lt_of_le HNS.out.1 HB.out.size)).trans (hn9);have hne0:=Wd.ne w3;have HC0:=hidK (fun q : Wd w3 => son_any ⟨(some ⟨b1,o1,none⟩),l1,y1,a2,l2,y2,(some ⟨b,o,none⟩),l3,y3,a4,l4,y4,a5,l5,y5⟩ c.now c.vs x.d q.w (HR.out.v.below (HW.out.trans (q.b.mono HW.out.size))) h8);have HC1:=hidK (fun q : Wd w3 => sxnd_hit ⟨(some ⟨b1,o1,none⟩),l1,y1,a2,l2,y2,(some ⟨b,o,none⟩),l3,y3,a4,l4,y4,a5,l5,y5⟩ c.now c.ns x.d q.w (HR.out.n.below (HW.out.trans (q.b.mono HW.out.size))) HT.out.2.1.1.2.2 HN.out HNN.out);go_wp2_with fail;refine wp_region_wide (by kernel_rfl) (by kernel_rfl) ?_
  repeat (go_big_quiet_step (first | (go_at_call 104;exact Calls.wide (HC0.out _)) | (go_at_call 105;exact Calls.wide (HC1.out _)) | fail))
  refine wpQuiet_nil ?_;rintro _ ⟨q1,rfl⟩;have HB2:=upB HW q1.b;have Ck:=upK Gk q1.b;have Cx:=upK Gx q1.b;have Cv:=upK Gv q1.b;clear hne0 HW HB HC0 HC1 k0 k1 k2 k3 k4 k5 x0 x1 v0 v1 v2 v3 v4 v5 v6 v7 ns Gk Gx Gv Bk Bx Bv;have HB:=HB2;clear HB2;have Bk:=Ck;clear Ck;have Bx:=Cx;clear Cx;have Bv:=Cv;clear Cv
  go_wp2
  go_ret;exact ⟨_,rfl,by rw [HNN.out.symm];simp only [decide_eq_true_eq];exact ⟨fun h => ⟨HNI.out,(fun h => by have h9:=h.1;rw [HX.out] at h9;cases h9),h⟩,fun h => h.2.2⟩,HB.out⟩

theorem wo_size {w : World} {a : Option Addr} {len cap : Nat} {zs : List ByteArray} {t : ByteArray} (h : TxRow w a len cap zs) (j : Nat) (z : ByteArray) (hz : (wo (fun s : ByteArray => s) t zs)[j]? = some z) : z.size ≤ 9223372036854775807:=by
 have hm:=List.mem_of_getElem? hz;obtain ⟨i,hi⟩:=List.getElem?_of_mem ((List.mem_filter.1 hm).1);obtain ⟨b,o,y,-,-,hy,-,hs⟩:=h.at (k:=i) (by have:=(List.getElem?_eq_some_iff.1 hi).1;have:=h.1;omega);rw [hi] at hy
 cases hy
 exact hs

theorem swoT_any (a : Option Addr) (len cap : Nat) (zs : List ByteArray) (t : ByteArray) (w : World) (hr : TxRow w a len cap zs) (hl : len ≤ 64) :
  Calls Tryz.prog 53 #[.slice a len cap,.string t] w fun e w' => ∃ a' l' c',e = .returned (.slice a' l' c') ∧ TOwn w' a' l' c' (wo (fun s : ByteArray => s) t zs) (fun k => w.heap.size ≤ k) ∧ Below w.heap.size w w':=by
 have HR:=hidK hr;have hzl : zs.length = len:=hr.1;have HB:=hidK (Below.refl w.heap.size w);obtain ⟨i0,hi,hz0,hz1,hz2⟩:=info_parts infoStr;have HI0:=hidK (And.intro hi (And.intro hz0 (And.intro hz1 hz2)));clear hi hz0 hz1 hz2 hr
 go_enter Tryz.func53,Tryz.ntmps53
 go_wp2
 go_loopw [5,6] (fun vo vi wr => ∃ k n : Nat,k ≤ len ∧ n ≤ k ∧ vi = .int .i64 k ∧ Hid (wr.ownsRow w.heap.size 9 1 vo n ((wo (fun s : ByteArray => s) t (zs.take k)).map Value.string)) ∧ Hid (Below w.heap.size w wr)) (fun _ vi _ => len - (intOf vi).toNat)
 case atStart => exact ⟨0,0,by omega,by omega,rfl,⟨rfl,.inr ⟨w.heap.size,0,#[],rfl,Nat.le_refl _,heap_alloc_new _ _,Nat.le_refl _,by unfold maxLen;omega,rfl,rfl⟩⟩,below1 _ _⟩
 case round =>
  obtain ⟨k,n,hk,hn,rfl,HO,HB⟩:=hrel;have hBs:=HB.out.size
  by_cases hlt : k < len
  ·have hk1 : (k : Int) < len:=by omega
   obtain ⟨b2,o2,s,rfl,hb2,hx2,hc2,hsz2⟩:=(HR.out.below HB.out).at hlt;have HXT:=hidK hx2;clear hx2 hsz2
   by_cases he : s = t
   ·have hq : (s.toList == t.toList) = true:=by rw [he];simp
    have HO3:=HO;rw [← wo_no (nm:=fun s : ByteArray => s) HXT.out hq] at HO3;have HE:=hidK he;clear he
    go_wp2
    exact ⟨⟨k + 1,n,by omega,by omega,by go_num,HO3,HB⟩,by simp [intOf];omega⟩
   ·have hq : (s.toList == t.toList) = false:=by cases h : (s.toList == t.toList);rfl;exact absurd (tl_inj h) he
    have HE:=hidK he;clear he
    go_wp2_with (first | (at_builtin;refine wpList_append_own _ rfl _ _ 78 rfl w.heap.size 9 i0 (.string ⟨#[]⟩) 1 16 Tryz.underlying78 HI0.out.1 HI0.out.2.1 HI0.out.2.2.1 HI0.out.2.2.2 rfl (by decide) _ _ _ rfl (HO.out.alloc _) ⟨wr.heap.size,0,none⟩ 1 1 [.string s] rfl rfl ?c1 ?c2 ?c3 ?c4 ?c5 ?_))
    case c1 =>
     intro j u hu
     cases j with
     | zero =>
      simp only [List.getElem?_cons_zero,Option.some.injEq] at hu;subst hu;rw [Addr.add_lit];exact cellK (heap_alloc_new _ _) 0
     | succ j => simp at hu
    case c2 => intro u hu;rw [List.mem_singleton.1 hu];rfl
    case c3 => unfold maxLen;omega
    case c4 => omega
    case c5 => simp;omega
    rintro v' w3 hown3 hgrow -
    have HO3 : Hid (w3.ownsRow w.heap.size 9 1 v' (n + 1) ((wo (fun s : ByteArray => s) t (zs.take (k + 1))).map Value.string)):=by
     show World.ownsRow _ _ _ _ _ _ _
     rw [wo_yes (nm:=fun s : ByteArray => s) HXT.out hq,List.map_append];exact hown3
    have HB3:=hidK ((HB.out.trans ((below1 _ _).mono hBs)).grown hgrow (by simp;omega) (fun g hg => by have:=(HO.out.lt g hg).1;omega));clear hown3 hgrow
    go_wp2
    exact ⟨⟨k + 1,n + 1,by omega,by omega,by go_num,HO3,HB3⟩,by simp [intOf];omega⟩
  ·have hkl : k = len:=by omega
   have hk1 : ¬ (k : Int) < len:=by omega
   have HO3:=HO;rw [List.take_of_length_le (by omega)] at HO3;obtain ⟨a',p',rfl,hT⟩:=TOwn.of_row HO3.out (wo_size HR.out);have HTO:=hidK hT;clear HO3 hT HO
   go_wp2
   go_ret;exact ⟨_,_,_,rfl,HTO.out,HB.out⟩

def PutFAns (t : ByteArray) (zs : List ByteArray) (w : World) (e : Ending) (w' : World) : Prop:=∃ a' l' c' zs',e = .returned (.slice a' l' c') ∧ TxRow w' a' l' c' zs' ∧ Put t zs zs' ∧ (t ∈ zs ∨ TOwn w' a' l' c' zs' (fun k => w.heap.size ≤ k)) ∧ Below w.heap.size w w'

theorem sputF_any (a : Option Addr) (len cap : Nat) (zs : List ByteArray) (t : ByteArray) (w : World) (hr : TxRow w a len cap zs) (hl : len ≤ 64) (ht : t.size ≤ 9223372036854775807) :
  Calls Tryz.prog 55 #[.slice a len cap,.string t] w (PutFAns t zs w):=by
 have HR:=hidK hr;have hlc : len ≤ cap:=hr.2.1;have hcm : cap ≤ 9223372036854775807:=hr.2.2.1;have hzl : zs.length = len:=hr.1;obtain ⟨i0,hi,hz0,hz1,hz2⟩:=info_parts infoStr;have HI0:=hidK (And.intro hi (And.intro hz0 (And.intro hz1 hz2)));clear hi hz0 hz1 hz2
 have HC : Hid (∀ (j : Nat) u,(zs.map Value.string)[j]? = some u → ∃ g o9,a = some ⟨g,o9,none⟩ ∧ g < w.heap.size ∧ w.cell? ⟨g,o9 + j,none⟩ = some u):=fun j u hu => by
  rw [List.getElem?_map,Option.map_eq_some_iff] at hu;obtain ⟨z,hz,rfl⟩:=hu;obtain ⟨b,o,x,rfl,hb,hx,hc,hsz⟩:=hr.at (k:=j) (by have:=(List.getElem?_eq_some_iff.1 hz).1;omega);rw [hz] at hx
  cases hx
  exact ⟨b,o,rfl,hb,hc⟩
 have HZS : Hid (∀ (k j : Nat) z,(zs.take k ++ [t] ++ zs.drop k)[j]? = some z → z.size ≤ 9223372036854775807):=fun k j z hz => by
  have h1:=List.mem_of_getElem? hz;simp only [List.mem_append,List.mem_singleton] at h1
  rcases h1 with (h1 | rfl) | h1
  ·obtain ⟨i,hi⟩:=List.getElem?_of_mem (List.mem_of_mem_take h1);exact hr.2.2.2.1 i z hi
  ·exact ht
  ·obtain ⟨i,hi⟩:=List.getElem?_of_mem (List.mem_of_mem_drop h1);exact hr.2.2.2.1 i z hi
 have HON : Hid (∀ (l : List ByteArray) u,u ∈ l.map Value.string → u.oneCell' = true):=fun l u hu => by obtain ⟨z,_,rfl⟩:=List.mem_map.1 hu;rfl
 have HW : Hid (Below w.heap.size w w):=Below.refl _ _;clear hr
 go_enter Tryz.func55,Tryz.ntmps55
 go_wp2
 go_loop [5] (fun i => ∃ k : Nat,k ≤ len ∧ i = .int .i64 k ∧ Hid (∀ (j : Nat) y,j < k → zs[j]? = some y → Op.bytesLess y.toList t.toList = true)) (fun i => len - (intOf i).toNat)
 case atStart => exact ⟨0,by omega,rfl,fun j y hj => by omega⟩
 case round =>
  obtain ⟨k,hk,rfl,HE⟩:=hrel
  by_cases hlt : k < len
  ·obtain ⟨b,o,x,rfl,hb,hx,hc,hsz⟩:=HR.out.at hlt;have HX:=hidK hx;clear hx hsz
   have hk1 : (k : Int) < len:=by omega
   cases hless : Op.bytesLess x.toList t.toList
   ·by_cases he : x = t
    ·have HM : Hid (t ∈ zs):=he ▸ List.mem_of_getElem? HX.out;have HP : Hid (Put t zs zs):=.inl ⟨he ▸ List.mem_of_getElem? HX.out,rfl⟩;have hq:=tl_yes he;clear he
     go_wp2
     go_ret;exact ⟨_,_,_,_,rfl,HR.out,HP.out,.inl HM.out,HW.out⟩
    have HP : Hid (Put t zs (zs.take k ++ [t] ++ zs.drop k)):=.inr ⟨k,by omega,rfl,HE.out,fun y hy => by rw [HX.out] at hy;cases hy;exact less_not hless he⟩;have hq:=tl_no he;clear he;have HOW : Hid ((w.alloc (.cells #[] 9)).ownsRow w.heap.size 9 1 (.slice (some ⟨w.heap.size,0,none⟩) 0 0) 0 []):=World.ownsRow_made w #[] 0 (Nat.le_refl _) (Nat.zero_le _) (by simp)
    have hik : (k : Int) ≤ cap:=by omega
    have hkn : k ≤ cap:=by omega
    have hcap : ¬ cap = k:=by omega
    all_goals (
     go_wp2_with (first | (at_builtin;refine wpList_append_anyT rfl _ _ 78 rfl w.heap.size 9 i0 (.string ⟨#[]⟩) 1 16 Tryz.underlying78 HI0.out.1 HI0.out.2.1 HI0.out.2.2.1 HI0.out.2.2.2 rfl (by decide) _ _ _ rfl (HOW.out) _ k _ ((zs.take k).map Value.string) rfl (by rw [List.length_map,List.length_take];omega) (fun j u hu => by rw [List.map_take] at hu;obtain ⟨g9,o9,e,hgl,h3⟩:=HC.out j u (take_get hu);cases e <;> exact ⟨_,rfl,by simp only [Addr.add_lit];exact (cell_below (below1 w _) hgl).trans h3⟩) (HON.out _) (by unfold maxLen;omega) (by omega) (by simp) ?_))
     intro v5 w5 hown5 hgr5
     replace hown5 : w5.ownsRow w.heap.size 9 1 v5 k ((zs.take k).map Value.string):=by simpa using hown5
     have hb5 : Below w.heap.size w w5:=(below1 w (.cells #[] 9)).grown hgr5 (by simp) (fun g hg => by simp [Value.ownBlock] at hg;omega);obtain ⟨s1,s2,s3,rfl⟩:=owns_slice hown5;have HO5:=hidK hown5;have H5:=hidK hb5;have hs5:=hb5.size;clear hown5 hgr5 hb5 HOW
     go_wp2_with (first | (at_builtin;refine wpList_append_anyT rfl _ _ 78 rfl w.heap.size 9 i0 (.string ⟨#[]⟩) 1 16 Tryz.underlying78 HI0.out.1 HI0.out.2.1 HI0.out.2.2.1 HI0.out.2.2.2 rfl (by decide) _ _ _ rfl (HO5.out.alloc _) _ 1 _ [.string t] rfl rfl (fun j u hu => ⟨_,rfl,by rw [Addr.add_lit,Nat.zero_add,cellK (heap_alloc_new w5 _)];simpa using hu⟩) (by simp [Value.oneCell']) (by unfold maxLen;omega) (by omega) (by simp;omega) ?_))
     intro v6 w6 hown6 hgr6;have hb6 : Below w.heap.size w w6:=(H5.out.alloc H5.out.size _).grown hgr6 (by simp;omega) (fun g hg => (HO5.out.lt g hg).1);obtain ⟨r1,r2,r3,rfl⟩:=owns_slice hown6;have HO6:=hidK hown6;have H6:=hidK hb6;have hs6:=hb6.size;clear hown6 hgr6 hb6
     go_wp2_with (first | (at_builtin;refine wpList_append_anyT rfl _ _ 78 rfl w.heap.size 9 i0 (.string ⟨#[]⟩) 1 16 Tryz.underlying78 HI0.out.1 HI0.out.2.1 HI0.out.2.2.1 HI0.out.2.2.2 rfl (by decide) _ _ _ rfl (HO6.out) _ (len - k) _ ((zs.drop k).map Value.string) rfl (by rw [List.length_map,List.length_drop];omega) (fun j u hu => by first | (rw [List.drop_eq_nil_of_le (by omega)] at hu;simp at hu;done) | (rw [List.map_drop,List.getElem?_drop] at hu;obtain ⟨g9,o9,e,hgl,h3⟩:=HC.out _ u hu;cases e <;> exact ⟨_,rfl,by simp only [Addr.add_lit,Nat.add_assoc];exact (cell_below H6.out hgl).trans h3⟩)) (HON.out _) (by unfold maxLen;omega) (by omega) (by omega) ?_))
     intro v7 w7 hown7 hgr7;have hb7 : Below w.heap.size w w7:=H6.out.grown hgr7 (by omega) (fun g hg => (HO6.out.lt g hg).1)
     replace hown7 : w7.ownsRow w.heap.size 9 1 v7 (len + 1) ((zs.take k ++ [t] ++ zs.drop k).map Value.string):=by
      have e9 : k + 1 + (len - k) = len + 1:=by omega
      try rw [e9] at hown7
      simpa using hown7
     obtain ⟨a',p',rfl,hT⟩:=TOwn.of_row hown7 (HZS.out k);have HT7:=hidK hT;have HB7:=hidK hb7;clear hown7 hgr7 hb7 hT hik hkn
     go_wp2
     go_ret
     exact ⟨_,_,_,_,rfl,HT7.out.row,HP.out,.inr HT7.out,HB7.out⟩)
   ·go_wp2
    refine ⟨⟨k + 1,by omega,by go_num,fun j z hj hz => ?_⟩,by simp [intOf];omega⟩
    by_cases e : j = k
    ·subst e;rw [HX.out] at hz;obtain rfl:=Option.some.inj hz;exact hless
    ·exact HE.out j z (by omega) hz
  ·have hk1 : ¬ (k : Int) < len:=by omega
   have HP : Hid (Put t zs (zs.take k ++ [t] ++ zs.drop k)):=.inr ⟨k,by omega,rfl,HE.out,fun y hy => by have:=(List.getElem?_eq_some_iff.1 hy).1;omega⟩;have HOW : Hid ((w.alloc (.cells #[] 9)).ownsRow w.heap.size 9 1 (.slice (some ⟨w.heap.size,0,none⟩) 0 0) 0 []):=World.ownsRow_made w #[] 0 (Nat.le_refl _) (Nat.zero_le _) (by simp)
   have hik : (k : Int) ≤ cap:=by omega
   have hkn : k ≤ cap:=by omega
   rcases a with _ | ⟨b,o,sp⟩
   ·have hl0 : len = 0:=Classical.byContradiction fun hne0 => by
     obtain ⟨g9,o9,e,_⟩:=HC.out 0 _ (by rw [List.getElem?_map,List.getElem?_eq_getElem (show 0 < zs.length by omega)];rfl)
     cases e
    obtain rfl : k = 0:=by omega
    subst hl0
    by_cases hcap : cap = 0
    all_goals (
     go_wp2_with (first | (at_builtin;refine wpList_append_anyT rfl _ _ 78 rfl w.heap.size 9 i0 (.string ⟨#[]⟩) 1 16 Tryz.underlying78 HI0.out.1 HI0.out.2.1 HI0.out.2.2.1 HI0.out.2.2.2 rfl (by decide) _ _ _ rfl (HOW.out) _ 0 _ ((zs.take 0).map Value.string) rfl (by rw [List.length_map,List.length_take];omega) (fun j u hu => by rw [List.map_take] at hu;obtain ⟨g9,o9,e,hgl,h3⟩:=HC.out j u (take_get hu);cases e <;> exact ⟨_,rfl,by simp only [Addr.add_lit];exact (cell_below (below1 w _) hgl).trans h3⟩) (HON.out _) (by unfold maxLen;omega) (by omega) (by simp) ?_))
     intro v5 w5 hown5 hgr5
     replace hown5 : w5.ownsRow w.heap.size 9 1 v5 0 ((zs.take 0).map Value.string):=by simpa using hown5
     have hb5 : Below w.heap.size w w5:=(below1 w (.cells #[] 9)).grown hgr5 (by simp) (fun g hg => by simp [Value.ownBlock] at hg;omega);obtain ⟨s1,s2,s3,rfl⟩:=owns_slice hown5;have HO5:=hidK hown5;have H5:=hidK hb5;have hs5:=hb5.size;clear hown5 hgr5 hb5 HOW
     go_wp2_with (first | (at_builtin;refine wpList_append_anyT rfl _ _ 78 rfl w.heap.size 9 i0 (.string ⟨#[]⟩) 1 16 Tryz.underlying78 HI0.out.1 HI0.out.2.1 HI0.out.2.2.1 HI0.out.2.2.2 rfl (by decide) _ _ _ rfl (HO5.out.alloc _) _ 1 _ [.string t] rfl rfl (fun j u hu => ⟨_,rfl,by rw [Addr.add_lit,Nat.zero_add,cellK (heap_alloc_new w5 _)];simpa using hu⟩) (by simp [Value.oneCell']) (by unfold maxLen;omega) (by omega) (by simp;omega) ?_))
     intro v6 w6 hown6 hgr6;have hb6 : Below w.heap.size w w6:=(H5.out.alloc H5.out.size _).grown hgr6 (by simp;omega) (fun g hg => (HO5.out.lt g hg).1);obtain ⟨r1,r2,r3,rfl⟩:=owns_slice hown6;have HO6:=hidK hown6;have H6:=hidK hb6;have hs6:=hb6.size;clear hown6 hgr6 hb6
     go_wp2_with (first | (at_builtin;refine wpList_append_anyT rfl _ _ 78 rfl w.heap.size 9 i0 (.string ⟨#[]⟩) 1 16 Tryz.underlying78 HI0.out.1 HI0.out.2.1 HI0.out.2.2.1 HI0.out.2.2.2 rfl (by decide) _ _ _ rfl (HO6.out) _ (0 - 0) _ ((zs.drop 0).map Value.string) rfl (by rw [List.length_map,List.length_drop];omega) (fun j u hu => by first | (rw [List.drop_eq_nil_of_le (by omega)] at hu;simp at hu;done) | (rw [List.map_drop,List.getElem?_drop] at hu;obtain ⟨g9,o9,e,hgl,h3⟩:=HC.out _ u hu;cases e <;> exact ⟨_,rfl,by simp only [Addr.add_lit,Nat.add_assoc];exact (cell_below H6.out hgl).trans h3⟩)) (HON.out _) (by unfold maxLen;omega) (by omega) (by omega) ?_))
     intro v7 w7 hown7 hgr7;have hb7 : Below w.heap.size w w7:=H6.out.grown hgr7 (by omega) (fun g hg => (HO6.out.lt g hg).1)
     replace hown7 : w7.ownsRow w.heap.size 9 1 v7 (0 + 1) ((zs.take 0 ++ [t] ++ zs.drop 0).map Value.string):=by
      have e9 : 0 + 1 + (0 - 0) = 0 + 1:=by omega
      try rw [e9] at hown7
      simpa using hown7
     obtain ⟨a',p',rfl,hT⟩:=TOwn.of_row hown7 (HZS.out 0);have HT7:=hidK hT;have HB7:=hidK hb7;clear hown7 hgr7 hb7 hT hik hkn
     go_wp2
     go_ret
     exact ⟨_,_,_,_,rfl,HT7.out.row,HP.out,.inr HT7.out,HB7.out⟩)
   by_cases hcap : cap = k
   all_goals (
    go_wp2_with (first | (at_builtin;refine wpList_append_anyT rfl _ _ 78 rfl w.heap.size 9 i0 (.string ⟨#[]⟩) 1 16 Tryz.underlying78 HI0.out.1 HI0.out.2.1 HI0.out.2.2.1 HI0.out.2.2.2 rfl (by decide) _ _ _ rfl (HOW.out) _ k _ ((zs.take k).map Value.string) rfl (by rw [List.length_map,List.length_take];omega) (fun j u hu => by rw [List.map_take] at hu;obtain ⟨g9,o9,e,hgl,h3⟩:=HC.out j u (take_get hu);cases e <;> exact ⟨_,rfl,by simp only [Addr.add_lit];exact (cell_below (below1 w _) hgl).trans h3⟩) (HON.out _) (by unfold maxLen;omega) (by omega) (by simp) ?_))
    intro v5 w5 hown5 hgr5
    replace hown5 : w5.ownsRow w.heap.size 9 1 v5 k ((zs.take k).map Value.string):=by simpa using hown5
    have hb5 : Below w.heap.size w w5:=(below1 w (.cells #[] 9)).grown hgr5 (by simp) (fun g hg => by simp [Value.ownBlock] at hg;omega);obtain ⟨s1,s2,s3,rfl⟩:=owns_slice hown5;have HO5:=hidK hown5;have H5:=hidK hb5;have hs5:=hb5.size;clear hown5 hgr5 hb5 HOW
    go_wp2_with (first | (at_builtin;refine wpList_append_anyT rfl _ _ 78 rfl w.heap.size 9 i0 (.string ⟨#[]⟩) 1 16 Tryz.underlying78 HI0.out.1 HI0.out.2.1 HI0.out.2.2.1 HI0.out.2.2.2 rfl (by decide) _ _ _ rfl (HO5.out.alloc _) _ 1 _ [.string t] rfl rfl (fun j u hu => ⟨_,rfl,by rw [Addr.add_lit,Nat.zero_add,cellK (heap_alloc_new w5 _)];simpa using hu⟩) (by simp [Value.oneCell']) (by unfold maxLen;omega) (by omega) (by simp;omega) ?_))
    intro v6 w6 hown6 hgr6;have hb6 : Below w.heap.size w w6:=(H5.out.alloc H5.out.size _).grown hgr6 (by simp;omega) (fun g hg => (HO5.out.lt g hg).1);obtain ⟨r1,r2,r3,rfl⟩:=owns_slice hown6;have HO6:=hidK hown6;have H6:=hidK hb6;have hs6:=hb6.size;clear hown6 hgr6 hb6
    go_wp2_with (first | (at_builtin;refine wpList_append_anyT rfl _ _ 78 rfl w.heap.size 9 i0 (.string ⟨#[]⟩) 1 16 Tryz.underlying78 HI0.out.1 HI0.out.2.1 HI0.out.2.2.1 HI0.out.2.2.2 rfl (by decide) _ _ _ rfl (HO6.out) _ (len - k) _ ((zs.drop k).map Value.string) rfl (by rw [List.length_map,List.length_drop];omega) (fun j u hu => by first | (rw [List.drop_eq_nil_of_le (by omega)] at hu;simp at hu;done) | (rw [List.map_drop,List.getElem?_drop] at hu;obtain ⟨g9,o9,e,hgl,h3⟩:=HC.out _ u hu;cases e <;> exact ⟨_,rfl,by simp only [Addr.add_lit,Nat.add_assoc];exact (cell_below H6.out hgl).trans h3⟩)) (HON.out _) (by unfold maxLen;omega) (by omega) (by omega) ?_))
    intro v7 w7 hown7 hgr7;have hb7 : Below w.heap.size w w7:=H6.out.grown hgr7 (by omega) (fun g hg => (HO6.out.lt g hg).1)
    replace hown7 : w7.ownsRow w.heap.size 9 1 v7 (len + 1) ((zs.take k ++ [t] ++ zs.drop k).map Value.string):=by
     have e9 : k + 1 + (len - k) = len + 1:=by omega
     try rw [e9] at hown7
     simpa using hown7
    obtain ⟨a',p',rfl,hT⟩:=TOwn.of_row hown7 (HZS.out k);have HT7:=hidK hT;have HB7:=hidK hb7;clear hown7 hgr7 hb7 hT hik hkn
    go_wp2
    go_ret
    exact ⟨_,_,_,_,rfl,HT7.out.row,HP.out,.inr HT7.out,HB7.out⟩)

theorem scan_is (d : Ad) (c : Cl) (x : Qd) (i j : Nat) (v : Vd) (n : Nd) (w : World) (hr : ClRow w d c.raw) (hT : RightI c) (hv : c.vs[i]? = some v) (hvn : v.n = x.n) (hn : c.ns[j]? = some n) (hnn : n.n = x.d) (r : Bool) (h : r = true ↔ CanN c v n) :
  Calls Tryz.prog 54 #[.agg #[.slice d.a1 d.l1 d.c1,.slice d.a2 d.l2 d.c2,.slice d.a3 d.l3 d.c3,.slice d.a4 d.l4 d.c4,.slice d.a5 d.l5 d.c5,.int .i64 c.now],.agg #[.string x.n,.string x.d]] w fun e w' => e = .returned (.bool r) ∧ Below w.heap.size w w':=by
 refine (scan_any d c x i j v n w hr hT hv hvn hn hnn).mono ?_;rintro e w' ⟨r',rfl,h',hb⟩
 have e : r' = r:=by
  cases r <;> cases r'
  ·rfl
  ·exact (h.2 (h'.1 rfl)).symm
  ·exact h'.2 (h.1 rfl)
  ·rfl
 rw [e];exact ⟨rfl,hb⟩
def PutO (W : World) (t : ByteArray) (zs : List ByteArray) : Fact:=fun v w => ∃ a' l' c' ys,v = .slice a' l' c' ∧ TOwn w a' l' c' ys (fun k => W.heap.size ≤ k) ∧ Put t zs ys
theorem PutO.mono (W : World) (t : ByteArray) (zs : List ByteArray) : Fact.Mono (PutO W t zs):=by
 rintro v w w' ⟨a',l',c',ys,h1,h2,h3⟩ hb;exact ⟨a',l',c',ys,h1,h2.below hb,h3⟩
def OwnT (W : World) (zs : List ByteArray) : Fact:=fun v w => ∃ a' l' c',v = .slice a' l' c' ∧ TOwn w a' l' c' zs (fun k => W.heap.size ≤ k)
theorem OwnT.mono (W : World) (zs : List ByteArray) : Fact.Mono (OwnT W zs):=by
 rintro v w w' ⟨a',l',c',h1,h2⟩ hb;exact ⟨a',l',c',h1,h2.below hb⟩

theorem satt_any (d : Ad) (c : Cl) (w : World) (hr : ClRow w d c.raw) :
  Calls Tryz.prog 17 #[.agg #[.slice d.a1 d.l1 d.c1,.slice d.a2 d.l2 d.c2,.slice d.a3 d.l3 d.c3,.slice d.a4 d.l4 d.c4,.slice d.a5 d.l5 d.c5,.int .i64 c.now]] w (OutS (AttIs c) w):=by
 obtain ⟨a1,l1,y1,a2,l2,y2,a3,l3,y3,a4,l4,y4,a5,l5,y5⟩:=d;dsimp only;have HR:=hidK hr
 have hl1 : c.ns.length = l1:=by simpa using (show (c.ns.map ndF).length = l1 from hr.n.1)
 have hm1 : l1 ≤ 9223372036854775807:=Nat.le_trans hr.n.2.1 hr.n.2.2.1
 have hl2 : c.ks.length = l2:=by simpa using (show (c.ks.map kdF).length = l2 from hr.k.1)
 have hm2 : l2 ≤ 9223372036854775807:=Nat.le_trans hr.k.2.1 hr.k.2.2.1
 have hl3 : c.vs.length = l3:=by simpa using (show (c.vs.map vdF).length = l3 from hr.v.1)
 have hm3 : l3 ≤ 9223372036854775807:=Nat.le_trans hr.v.2.1 hr.v.2.2.1
 have hl4 : c.xs.length = l4:=by simpa using (show (c.xs.map xdF).length = l4 from hr.x.1)
 have hm4 : l4 ≤ 9223372036854775807:=Nat.le_trans hr.x.2.1 hr.x.2.2.1
 have hl5 : c.ps.length = l5:=by simpa using (show (c.ps.map pdF).length = l5 from hr.p.1)
 have hm5 : l5 ≤ 9223372036854775807:=Nat.le_trans hr.p.2.1 hr.p.2.2.1;clear hr;have HB:=hidK (Below.refl w.heap.size w)
 go_enter Tryz.func17,Tryz.ntmps17
 go_wp2_with fail;refine (sright_any ⟨a1,l1,y1,a2,l2,y2,a3,l3,y3,a4,l4,y4,a5,l5,y5⟩ c _ (HR.out.below (HB.out.trans ((below2 _ _ _).mono HB.out.size)))).mono ?_;rintro e w1 ⟨r,rfl,hi,hb⟩;obtain ⟨HA0,HA1,hbx⟩:=slots2 hb;have Bk:=hidK HA0;have Br:=hidK HA1;replace HB:=upB HB hbx;clear hb hbx HA0 HA1;have HI:=hidK hi;clear hi
 cases r
 ·have HV : Hid (AttIs c (co0 1)):=.inl ⟨fun h => (by have h9:=HI.out.2 h;cases h9),rfl⟩;clear HI;obtain ⟨k0,k1,k2,k3,k4,k5⟩:=cs6 Bk.out;have ltk_1:=lt_of_some Bk.out;go_wp2_with fail;refine (sill_any 1 _).mono ?_;rintro e w2 ⟨rfl,hb⟩;clear k0 k1 k2 k3 k4 k5 ltk_1;replace Bk:=upK Bk hb;replace Br:=upK Br hb;replace HB:=upB HB hb;clear hb;obtain ⟨r0,r1,r2,r3,r4,r5,r6,r7⟩:=cs8 Br.out;have ltr_2:=lt_of_some Br.out;have fr0:=froK Br.out 0;have fr1:=froK Br.out 1;have fr2:=froK Br.out 2;have fr3:=froK Br.out 3;have fr4:=froK Br.out 4;have fr5:=froK Br.out 5;have fr6:=froK Br.out 6;have fr7:=froK Br.out 7;have hrl : w.heap.size + 1 < w2.heap.size:=lt_of_some Br.out
  go_wp2
  exact bodyPost_ret (v:=.agg #[.slice none 0 0,.slice none 0 0,.slice none 0 0,.slice none 0 0,.slice none 0 0,.int .i64 0,.string ⟨#[]⟩,.int .i64 1]) (by simp [results,Tryz.results17,go_sem, *]) rfl ⟨ad0,co0 1,rfl,HV.out,(own0 _ (fun _ => True)).row,set_below (show w.heap.size ≤ w.heap.size + 1 by omega) (set_below (show w.heap.size ≤ w.heap.size + 1 by omega) (set_below (show w.heap.size ≤ w.heap.size + 1 by omega) (set_below (show w.heap.size ≤ w.heap.size + 1 by omega) (set_below (show w.heap.size ≤ w.heap.size + 1 by omega) (set_below (show w.heap.size ≤ w.heap.size + 1 by omega) (set_below (show w.heap.size ≤ w.heap.size + 1 by omega) (set_below (show w.heap.size ≤ w.heap.size + 1 by omega) (HB.out))))))))⟩
 have HT:=hidK (HI.out.1 (by first | trivial | rfl));clear HI;obtain ⟨k0,k1,k2,k3,k4,k5⟩:=cs6 Bk.out;have ltk_1:=lt_of_some Bk.out;go_wp2_with fail;refine (scopyC_any ⟨a1,l1,y1,a2,l2,y2,a3,l3,y3,a4,l4,y4,a5,l5,y5⟩ c _ (HR.out.below HB.out) HT.out.sm).mono ?_;rintro e w2 ⟨d',rfl,ho,hb⟩;have HQ2:=hidK hb.size;have HQ1:=hidK (lt_of_some Br.out);clear k0 k1 k2 k3 k4 k5 ltk_1;replace Bk:=upK Bk hb;replace Br:=upK Br hb;replace HB:=upB HB hb;clear hb;obtain ⟨x1,m1,n1,x2,m2,n2,x3,m3,n3,x4,m4,n4,x5,m5,n5⟩:=d'
 have hm3 : l3 = m3:=by have h6 : (c.vs.map vdF).length = m3:=ho.v.1;rw [List.length_map] at h6;omega
 subst hm3;have HO:=hidK ho;have HY : Hid (Bw w2 w2):=Bw.refl _;clear ho;obtain ⟨k0,k1,k2,k3,k4,k5⟩:=cs6 Bk.out;have ltk_2:=lt_of_some Bk.out;go_wp2_with fail;refine (sexc_any ⟨a1,l1,y1,a2,l2,y2,a3,l3,y3,a4,l4,y4,a5,l5,y5⟩ c _ (HR.out.below (HB.out.trans ((below1 _ _).mono HB.out.size))) HT.out).mono ?_;rintro e w3 ⟨ea,el,ec,es,rfl,ho,hrq,hmem,hle,hb⟩;clear k0 k1 k2 k3 k4 k5 ltk_2;obtain ⟨HA0,hbx⟩:=slots1 hb;replace Bk:=upK Bk hbx;replace Br:=upK Br hbx;have Bo:=hidK HA0;replace HY:=hidK (HY.out.below hbx);replace HB:=upB HB hbx;clear hb hbx HA0
 have HEB : Hid (∀ b o,ea = some ⟨b,o,none⟩ → 0 < el → w2.heap.size < b):=fun b o e hp => by
  obtain ⟨h1,-,-,h4⟩:=ho
  rcases h4 with h4 | ⟨g',cur,H,e',hat⟩
  ·rw [h4] at h1;simp at h1;omega
  ·rw [e] at e'
   cases e'
   have h5:=hat.inS
   simp at h5
   omega
 have HQ3 : Hid (w2.heap.size < w3.heap.size):=lt_of_some Bo.out;have HER:=hidK ho.row
 have hel : es.length = el:=by simpa using ho.row.1
 have HES:=hidK (And.intro hrq hmem);clear ho hrq hmem
 by_cases he0 : 0 < el
 ·have hei : (0 : Int) < el:=by omega
  obtain ⟨b,o,y,rfl,hbl,hy,hat⟩:=qd_at HER.out he0;obtain ⟨-,-,hc0,hc1⟩:=qd_cells hat;have HY0:=hidK hy;obtain ⟨i,v,hv,hvn,hvd⟩:=xn_has ((HES.out.2 y).1 (List.mem_of_getElem? hy));have HV0:=hidK hv;have HVN:=hidK hvn
  have hi3 : i < l3:=by have:=(List.getElem?_eq_some_iff.1 hv).1;omega
  clear hat hy hv hvn hvd
  have hy0 : w3.cell? ⟨b,o,none⟩ = some (.string y.n):=by simpa using hc0
  have hy1 : w3.cell? ⟨b,o + 1,none⟩ = some (.string y.d):=by simpa using hc1
  have HY1:=hidK hy1;have HYN:=hidK hy0;have HYB:=hidK hbl
  have hv64 : v.zs.length ≤ 64:=by have:=(HT.out.on HV0.out).1;omega
  clear hc0 hc1 hy1;obtain ⟨k0,k1,k2,k3,k4,k5⟩:=cs6 Bk.out;have ltk_3:=lt_of_some Bk.out;obtain ⟨o0,o1,o2,o3,o4,o5⟩:=cs6 Bo.out;have lto_3:=lt_of_some Bo.out;go_wp2_with fail;clear k0 k1 k2 k3 k4 k5 ltk_3 o0 o1 o2 o3 o4 o5 lto_3;have HB3:=HY;have Gk:=Bk;have Gr:=Br;have Go:=Bo;have HW:=HB;obtain ⟨k0,k1,k2,k3,k4,k5⟩:=sl6 Gk;have yn:=fun q : Wd w3 => (q.cell hbl).trans hy0;have hne0:=Wd.ne w3;have HC0:=hidK (fun q : Wd w3 => sxvd_hit ⟨a1,l1,y1,a2,l2,y2,a3,l3,y3,a4,l4,y4,a5,l5,y5⟩ c.now c.vs y.n q.w (HR.out.v.below (HW.out.trans (q.b.mono HW.out.size))) HT.out.2.1.2.2.1.2.2 HV0.out HVN.out);go_wp2_with fail;refine wp_region_wide (by kernel_rfl) (by kernel_rfl) ?_
  repeat (go_big_quiet_step (first | (go_at_call 52;exact Calls.wide (HC0.out _)) | fail))
  refine wpQuiet_nil ?_;rintro _ ⟨q1,rfl⟩;have HB4:=upB HW q1.b;have Ck:=upK Gk q1.b;have Cr:=upK Gr q1.b;have Co:=upK Go q1.b;have CHY:=hidK ((HY.out).below q1.b);clear hne0 HW HB HC0 k0 k1 k2 k3 k4 k5 yn Gk Gr Go Bk Br Bo HY hy0 hbl;have HB:=HB4;clear HB4;have HY:=CHY;clear CHY;have Bk:=Ck;clear Ck;have Br:=Cr;clear Cr;have Bo:=Co;clear Co;obtain ⟨g,cs,hd3,hgB,hgb,ga,gl,gp,hgc,hgt⟩:=HO.out.blk3 HV0.out;have hd3' : x3 = some ⟨g,0,none⟩:=hd3;subst hd3';have hgs : g < w2.heap.size:=lt_of_some hgb;have HGB:=hidK hgb;have HGC:=hidK hgc;obtain ⟨b3,o3,v',e3,hb3,hx3,hat⟩:=vd_at (HR.out.v.below HB.out) hi3;have e3' : a3 = some ⟨b3,o3,none⟩:=e3;subst e3';rw [HV0.out] at hx3;obtain rfl:=Option.some.inj hx3;obtain ⟨va,vl,vc,hvr,-,-,-,-,-,-,-,-,-,-,-,hc7⟩:=vd_cells hat;have HC7:=hidK hc7;have HVR:=hidK hvr;have HB3B:=hidK hb3
  have hvl64 : vl ≤ 64:=by have h1 : v.zs.length = vl:=HVR.out.1;omega
  have HEB2 : Hid (w2.heap.size < b):=HEB.out b o rfl he0
  have hil3 : (i : Int) < l3:=by omega
  have hii0 : ¬ (i : Int) < 0:=by omega
  clear hd3 hgb hgc hgt hat hx3 hc7 hvr hb3;obtain ⟨W,hW0⟩ : ∃ W,W = q1.w:=⟨_,rfl⟩;rw [← hW0] at HB HY Bk Br Bo HC7 HVR HB3B
  have HYW : Hid (W.cell? ⟨b,o + 1,none⟩ = some (.string y.d)):=by
   rw [hW0];exact (q1.cell HYB.out).trans HY1.out
  have HYV : Hid (W.cell? ⟨b,o,none⟩ = some (.string y.n)):=by
   rw [hW0];exact (q1.cell HYB.out).trans HYN.out
  have HYB2 : Hid (b < W.heap.size):=by rw [hW0];exact Nat.lt_of_lt_of_le HYB.out q1.b.size
  go_wp2_with fail;rw [← hW0];clear hW0;rename_i K0 hK0;refine Gt.wp_region_grow_last (by kernel_rfl) rfl rfl (by kernel_rfl) ?_;refine' Grow.stepC _ rfl ?_ ?_;rotate_left 1
  ·refine Obl.plain rfl ?_;intro ac wg K hsz hW hf hK;clear hsz;have e3:=hf 3 (by decide)
   simp [slotFact,List.lookup] at e3
   clear hf;go_simp;refine hK _ _ (Below.refl _ _) ?_;with_reducible rfl
  refine' Grow.stepC _ rfl ?_ ?_;rotate_left 1
  ·refine Obl.plain rfl ?_;intro ac wg K hsz hW hf hK;clear hsz;have e26:=hf 26 (by decide)
   simp [slotFact,List.lookup] at e26
   clear hf;obtain ⟨o0,o1,o2,o3,o4,o5⟩:=cs6 ((hW.block _ (lt_of_some Bo.out)).trans Bo.out);go_simp;refine hK _ _ (Below.refl _ _) ?_;with_reducible rfl
  refine' Grow.stepC _ rfl ?_ ?_;rotate_left 1
  ·refine Obl.plain rfl ?_;intro ac wg K hsz hW hf hK;clear hsz;have e5:=hf 5 (by decide)
   simp [slotFact,List.lookup] at e5
   clear hf;go_simp;refine hK _ _ (Below.refl _ _) ?_;with_reducible rfl
  refine' Grow.stepC _ rfl ?_ ?_;rotate_left 1
  ·refine Obl.plain rfl ?_;intro ac wg K hsz hW hf hK;clear hsz;have e1:=hf 1 (by decide)
   simp [slotFact,List.lookup] at e1
   clear hf;go_simp;refine hK _ _ (Below.refl _ _) ?_;with_reducible rfl
  refine' Grow.stepC _ rfl ?_ ?_;rotate_left 1
  ·refine Obl.plain rfl ?_;intro ac wg K hsz hW hf hK;clear hsz;have e29:=hf 29 (by decide)
   simp [slotFact,List.lookup] at e29
   clear hf;obtain ⟨d0,d1,d2,d3,d4,d5⟩:=cs6 ((hW.block _ (lt_of_some Bk.out)).trans Bk.out);go_simp;refine hK _ _ (Below.refl _ _) ?_;with_reducible rfl
  refine' Grow.stepC _ rfl ?_ ?_;rotate_left 1
  ·refine Obl.plain rfl ?_;intro ac wg K hsz hW hf hK;clear hsz;have e5:=hf 5 (by decide)
   simp [slotFact,List.lookup] at e5
   clear hf;go_simp;refine hK _ _ (Below.refl _ _) ?_;with_reducible rfl
  refine' Grow.stepC _ rfl ?_ ?_;rotate_left 1
  ·refine Obl.plain rfl ?_;intro ac wg K hsz hW hf hK;clear hsz;have e30:=hf 30 (by decide)
   simp [slotFact,List.lookup] at e30
   have e31:=hf 31 (by decide)
   simp [slotFact,List.lookup] at e31
   clear hf;go_simp;refine hK _ _ (Below.refl _ _) ?_;with_reducible rfl
  refine' Grow.stepC _ rfl ?_ ?_;rotate_left 1
  ·refine Obl.plain rfl ?_;intro ac wg K hsz hW hf hK;clear hsz;have e32:=hf 32 (by decide)
   simp [slotFact,List.lookup] at e32
   clear hf;go_simp;refine hK _ _ (Below.refl _ _) ?_;with_reducible rfl
  refine' Grow.stepC _ rfl ?_ ?_;rotate_left 1
  ·refine Obl.plain rfl ?_;intro ac wg K hsz hW hf hK;clear hsz;have e33:=hf 33 (by decide)
   simp [slotFact,List.lookup] at e33
   clear hf;have c7:=(cell_below hW HB3B.out).trans HC7.out;go_simp;refine hK _ _ (Below.refl _ _) ?_;with_reducible rfl
  refine' Grow.stepC _ rfl ?_ ?_;rotate_left 1
  ·refine Obl.plain rfl ?_;intro ac wg K hsz hW hf hK;clear hsz;have e4:=hf 4 (by decide)
   simp [slotFact,List.lookup] at e4
   clear hf;go_simp;refine hK _ _ (Below.refl _ _) ?_;with_reducible rfl
  refine' Grow.stepC _ rfl ?_ ?_;rotate_left 1
  ·refine Obl.plain rfl ?_;intro ac wg K hsz hW hf hK;clear hsz;have e35:=hf 35 (by decide)
   simp [slotFact,List.lookup] at e35
   clear hf;go_simp;refine hK _ _ (Below.refl _ _) ?_;with_reducible rfl
  refine' Grow.stepC _ rfl ?_ ?_;rotate_left 1
  ·refine Obl.plain rfl ?_;intro ac wg K hsz hW hf hK;clear hsz;have e36:=hf 36 (by decide)
   simp [slotFact,List.lookup] at e36
   clear hf;go_simp;refine hK _ _ (Below.refl _ _) ?_;with_reducible rfl
  refine' Grow.stepC _ rfl ?_ ?_;rotate_left 1
  ·refine Obl.plain rfl ?_;intro ac wg K hsz hW hf hK;clear hsz;have e37:=hf 37 (by decide)
   simp [slotFact,List.lookup] at e37
   clear hf;have c7:=(cell_below hW HYB2.out).trans HYW.out;go_simp;refine hK _ _ (Below.refl _ _) ?_;with_reducible rfl
  refine Grow.step (OwnT W (wo (fun s : ByteArray => s) y.d v.zs)) rfl (OwnT.mono W (wo (fun s : ByteArray => s) y.d v.zs)) ?_ ?_
  ·refine Obl.plain rfl ?_;intro ac wg K hsz hW hf hK;clear hsz;have e34:=hf 34 (by decide)
   simp [slotFact,List.lookup] at e34
   have e38:=hf 38 (by decide)
   simp [slotFact,List.lookup] at e38
   clear hf;go_simp;refine (swoT_any va vl vc v.zs y.d _ (HVR.out.below hW) hvl64).mono ?_;rintro e w6 ⟨sa,sl,sc,rfl,ho6,hb6⟩;have hs6:=hW.size;exact hK _ _ hb6 ⟨sa,sl,sc,rfl,ho6.keep (fun _ _ _ => rfl) (fun k _ s => by have s1 : wg.heap.size ≤ k:=s;show W.heap.size ≤ k;omega)⟩
  refine' Grow.stepC _ rfl ?_ ?_;rotate_left 1
  ·refine Obl.plain rfl ?_;intro ac wg K hsz hW hf hK;clear hsz;have e27:=hf 27 (by decide)
   simp [slotFact,List.lookup] at e27
   have e28:=hf 28 (by decide)
   simp [slotFact,List.lookup] at e28
   clear hf;go_simp;refine hK _ _ (Below.refl _ _) ?_;with_reducible rfl
  refine' Grow.stepC _ rfl ?_ ?_;rotate_left 1
  ·refine Obl.plain rfl ?_;intro ac wg K hsz hW hf hK;clear hsz;have e40:=hf 40 (by decide)
   simp [slotFact,List.lookup] at e40
   clear hf;go_simp;refine hK _ _ (Below.refl _ _) ?_;with_reducible rfl
  refine Grow.done ?_;intro q wz hW hf;simp only [List.forall_mem_cons] at hf;obtain ⟨h41,h40,h39,h38,h37,h36,h35,h34,h33,h32,h31,h30,h29,h28,h27,h26,-⟩:=hf;obtain ⟨sa,sl,sc,hv39,hto⟩:=h39;have HTO:=hidK hto;have HWZ:=hidK hW;have hwg : wz.heap[g]? = some (.cells cs 81 (0,0)):=((HY.out.out.trans (hW.mono HY.out.le)).block g hgs).trans HGB.out;have hfz:=froK hwg (i * 8 + 7);have hcz : wz.cell? ⟨g,i * 8 + 7,none⟩ = some (.slice ga gl gp):=(cellK hwg _).trans HGC.out;clear hto;intro K hK;rw [if_pos (by rfl)];simp only [putsAll,List.foldr,Act.put,List.setIfInBounds_toArray,List.set_cons_zero,List.set_cons_succ,h41,h40,h38,h37,h36,h35,h34,h33,h32,h31,h30,h29,h28,h27,h26,hv39];simp only [List.getLast];go_simp;refine hK _ _ ?_;refine hK0 _ _ ?_;clear hK hK0 K K0;obtain ⟨W5,hW5⟩ : ∃ W5,W5 = wz.setCell ⟨g,i * 8 + 7,none⟩ (.slice sa sl sc):=⟨_,rfl⟩;rw [← hW5];have hq1 : w.heap.size + 1 < w1.heap.size:=HQ1.out;have hq2 : w1.heap.size ≤ w2.heap.size:=HQ2.out;have hsz:=HWZ.out.size
  have HB5 : Hid (Below w.heap.size w W5):=by rw [hW5];exact set_below (show w.heap.size ≤ g by omega) (HB.out.trans (HWZ.out.mono HB.out.size))
  have hsz5 : W5.heap.size = wz.heap.size:=by rw [hW5];simp
  have Br5 : Hid (W5.heap[w.heap.size + 1]? = some (.cells #[.slice none 0 0,.slice none 0 0,.slice none 0 0,.slice none 0 0,.slice none 0 0,.int .i64 0,.string ⟨#[]⟩,.int .i64 0] 46 (0,0))):=by rw [hW5];exact (Below.heap_setCell _ _ _ _ (show w.heap.size + 1 ≠ g by omega)).trans ((HWZ.out.block _ (lt_of_some Br.out)).trans Br.out)
  have Bo5 : Hid (W5.heap[w2.heap.size]? = some (.cells #[.slice x1 m1 n1,.slice x2 m2 n2,.slice (some ⟨g,0,none⟩) l3 n3,.slice x4 m4 n4,.slice x5 m5 n5,.int .i64 c.now] 38 (0,0))):=by rw [hW5];exact (Below.heap_setCell _ _ _ _ (show w2.heap.size ≠ g by omega)).trans ((HWZ.out.block _ (lt_of_some Bo.out)).trans Bo.out)
  have HYV5 : Hid (W5.cell? ⟨b,o,none⟩ = some (.string y.n)):=by
   have hbg : ¬ b = g:=by have:=HEB2.out;omega
   have e9 : W5.heap[b]? = wz.heap[b]?:=by rw [hW5];exact Below.heap_setCell _ _ _ _ hbg
   have h9:=(cell_below HWZ.out HYB2.out).trans HYV.out
   show W5.cell? _ = _
   simp only [World.cell?,e9] at h9 ⊢;exact h9
  have HYB5 : Hid (b < W5.heap.size):=by have:=HYB2.out;show b < _;omega
  have hn20:=(HT.out.2.1.2.2.1.2.1 i v HV0.out).1.2.1;rw [HVN.out] at hn20
  have hn4 : ¬ 9223372036854775807 < 4 + y.n.size:=by omega
  clear hfz hcz hwg hn20;go_wp2_with fail;rename_i K0 hK0;refine wp_region_grow_last (by kernel_rfl) rfl rfl (by kernel_rfl) ?_;refine' Grow.stepC _ rfl ?_ ?_;rotate_left 1
  ·refine Obl.plain rfl ?_;intro ac wg K hsz hW hf hK;clear hsz;have e3:=hf 3 (by decide)
   simp [slotFact,List.lookup] at e3
   clear hf;obtain ⟨o0,o1,o2,o3,o4,o5⟩:=cs6 ((hW.block _ (lt_of_some Bo5.out)).trans Bo5.out);go_simp;refine hK _ _ (Below.refl _ _) ?_;with_reducible rfl
  refine' Grow.stepC _ rfl ?_ ?_;rotate_left 1
  ·refine Obl.plain rfl ?_;intro ac wg K hsz hW hf hK;clear hsz;have e4:=hf 4 (by decide)
   simp [slotFact,List.lookup] at e4
   clear hf;go_simp;refine hK _ _ (Below.refl _ _) ?_;with_reducible rfl
  refine' Grow.stepC _ rfl ?_ ?_;rotate_left 1
  ·refine Obl.plain rfl ?_;intro ac wg K hsz hW hf hK;clear hsz;have e43:=hf 43 (by decide)
   simp [slotFact,List.lookup] at e43
   clear hf;go_simp;refine hK _ _ (Below.refl _ _) ?_;with_reducible rfl
  refine' Grow.stepC _ rfl ?_ ?_;rotate_left 1
  ·refine Obl.plain rfl ?_;intro ac wg K hsz hW hf hK;clear hsz;have e44:=hf 44 (by decide)
   simp [slotFact,List.lookup] at e44
   clear hf;go_simp;refine hK _ _ (Below.refl _ _) ?_;with_reducible rfl
  refine' Grow.stepC _ rfl ?_ ?_;rotate_left 1
  ·refine Obl.plain rfl ?_;intro ac wg K hsz hW hf hK;clear hsz;have e45:=hf 45 (by decide)
   simp [slotFact,List.lookup] at e45
   clear hf;have c7:=(cell_below hW HYB5.out).trans HYV5.out;go_simp;refine hK _ _ (Below.refl _ _) ?_;with_reducible rfl
  refine' Grow.stepC _ rfl ?_ ?_;rotate_left 1
  ·refine Obl.plain rfl ?_;intro ac wg K hsz hW hf hK;clear hsz;have e46:=hf 46 (by decide)
   simp [slotFact,List.lookup] at e46
   clear hf;go_simp;refine hK _ _ (Below.refl _ _) ?_;with_reducible rfl
  refine' Grow.stepC _ rfl ?_ ?_;rotate_left 1
  ·refine Obl.plain rfl ?_;intro ac wg K hsz hW hf hK;clear hsz;have e42:=hf 42 (by decide)
   simp [slotFact,List.lookup] at e42
   have e47:=hf 47 (by decide)
   simp [slotFact,List.lookup] at e47
   clear hf;go_simp;refine hK _ _ (Below.refl _ _) ?_;with_reducible rfl
  refine Grow.done ?_;intro q wy hW hf;simp only [List.forall_mem_cons] at hf;obtain ⟨h48,h47,h46,h45,h44,h43,h42,-⟩:=hf;have Br6:=upK Br5 hW;have HWY:=hidK hW;obtain ⟨r0,r1,r2,r3,r4,r5,r6,r7⟩:=cs8 Br6.out;have fr0:=froK Br6.out 0;have fr1:=froK Br6.out 1;have fr2:=froK Br6.out 2;have fr3:=froK Br6.out 3;have fr4:=froK Br6.out 4;have fr5:=froK Br6.out 5;have fr6:=froK Br6.out 6;have fr7:=froK Br6.out 7;have hrl:=lt_of_some Br6.out;intro K hK;rw [if_pos (by rfl)];simp only [putsAll,List.foldr,Act.put,List.setIfInBounds_toArray,List.set_cons_zero,List.set_cons_succ,h48,h47,h46,h45,h44,h43,h42];simp only [List.getLast];go_simp;refine hK _ _ ?_;refine hK0 _ _ ?_;clear hK hK0 K K0;have HV : Hid (AttIs c ⟨volC c i (onV v (wo (fun s : ByteArray => s) y.d v.zs)),wOff ++ y.n,0⟩):=.inr (.inl ⟨HT.out,es,y,i,v,HES.out,HY0.out,HV0.out,HVN.out,by rw [HVN.out]⟩)
  go_wp2
  refine bodyPost_ret (v:=.agg #[.slice x1 m1 n1,.slice x2 m2 n2,.slice (some ⟨g,0,none⟩) l3 n3,.slice x4 m4 n4,.slice x5 m5 n5,.int .i64 c.now,.string (wOff ++ y.n),.int .i64 0]) (by simp [results,Tryz.results17,go_sem, *];rfl) rfl ⟨⟨x1,m1,n1,x2,m2,n2,some ⟨g,0,none⟩,l3,n3,x4,m4,n4,x5,m5,n5⟩,⟨volC c i (onV v (wo (fun s : ByteArray => s) y.d v.zs)),wOff ++ y.n,0⟩,rfl,HV.out,?_,set_below (show w.heap.size ≤ w.heap.size + 1 by omega) (set_below (show w.heap.size ≤ w.heap.size + 1 by omega) (set_below (show w.heap.size ≤ w.heap.size + 1 by omega) (set_below (show w.heap.size ≤ w.heap.size + 1 by omega) (set_below (show w.heap.size ≤ w.heap.size + 1 by omega) (set_below (show w.heap.size ≤ w.heap.size + 1 by omega) (set_below (show w.heap.size ≤ w.heap.size + 1 by omega) (set_below (show w.heap.size ≤ w.heap.size + 1 by omega) (HB5.out.trans (HWY.out.mono HB5.out.size)))))))))⟩;refine ClFr.volC (wz:=wz) (va:=sa) (vl:=sl) (vc:=sc) HO.out rfl HV0.out hq2 (HY.out.out.trans (HWZ.out.mono HY.out.le)) HTO.out.row (fun b9 o9 e9 hn9 => ?_) (fun k h1 h2 => ?_)
  ·rcases HTO.out.2 with h5 | ⟨g5,cu5,e5,hS5,_⟩
   ·exact absurd h5 hn9
   ·rw [e9] at e5
    cases e5
    have h6 : W.heap.size ≤ b9:=hS5;have:=HY.out.le
    omega
  ·rw [Below.heap_setCell _ _ _ _ (show k ≠ w.heap.size + 1 by omega),Below.heap_setCell _ _ _ _ (show k ≠ w.heap.size + 1 by omega),Below.heap_setCell _ _ _ _ (show k ≠ w.heap.size + 1 by omega),Below.heap_setCell _ _ _ _ (show k ≠ w.heap.size + 1 by omega),Below.heap_setCell _ _ _ _ (show k ≠ w.heap.size + 1 by omega),Below.heap_setCell _ _ _ _ (show k ≠ w.heap.size + 1 by omega),Below.heap_setCell _ _ _ _ (show k ≠ w.heap.size + 1 by omega),Below.heap_setCell _ _ _ _ (show k ≠ w.heap.size + 1 by omega),HWY.out.block k (by omega),hW5]
 have hei : ¬ (0 : Int) < el:=by omega
 have HNX : Hid (∀ q,¬ Xn c c.vs.length q):=fun q hq => by
  have h1:=(HES.out.2 q).2 hq;obtain ⟨j,hj⟩:=List.getElem?_of_mem h1;have:=(List.getElem?_eq_some_iff.1 hj).1
  omega
 clear HER HES HEB;obtain ⟨k0,k1,k2,k3,k4,k5⟩:=cs6 Bk.out;have ltk_3:=lt_of_some Bk.out;obtain ⟨o0,o1,o2,o3,o4,o5⟩:=cs6 Bo.out;have lto_3:=lt_of_some Bo.out;go_wp2_with fail;refine (swan_any ⟨a1,l1,y1,a2,l2,y2,a3,l3,y3,a4,l4,y4,a5,l5,y5⟩ c _ (HR.out.below HB.out) HT.out).mono ?_;rintro e w4 ⟨wa,wl,wc,ws,rfl,ho,hrq,hmem,hle,hb⟩;clear k0 k1 k2 k3 k4 k5 ltk_3 o0 o1 o2 o3 o4 o5 lto_3;replace Bk:=upK Bk hb;replace Br:=upK Br hb;replace Bo:=upK Bo hb;replace HY:=hidK (HY.out.below hb);replace HB:=upB HB hb;clear hb
 have HEB : Hid (∀ b o,wa = some ⟨b,o,none⟩ → 0 < wl → w3.heap.size < b):=fun b o e hp => by
  obtain ⟨h1,-,-,h4⟩:=ho
  rcases h4 with h4 | ⟨g',cur,H,e',hat⟩
  ·rw [h4] at h1;simp at h1;omega
  ·rw [e] at e'
   cases e'
   have h5 : w3.heap.size + 1 ≤ b:=hat.inS
   omega
 have HER:=hidK ho.row
 have hwl : ws.length = wl:=by simpa using ho.row.1
 have HES:=hidK (And.intro hrq hmem);clear ho hrq hmem;obtain ⟨k0,k1,k2,k3,k4,k5⟩:=cs6 Bk.out;have ltk_4:=lt_of_some Bk.out;obtain ⟨o0,o1,o2,o3,o4,o5⟩:=cs6 Bo.out;have lto_4:=lt_of_some Bo.out
 go_wp2
 clear k0 k1 k2 k3 k4 k5 ltk_4 o0 o1 o2 o3 o4 o5 lto_4;have h4o : w2.heap.size < w4.heap.size:=lt_of_some Bo.out
 go_loopw [7] (fun vi wr => ∃ k : Nat,k ≤ wl ∧ vi = .int .i64 k ∧ Hid (lakL c (ws.take k) = []) ∧ Hid (Below w4.heap.size w4 wr)) (fun vi _ => wl - (intOf vi).toNat)
 case atStart => exact ⟨0,by omega,rfl,rfl,Below.refl _ _⟩
 case round =>
  obtain ⟨k,hk,rfl,HLK,HL⟩:=hrel;replace Bk:=hidK ((HL.out.block _ (lt_of_some Bk.out)).trans Bk.out);replace Br:=hidK ((HL.out.block _ (lt_of_some Br.out)).trans Br.out);replace Bo:=hidK ((HL.out.block _ (lt_of_some Bo.out)).trans Bo.out);replace HY:=hidK (HY.out.below HL.out);replace HB:=hidK (HB.out.trans (HL.out.mono HB.out.size));have hLs:=HL.out.size
  by_cases hlt : k < wl
  ·have hk1 : (k : Int) < wl:=by omega
   have hk0 : ¬ (k : Int) < 0:=by omega
   obtain ⟨b,o,y,rfl,hbl,hy,hat⟩:=qd_at (HER.out.below HL.out) hlt;obtain ⟨-,hzd,hc0,hc1⟩:=qd_cells hat;have HY0:=hidK hy;obtain ⟨i,j,v,n,g1,g2,g3,g4⟩:=wn_has HT.out ((HES.out.2 y).1 (List.mem_of_getElem? hy));have HV0:=hidK g1;have HVN:=hidK g2;have HNJ:=hidK (And.intro g3 g4);have HCI:=hidK (CanQ.iff HT.out g1 g2 g3 g4)
   have hi3 : i < l3:=by have:=(List.getElem?_eq_some_iff.1 g1).1;omega
   have HEB2 : Hid (w3.heap.size < b):=HEB.out b o rfl (by omega);have HYN:=hidK hc0;have HY1:=hidK hc1;have HYB:=hidK hbl;have HZD:=hidK hzd;clear hat hy g1 g2 g3 g4 hzd
   by_cases hcan : CanN c v n
   rotate_left
   ·have HN : Hid (lakL c (ws.take (k + 1)) = lakL c (ws.take k)):=lak_no HY0.out (fun h => hcan (HCI.out.1 h));have HCB : Hid (¬ CanN c v n):=hcan;obtain ⟨k0,k1,k2,k3,k4,k5⟩:=cs6 Bk.out;have ltk_4:=lt_of_some Bk.out;obtain ⟨o0,o1,o2,o3,o4,o5⟩:=cs6 Bo.out;have lto_4:=lt_of_some Bo.out;go_wp2_with fail;clear k0 k1 k2 k3 k4 k5 ltk_4 o0 o1 o2 o3 o4 o5 lto_4;have Gk:=Bk;have Gr:=Br;have Go:=Bo;have HW:=HB;obtain ⟨k0,k1,k2,k3,k4,k5⟩:=sl6 Gk;have yn:=fun q : Wd wr => (q.cell hbl).trans hc0;have yd:=fun q : Wd wr => (q.cell hbl).trans hc1;have hne0:=Wd.ne wr;have HC0:=hidK (fun q : Wd wr => scan_is ⟨a1,l1,y1,a2,l2,y2,a3,l3,y3,a4,l4,y4,a5,l5,y5⟩ c y i j v n q.w (HR.out.below (HW.out.trans (q.b.mono HW.out.size))) HT.out HV0.out HVN.out HNJ.out.1 HNJ.out.2 false ⟨fun h => (by cases h),fun h => absurd h HCB.out⟩);go_wp2_with fail;refine wp_region_wide (by kernel_rfl) (by kernel_rfl) ?_
    repeat (go_big_quiet_step (first | (go_at_call 54;exact Calls.wide (HC0.out _)) | fail))
    refine wpQuiet_nil ?_;rintro _ ⟨q1,rfl⟩;have HB5:=upB HW q1.b;have Ck:=upK Gk q1.b;have Cr:=upK Gr q1.b;have Co:=upK Go q1.b;have CHY:=hidK ((HY.out).below q1.b);clear hne0 HW HB HC0 k0 k1 k2 k3 k4 k5 yn yd Gk Gr Go Bk Br Bo HY hbl hc0 hc1;have HB:=HB5;clear HB5;have HY:=CHY;clear CHY;have Bk:=Ck;clear Ck;have Br:=Cr;clear Cr;have Bo:=Co;clear Co;obtain ⟨k0,k1,k2,k3,k4,k5⟩:=cs6 Bk.out;have ltk_5:=lt_of_some Bk.out;obtain ⟨o0,o1,o2,o3,o4,o5⟩:=cs6 Bo.out;have lto_5:=lt_of_some Bo.out
    go_wp2
    refine ⟨⟨k + 1,by omega,by go_num,?_,HL.out.trans (q1.b.mono hLs)⟩,by simp [intOf];omega⟩;rw [HN.out];exact HLK
   have HF : Hid ((lakL c ws)[0]? = some y):=lak_first HY0.out (HCI.out.2 hcan) HLK.out;have HCB : Hid (CanN c v n):=hcan;have HCN : Hid (¬ y.d ∈ v.zs):=fun h9 => hcan.1 (by obtain ⟨q,hq⟩:=List.getElem?_of_mem h9;rw [HNJ.out.2];exact ⟨q,hq⟩);clear hcan;obtain ⟨k0,k1,k2,k3,k4,k5⟩:=cs6 Bk.out;have ltk_4:=lt_of_some Bk.out;obtain ⟨o0,o1,o2,o3,o4,o5⟩:=cs6 Bo.out;have lto_4:=lt_of_some Bo.out;go_wp2_with fail;clear k0 k1 k2 k3 k4 k5 ltk_4 o0 o1 o2 o3 o4 o5 lto_4;have Gk:=Bk;have Gr:=Br;have Go:=Bo;have HW:=HB;obtain ⟨k0,k1,k2,k3,k4,k5⟩:=sl6 Gk;have yn:=fun q : Wd wr => (q.cell hbl).trans hc0;have yd:=fun q : Wd wr => (q.cell hbl).trans hc1;have hne0:=Wd.ne wr;have HC0:=hidK (fun q : Wd wr => scan_is ⟨a1,l1,y1,a2,l2,y2,a3,l3,y3,a4,l4,y4,a5,l5,y5⟩ c y i j v n q.w (HR.out.below (HW.out.trans (q.b.mono HW.out.size))) HT.out HV0.out HVN.out HNJ.out.1 HNJ.out.2 true ⟨fun _ => HCB.out,fun _ => rfl⟩);go_wp2_with fail;refine wp_region_wide (by kernel_rfl) (by kernel_rfl) ?_
   repeat (go_big_quiet_step (first | (go_at_call 54;exact Calls.wide (HC0.out _)) | fail))
   refine wpQuiet_nil ?_;rintro _ ⟨q1,rfl⟩;have HB5:=upB HW q1.b;have Ck:=upK Gk q1.b;have Cr:=upK Gr q1.b;have Co:=upK Go q1.b;have CHY:=hidK ((HY.out).below q1.b);clear hne0 HW HB HC0 k0 k1 k2 k3 k4 k5 yn yd Gk Gr Go Bk Br Bo HY hbl hc0 hc1;have HB:=HB5;clear HB5;have HY:=CHY;clear CHY;have Bk:=Ck;clear Ck;have Br:=Cr;clear Cr;have Bo:=Co;clear Co;have hbl2 : b < q1.w.heap.size:=Nat.lt_of_lt_of_le HYB.out q1.b.size;have hy0 : q1.w.cell? ⟨b,o + k * 2,none⟩ = some (.string y.n):=(q1.cell HYB.out).trans HYN.out;have HYN2:=hidK hy0;have HYB3:=hidK hbl2;have HY12 : Hid (q1.w.cell? ⟨b,o + k * 2 + 1,none⟩ = some (.string y.d)):=(q1.cell HYB.out).trans HY1.out;obtain ⟨k0,k1,k2,k3,k4,k5⟩:=cs6 Bk.out;have ltk_5:=lt_of_some Bk.out;obtain ⟨o0,o1,o2,o3,o4,o5⟩:=cs6 Bo.out;have lto_5:=lt_of_some Bo.out;go_wp2_with fail;clear k0 k1 k2 k3 k4 k5 ltk_5 o0 o1 o2 o3 o4 o5 lto_5;have Gk:=Bk;have Gr:=Br;have Go:=Bo;have HW:=HB;obtain ⟨k0,k1,k2,k3,k4,k5⟩:=sl6 Gk;have yn:=fun q : Wd q1.w => (q.cell hbl2).trans hy0;have hne0:=Wd.ne q1.w;have HC0:=hidK (fun q : Wd q1.w => sxvd_hit ⟨a1,l1,y1,a2,l2,y2,a3,l3,y3,a4,l4,y4,a5,l5,y5⟩ c.now c.vs y.n q.w (HR.out.v.below (HW.out.trans (q.b.mono HW.out.size))) HT.out.2.1.2.2.1.2.2 HV0.out HVN.out);go_wp2_with fail;refine wp_region_wide (by kernel_rfl) (by kernel_rfl) ?_
   repeat (go_big_quiet_step (first | (go_at_call 52;exact Calls.wide (HC0.out _)) | fail))
   refine wpQuiet_nil ?_;rintro _ ⟨q2,rfl⟩;have HB6:=upB HW q2.b;have Ck:=upK Gk q2.b;have Cr:=upK Gr q2.b;have Co:=upK Go q2.b;have CHY:=hidK ((HY.out).below q2.b);clear hne0 HW HB HC0 k0 k1 k2 k3 k4 k5 yn Gk Gr Go Bk Br Bo HY hy0 hbl2;have HB:=HB6;clear HB6;have HY:=CHY;clear CHY;have Bk:=Ck;clear Ck;have Br:=Cr;clear Cr;have Bo:=Co;clear Co;obtain ⟨g,cs,hd3,hgB,hgb,ga,gl,gp,hgc,hgt⟩:=HO.out.blk3 HV0.out;have hd3' : x3 = some ⟨g,0,none⟩:=hd3;subst hd3';have hgs : g < w2.heap.size:=lt_of_some hgb;have HGB:=hidK hgb;have HGC:=hidK hgc;have HGT:=hidK hgt
   have hgl64 : gl ≤ 64:=by have h1 : v.zs.length = gl:=hgt.1;have:=(HT.out.on HV0.out).1;omega
   have hil3 : (i : Int) < l3:=by omega
   have hii0 : ¬ (i : Int) < 0:=by omega
   clear hd3 hgb hgc hgt;obtain ⟨W,hW0⟩ : ∃ W,W = q2.w:=⟨_,rfl⟩;rw [← hW0] at HB HY Bk Br Bo
   have HYW : Hid (W.cell? ⟨b,o + k * 2 + 1,none⟩ = some (.string y.d)):=by
    rw [hW0];exact (q2.cell HYB3.out).trans HY12.out
   have HYV : Hid (W.cell? ⟨b,o + k * 2,none⟩ = some (.string y.n)):=by
    rw [hW0];exact (q2.cell HYB3.out).trans HYN2.out
   have HYB2 : Hid (b < W.heap.size):=by rw [hW0];exact Nat.lt_of_lt_of_le HYB3.out q2.b.size
   replace HEB2 : Hid (w2.heap.size < b):=by have h1:=HEB2.out;have h2:=HQ3.out;show _ < _;omega
   go_wp2_with fail;rw [← hW0];clear hW0;rename_i K0 hK0;refine Gt.wp_region_grow_last (by kernel_rfl) rfl rfl (by kernel_rfl) ?_;refine' Grow.stepC _ rfl ?_ ?_;rotate_left 1
   ·refine Obl.plain rfl ?_;intro ac wg K hsz hW hf hK;clear hsz;have e3:=hf 3 (by decide)
    simp [slotFact,List.lookup] at e3
    clear hf;go_simp;refine hK _ _ (Below.refl _ _) ?_;with_reducible rfl
   refine' Grow.stepC _ rfl ?_ ?_;rotate_left 1
   ·refine Obl.plain rfl ?_;intro ac wg K hsz hW hf hK;clear hsz;have e70:=hf 70 (by decide)
    simp [slotFact,List.lookup] at e70
    clear hf;obtain ⟨o0,o1,o2,o3,o4,o5⟩:=cs6 ((hW.block _ (lt_of_some Bo.out)).trans Bo.out);go_simp;refine hK _ _ (Below.refl _ _) ?_;with_reducible rfl
   refine' Grow.stepC _ rfl ?_ ?_;rotate_left 1
   ·refine Obl.plain rfl ?_;intro ac wg K hsz hW hf hK;clear hsz;have e8:=hf 8 (by decide)
    simp [slotFact,List.lookup] at e8
    clear hf;go_simp;refine hK _ _ (Below.refl _ _) ?_;with_reducible rfl
   refine' Grow.stepC _ rfl ?_ ?_;rotate_left 1
   ·refine Obl.plain rfl ?_;intro ac wg K hsz hW hf hK;clear hsz;have e3:=hf 3 (by decide)
    simp [slotFact,List.lookup] at e3
    clear hf;go_simp;refine hK _ _ (Below.refl _ _) ?_;with_reducible rfl
   refine' Grow.stepC _ rfl ?_ ?_;rotate_left 1
   ·refine Obl.plain rfl ?_;intro ac wg K hsz hW hf hK;clear hsz;have e73:=hf 73 (by decide)
    simp [slotFact,List.lookup] at e73
    clear hf;obtain ⟨o0,o1,o2,o3,o4,o5⟩:=cs6 ((hW.block _ (lt_of_some Bo.out)).trans Bo.out);go_simp;refine hK _ _ (Below.refl _ _) ?_;with_reducible rfl
   refine' Grow.stepC _ rfl ?_ ?_;rotate_left 1
   ·refine Obl.plain rfl ?_;intro ac wg K hsz hW hf hK;clear hsz;have e8:=hf 8 (by decide)
    simp [slotFact,List.lookup] at e8
    clear hf;go_simp;refine hK _ _ (Below.refl _ _) ?_;with_reducible rfl
   refine' Grow.stepC _ rfl ?_ ?_;rotate_left 1
   ·refine Obl.plain rfl ?_;intro ac wg K hsz hW hf hK;clear hsz;have e74:=hf 74 (by decide)
    simp [slotFact,List.lookup] at e74
    have e75:=hf 75 (by decide)
    simp [slotFact,List.lookup] at e75
    clear hf;go_simp;refine hK _ _ (Below.refl _ _) ?_;with_reducible rfl
   refine' Grow.stepC _ rfl ?_ ?_;rotate_left 1
   ·refine Obl.plain rfl ?_;intro ac wg K hsz hW hf hK;clear hsz;have e76:=hf 76 (by decide)
    simp [slotFact,List.lookup] at e76
    clear hf;go_simp;refine hK _ _ (Below.refl _ _) ?_;with_reducible rfl
   refine' Grow.stepC _ rfl ?_ ?_;rotate_left 1
   ·refine Obl.plain rfl ?_;intro ac wg K hsz hW hf hK;clear hsz;have e77:=hf 77 (by decide)
    simp [slotFact,List.lookup] at e77
    clear hf;have c7 : wg.cell? ⟨g,i * 8 + 7,none⟩ = some (.slice ga gl gp):=(cellK (((HY.out.out.trans (hW.mono HY.out.le)).block g hgs).trans HGB.out) _).trans HGC.out;go_simp;refine hK _ _ (Below.refl _ _) ?_;with_reducible rfl
   refine' Grow.stepC _ rfl ?_ ?_;rotate_left 1
   ·refine Obl.plain rfl ?_;intro ac wg K hsz hW hf hK;clear hsz;have e6:=hf 6 (by decide)
    simp [slotFact,List.lookup] at e6
    clear hf;go_simp;refine hK _ _ (Below.refl _ _) ?_;with_reducible rfl
   refine' Grow.stepC _ rfl ?_ ?_;rotate_left 1
   ·refine Obl.plain rfl ?_;intro ac wg K hsz hW hf hK;clear hsz;have e7:=hf 7 (by decide)
    simp [slotFact,List.lookup] at e7
    clear hf;go_simp;refine hK _ _ (Below.refl _ _) ?_;with_reducible rfl
   refine' Grow.stepC _ rfl ?_ ?_;rotate_left 1
   ·refine Obl.plain rfl ?_;intro ac wg K hsz hW hf hK;clear hsz;have e79:=hf 79 (by decide)
    simp [slotFact,List.lookup] at e79
    have e80:=hf 80 (by decide)
    simp [slotFact,List.lookup] at e80
    clear hf;go_simp;refine hK _ _ (Below.refl _ _) ?_;with_reducible rfl
   refine' Grow.stepC _ rfl ?_ ?_;rotate_left 1
   ·refine Obl.plain rfl ?_;intro ac wg K hsz hW hf hK;clear hsz;have e81:=hf 81 (by decide)
    simp [slotFact,List.lookup] at e81
    clear hf;go_simp;refine hK _ _ (Below.refl _ _) ?_;with_reducible rfl
   refine' Grow.stepC _ rfl ?_ ?_;rotate_left 1
   ·refine Obl.plain rfl ?_;intro ac wg K hsz hW hf hK;clear hsz;have e82:=hf 82 (by decide)
    simp [slotFact,List.lookup] at e82
    clear hf;have c7:=(cell_below hW HYB2.out).trans HYW.out;go_simp;refine hK _ _ (Below.refl _ _) ?_;with_reducible rfl
   refine Grow.step (PutO W y.d v.zs) rfl (PutO.mono W y.d v.zs) ?_ ?_
   ·refine Obl.plain rfl ?_;intro ac wg K hsz hW hf hK;clear hsz;have e78:=hf 78 (by decide)
    simp [slotFact,List.lookup] at e78
    have e83:=hf 83 (by decide)
    simp [slotFact,List.lookup] at e83
    clear hf;go_simp;refine (sputF_any ga gl gp v.zs y.d _ (HGT.out.below (HY.out.out.trans (hW.mono HY.out.le))) hgl64 HZD.out).mono ?_;rintro e w6 ⟨sa,sl,sc,ys,rfl,-,hput,how,hb6⟩;have hs6:=hW.size
    rcases how with how | how
    ·exact absurd how HCN.out
    exact hK _ _ hb6 ⟨sa,sl,sc,ys,rfl,how.keep (fun _ _ _ => rfl) (fun k _ s => by have s1 : wg.heap.size ≤ k:=s;show W.heap.size ≤ k;omega),hput⟩
   refine' Grow.stepC _ rfl ?_ ?_;rotate_left 1
   ·refine Obl.plain rfl ?_;intro ac wg K hsz hW hf hK;clear hsz;have e71:=hf 71 (by decide)
    simp [slotFact,List.lookup] at e71
    have e72:=hf 72 (by decide)
    simp [slotFact,List.lookup] at e72
    clear hf;go_simp;refine hK _ _ (Below.refl _ _) ?_;with_reducible rfl
   refine' Grow.stepC _ rfl ?_ ?_;rotate_left 1
   ·refine Obl.plain rfl ?_;intro ac wg K hsz hW hf hK;clear hsz;have e85:=hf 85 (by decide)
    simp [slotFact,List.lookup] at e85
    clear hf;go_simp;refine hK _ _ (Below.refl _ _) ?_;with_reducible rfl
   refine Grow.done ?_;intro q wz hW hf;simp only [List.forall_mem_cons] at hf;obtain ⟨h86,h85,h84,h83,h82,h81,h80,h79,h78,h77,h76,h75,h74,h73,h72,h71,h70,-⟩:=hf;obtain ⟨sa,sl,sc,ys,hv84,hto,hput⟩:=h84;have HTO:=hidK hto;have HPUT:=hidK hput;have HWZ:=hidK hW;have hwg : wz.heap[g]? = some (.cells cs 81 (0,0)):=((HY.out.out.trans (hW.mono HY.out.le)).block g hgs).trans HGB.out;have hfz:=froK hwg (i * 8 + 7);have hcz : wz.cell? ⟨g,i * 8 + 7,none⟩ = some (.slice ga gl gp):=(cellK hwg _).trans HGC.out;clear hto hput;intro K hK;rw [if_pos (by rfl)];simp only [putsAll,List.foldr,Act.put,List.setIfInBounds_toArray,List.set_cons_zero,List.set_cons_succ,h86,h85,h83,h82,h81,h80,h79,h78,h77,h76,h75,h74,h73,h72,h71,h70,hv84];simp only [List.getLast];go_simp;refine hK _ _ ?_;refine hK0 _ _ ?_;clear hK hK0 K K0;obtain ⟨W5,hW5⟩ : ∃ W5,W5 = wz.setCell ⟨g,i * 8 + 7,none⟩ (.slice sa sl sc):=⟨_,rfl⟩;rw [← hW5];have hq1 : w.heap.size + 1 < w1.heap.size:=HQ1.out;have hq2 : w1.heap.size ≤ w2.heap.size:=HQ2.out;have hsz:=HWZ.out.size
   have HB5 : Hid (Below w.heap.size w W5):=by rw [hW5];exact set_below (show w.heap.size ≤ g by omega) (HB.out.trans (HWZ.out.mono HB.out.size))
   have hsz5 : W5.heap.size = wz.heap.size:=by rw [hW5];simp
   have Br5 : Hid (W5.heap[w.heap.size + 1]? = some (.cells #[.slice none 0 0,.slice none 0 0,.slice none 0 0,.slice none 0 0,.slice none 0 0,.int .i64 0,.string ⟨#[]⟩,.int .i64 0] 46 (0,0))):=by rw [hW5];exact (Below.heap_setCell _ _ _ _ (show w.heap.size + 1 ≠ g by omega)).trans ((HWZ.out.block _ (lt_of_some Br.out)).trans Br.out)
   have Bo5 : Hid (W5.heap[w2.heap.size]? = some (.cells #[.slice x1 m1 n1,.slice x2 m2 n2,.slice (some ⟨g,0,none⟩) l3 n3,.slice x4 m4 n4,.slice x5 m5 n5,.int .i64 c.now] 38 (0,0))):=by rw [hW5];exact (Below.heap_setCell _ _ _ _ (show w2.heap.size ≠ g by omega)).trans ((HWZ.out.block _ (lt_of_some Bo.out)).trans Bo.out)
   have HYV5 : Hid (W5.cell? ⟨b,o + k * 2,none⟩ = some (.string y.n)):=by
    have hbg : ¬ b = g:=by have:=HEB2.out;omega
    have e9 : W5.heap[b]? = wz.heap[b]?:=by rw [hW5];exact Below.heap_setCell _ _ _ _ hbg
    have h9:=(cell_below HWZ.out HYB2.out).trans HYV.out
    show W5.cell? _ = _
    simp only [World.cell?,e9] at h9 ⊢;exact h9
   have HYB5 : Hid (b < W5.heap.size):=by have:=HYB2.out;show b < _;omega
   have hn20:=(HT.out.2.1.2.2.1.2.1 i v HV0.out).1.2.1;rw [HVN.out] at hn20
   have hn4 : ¬ 9223372036854775807 < 3 + y.n.size:=by omega
   clear hfz hcz hwg hn20;go_wp2_with fail;rename_i K0 hK0;refine wp_region_grow_last (by kernel_rfl) rfl rfl (by kernel_rfl) ?_;refine' Grow.stepC _ rfl ?_ ?_;rotate_left 1
   ·refine Obl.plain rfl ?_;intro ac wg K hsz hW hf hK;clear hsz;have e3:=hf 3 (by decide)
    simp [slotFact,List.lookup] at e3
    clear hf;obtain ⟨o0,o1,o2,o3,o4,o5⟩:=cs6 ((hW.block _ (lt_of_some Bo5.out)).trans Bo5.out);go_simp;refine hK _ _ (Below.refl _ _) ?_;with_reducible rfl
   refine' Grow.stepC _ rfl ?_ ?_;rotate_left 1
   ·refine Obl.plain rfl ?_;intro ac wg K hsz hW hf hK;clear hsz;have e6:=hf 6 (by decide)
    simp [slotFact,List.lookup] at e6
    clear hf;go_simp;refine hK _ _ (Below.refl _ _) ?_;with_reducible rfl
   refine' Grow.stepC _ rfl ?_ ?_;rotate_left 1
   ·refine Obl.plain rfl ?_;intro ac wg K hsz hW hf hK;clear hsz;have e7:=hf 7 (by decide)
    simp [slotFact,List.lookup] at e7
    clear hf;go_simp;refine hK _ _ (Below.refl _ _) ?_;with_reducible rfl
   refine' Grow.stepC _ rfl ?_ ?_;rotate_left 1
   ·refine Obl.plain rfl ?_;intro ac wg K hsz hW hf hK;clear hsz;have e88:=hf 88 (by decide)
    simp [slotFact,List.lookup] at e88
    have e89:=hf 89 (by decide)
    simp [slotFact,List.lookup] at e89
    clear hf;go_simp;refine hK _ _ (Below.refl _ _) ?_;with_reducible rfl
   refine' Grow.stepC _ rfl ?_ ?_;rotate_left 1
   ·refine Obl.plain rfl ?_;intro ac wg K hsz hW hf hK;clear hsz;have e90:=hf 90 (by decide)
    simp [slotFact,List.lookup] at e90
    clear hf;go_simp;refine hK _ _ (Below.refl _ _) ?_;with_reducible rfl
   refine' Grow.stepC _ rfl ?_ ?_;rotate_left 1
   ·refine Obl.plain rfl ?_;intro ac wg K hsz hW hf hK;clear hsz;have e91:=hf 91 (by decide)
    simp [slotFact,List.lookup] at e91
    clear hf;have c7:=(cell_below hW HYB5.out).trans HYV5.out;go_simp;refine hK _ _ (Below.refl _ _) ?_;with_reducible rfl
   refine' Grow.stepC _ rfl ?_ ?_;rotate_left 1
   ·refine Obl.plain rfl ?_;intro ac wg K hsz hW hf hK;clear hsz;have e92:=hf 92 (by decide)
    simp [slotFact,List.lookup] at e92
    clear hf;go_simp;refine hK _ _ (Below.refl _ _) ?_;with_reducible rfl
   refine' Grow.stepC _ rfl ?_ ?_;rotate_left 1
   ·refine Obl.plain rfl ?_;intro ac wg K hsz hW hf hK;clear hsz;have e87:=hf 87 (by decide)
    simp [slotFact,List.lookup] at e87
    have e93:=hf 93 (by decide)
    simp [slotFact,List.lookup] at e93
    clear hf;go_simp;refine hK _ _ (Below.refl _ _) ?_;with_reducible rfl
   refine Grow.done ?_;intro q wy hW hf;simp only [List.forall_mem_cons] at hf;obtain ⟨h94,h93,h92,h91,h90,h89,h88,h87,-⟩:=hf;have Br6:=upK Br5 hW;have HWY:=hidK hW;obtain ⟨r0,r1,r2,r3,r4,r5,r6,r7⟩:=cs8 Br6.out;have fr0:=froK Br6.out 0;have fr1:=froK Br6.out 1;have fr2:=froK Br6.out 2;have fr3:=froK Br6.out 3;have fr4:=froK Br6.out 4;have fr5:=froK Br6.out 5;have fr6:=froK Br6.out 6;have fr7:=froK Br6.out 7;have hrl:=lt_of_some Br6.out;intro K hK;rw [if_pos (by rfl)];simp only [putsAll,List.foldr,Act.put,List.setIfInBounds_toArray,List.set_cons_zero,List.set_cons_succ,h94,h93,h92,h91,h90,h89,h88,h87];simp only [List.getLast];go_simp;refine hK _ _ ?_;refine hK0 _ _ ?_;clear hK hK0 K K0;have HV : Hid (AttIs c ⟨volC c i (onV v ys),wOn ++ y.n,0⟩):=.inr (.inr ⟨HT.out,HNX.out,ws,HES.out,.inl ⟨y,i,v,ys,HF.out,HV0.out,HVN.out,HPUT.out,by rw [HVN.out]⟩⟩)
   go_wp2
   refine bodyPost_ret (v:=.agg #[.slice x1 m1 n1,.slice x2 m2 n2,.slice (some ⟨g,0,none⟩) l3 n3,.slice x4 m4 n4,.slice x5 m5 n5,.int .i64 c.now,.string (wOn ++ y.n),.int .i64 0]) (by simp [results,Tryz.results17,go_sem, *];rfl) rfl ⟨⟨x1,m1,n1,x2,m2,n2,some ⟨g,0,none⟩,l3,n3,x4,m4,n4,x5,m5,n5⟩,⟨volC c i (onV v ys),wOn ++ y.n,0⟩,rfl,HV.out,?_,set_below (show w.heap.size ≤ w.heap.size + 1 by omega) (set_below (show w.heap.size ≤ w.heap.size + 1 by omega) (set_below (show w.heap.size ≤ w.heap.size + 1 by omega) (set_below (show w.heap.size ≤ w.heap.size + 1 by omega) (set_below (show w.heap.size ≤ w.heap.size + 1 by omega) (set_below (show w.heap.size ≤ w.heap.size + 1 by omega) (set_below (show w.heap.size ≤ w.heap.size + 1 by omega) (set_below (show w.heap.size ≤ w.heap.size + 1 by omega) (HB5.out.trans (HWY.out.mono HB5.out.size)))))))))⟩;refine ClFr.volC (wz:=wz) (va:=sa) (vl:=sl) (vc:=sc) HO.out rfl HV0.out hq2 (HY.out.out.trans (HWZ.out.mono HY.out.le)) HTO.out.row (fun b9 o9 e9 hn9 => ?_) (fun k h1 h2 => ?_)
   ·rcases HTO.out.2 with h5 | ⟨g5,cu5,e5,hS5,_⟩
    ·exact absurd h5 hn9
    ·rw [e9] at e5
     cases e5
     have h6 : W.heap.size ≤ b9:=hS5;have:=HY.out.le
     omega
   ·rw [Below.heap_setCell _ _ _ _ (show k ≠ w.heap.size + 1 by omega),Below.heap_setCell _ _ _ _ (show k ≠ w.heap.size + 1 by omega),Below.heap_setCell _ _ _ _ (show k ≠ w.heap.size + 1 by omega),Below.heap_setCell _ _ _ _ (show k ≠ w.heap.size + 1 by omega),Below.heap_setCell _ _ _ _ (show k ≠ w.heap.size + 1 by omega),Below.heap_setCell _ _ _ _ (show k ≠ w.heap.size + 1 by omega),Below.heap_setCell _ _ _ _ (show k ≠ w.heap.size + 1 by omega),Below.heap_setCell _ _ _ _ (show k ≠ w.heap.size + 1 by omega),HWY.out.block k (by omega),hW5]
  have hk1 : ¬ (k : Int) < wl:=by omega
  have HV : Hid (AttIs c (co0 6)):=.inr (.inr ⟨HT.out,HNX.out,ws,HES.out,.inr ⟨by have h9:=HLK.out;rw [List.take_of_length_le (by omega)] at h9;exact h9,rfl⟩⟩);obtain ⟨k0,k1,k2,k3,k4,k5⟩:=cs6 Bk.out;have ltk_4:=lt_of_some Bk.out;go_wp2_with fail;refine (sill_any 6 _).mono ?_;rintro e w5 ⟨rfl,hb⟩;clear k0 k1 k2 k3 k4 k5 ltk_4;replace Bk:=upK Bk hb;replace Br:=upK Br hb;replace Bo:=upK Bo hb;replace HY:=hidK (HY.out.below hb);replace HB:=upB HB hb;clear hb;obtain ⟨r0,r1,r2,r3,r4,r5,r6,r7⟩:=cs8 Br.out;have ltr_5:=lt_of_some Br.out;have fr0:=froK Br.out 0;have fr1:=froK Br.out 1;have fr2:=froK Br.out 2;have fr3:=froK Br.out 3;have fr4:=froK Br.out 4;have fr5:=froK Br.out 5;have fr6:=froK Br.out 6;have fr7:=froK Br.out 7;have hrl : w.heap.size + 1 < w5.heap.size:=lt_of_some Br.out
  go_wp2
  exact bodyPost_ret (v:=.agg #[.slice none 0 0,.slice none 0 0,.slice none 0 0,.slice none 0 0,.slice none 0 0,.int .i64 0,.string ⟨#[]⟩,.int .i64 6]) (by simp [results,Tryz.results17,go_sem, *]) rfl ⟨ad0,co0 6,rfl,HV.out,(own0 _ (fun _ => True)).row,set_below (show w.heap.size ≤ w.heap.size + 1 by omega) (set_below (show w.heap.size ≤ w.heap.size + 1 by omega) (set_below (show w.heap.size ≤ w.heap.size + 1 by omega) (set_below (show w.heap.size ≤ w.heap.size + 1 by omega) (set_below (show w.heap.size ≤ w.heap.size + 1 by omega) (set_below (show w.heap.size ≤ w.heap.size + 1 by omega) (set_below (show w.heap.size ≤ w.heap.size + 1 by omega) (set_below (show w.heap.size ≤ w.heap.size + 1 by omega) (HB.out))))))))⟩

end Rc
end Go.Proofs.YtkljbgdikmpjfaaGreatDoor

namespace Go.Proofs.YtkljbgdikmpjfaaGreatDoor
open Go.RowKit Rc Mk

def AttachNextClV (c : Cl) : Fact:=fun v w => ∃ d : Ad,v = .agg #[.slice d.a1 d.l1 d.c1,.slice d.a2 d.l2 d.c2,.slice d.a3 d.l3 d.c3,.slice d.a4 d.l4 d.c4,.slice d.a5 d.l5 d.c5,.int .i64 c.now] ∧ ClRow w d c.raw
theorem AttachNextClV.mono (c : Cl) : Fact.Mono (AttachNextClV c):=by
 rintro v w w' ⟨d,h1,h2⟩ hb;exact ⟨d,h1,h2.below hb⟩

set_option linter.unusedVariables false in
theorem attachNext_walk (d : Ad) (c : Cl)  (E : Nat → Addr) (w : World) (hr : ClRow w d c.raw)  (hG : Ers w E) :
  Calls Tryz.prog 5 #[.agg #[.slice d.a1 d.l1 d.c1,.slice d.a2 d.l2 d.c2,.slice d.a3 d.l3 d.c3,.slice d.a4 d.l4 d.c4,.slice d.a5 d.l5 d.c5,.int .i64 c.now]] w fun e w' => e = .returned (.bool true) ∧ Below w.heap.size w w':=by
 have HR:=hidK hr;have HE:=hidK hG;have HB:=hidK (Below.refl w.heap.size w);clear hr hG
 go_enter Tryz.func5,Tryz.ntmps5
 go_wp2_with fail;refine (szCluster_any d c _ (HR.out.below (HB.out.trans ((below1 _ _).mono HB.out.size)))).mono ?_;rintro e w1 ⟨r,rfl,hi,hb⟩;obtain ⟨HA0,hbx⟩:=slots1 hb;have Bk:=hidK HA0;replace HB:=upB HB hbx;clear hb hbx HA0
 rcases hi with rfl | ⟨hr0,-,hft⟩
 ·obtain ⟨k0,k1,k2,k3,k4,k5⟩:=cs6 Bk.out;have ltk_1:=lt_of_some Bk.out
  go_wp2
  go_ret;exact ⟨rfl,HB.out⟩
 have HF:=hidK hft;clear hft;obtain ⟨k0,k1,k2,k3,k4,k5⟩:=cs6 Bk.out;have ltk_1:=lt_of_some Bk.out;go_wp2_with fail;refine (toCluster_any d c _ (HR.out.below HB.out) HF.out).mono ?_;rintro e w2 ⟨d1,rfl,ho,hb⟩;clear k0 k1 k2 k3 k4 k5 ltk_1;replace Bk:=upK Bk hb;replace HB:=upB HB hb;clear hb;have HO:=hidK ho.row;clear ho;go_wp2_with fail;refine (satt_any d1 c _ HO.out).mono ?_;rintro e w3 ⟨dg0,o,rfl,hI,ho,hb⟩;have R0:=hidK ho;have HIS:=hidK hI;clear ho hI HO;replace Bk:=upK Bk hb;replace HB:=upB HB hb;clear hb;have HY:=hidK (Bw.refl w3);have HQ3:=hidK (show w.heap.size < w3.heap.size from lt_of_some Bk.out);obtain ⟨k0,k1,k2,k3,k4,k5⟩:=cs6 Bk.out;have ltk_3:=lt_of_some Bk.out;go_wp2_with fail;refine (toCluster_any d c _ (HR.out.below (HB.out.trans ((below1 _ _).mono HB.out.size))) HF.out).mono ?_;rintro e w4 ⟨d2,rfl,ho,hb⟩;clear k0 k1 k2 k3 k4 k5 ltk_3;obtain ⟨HA0,hbx⟩:=slots1 hb;replace Bk:=upK Bk hbx;have Ba:=hidK HA0;replace HY:=hidK (HY.out.below hbx);replace HB:=upB HB hbx;clear hb hbx HA0
 have HQ4 : Hid (w3.heap.size + 1 ≤ w4.heap.size):=by have:=HY.out.le;have:=lt_of_some Ba.out;show w3.heap.size + 1 ≤ _;omega
 have HO2:=hidK (ho.into (S':=fun k => w3.heap.size + 1 ≤ k ∧ k < w4.heap.size) (fun k hk s => ⟨(show w3.heap.size + 1 ≤ k by simpa using s),hk⟩));clear ho;obtain ⟨k0,k1,k2,k3,k4,k5⟩:=cs6 Bk.out;have ltk_4:=lt_of_some Bk.out;obtain ⟨a0,a1,a2,a3,a4,a5,a6,a7⟩:=cs8 Ba.out;have lta_4:=lt_of_some Ba.out;go_wp2_with fail;have HOX:=hidK (HO2.out.below (below1 w4 (.cells #[.slice d2.a1 d2.l1 d2.c1,.slice d2.a2 d2.l2 d2.c2,.slice d2.a3 d2.l3 d2.c3,.slice d2.a4 d2.l4 d2.c4,.slice d2.a5 d2.l5 d2.c5,.int .i64 c.now] 38)));refine (iatt_any d2 c E _ HOX.out.row (HE.out.below (HB.out.trans ((below1 _ _).mono HB.out.size)))).mono ?_;rintro e w5 ⟨dg1,o1,rfl,hI,ho,hb⟩;clear HOX;obtain rfl:=HIS.out.same hI;clear hI;clear k0 k1 k2 k3 k4 k5 ltk_4 a0 a1 a2 a3 a4 a5 a6 a7 lta_4;obtain ⟨HA0,hbx⟩:=slots1 hb;replace Bk:=upK Bk hbx;replace Ba:=upK Ba hbx;have Bx:=hidK HA0;replace HY:=hidK (HY.out.below hbx);replace HO2:=hidK (HO2.out.below hbx);replace HB:=upB HB hbx;clear hb hbx HA0;have HQ5 : Hid (w4.heap.size < w5.heap.size):=lt_of_some Bx.out;have HO1:=hidK (ho.into (S':=fun k => w4.heap.size + 1 ≤ k ∧ k < w5.heap.size) (fun k hk s => ⟨(show w4.heap.size + 1 ≤ k by simpa using s),hk⟩));clear ho;have hlz : mkCn 1 o.c.raw ≤ 1152921504606846976:=HIS.out.marks HF.out;have HH:=hidK (fun (W : World) (hr : ClRow W dg1 (mkC 1 o.c.raw)) => heldCout_any dg1 o 1 W hr (by decide) hlz);obtain ⟨M,hM⟩ : ∃ M : Int,M = mkCn 1 o.c.raw:=⟨_,rfl⟩
 have hM0 : (0 : Int) < M:=by rw [hM];have:=mkCn_ge 1 o.c.raw;omega
 rw [← hM] at HH;have HMM:=hidK hM;clear hM;obtain ⟨k0,k1,k2,k3,k4,k5⟩:=cs6 Bk.out;have ltk_5:=lt_of_some Bk.out;obtain ⟨a0,a1,a2,a3,a4,a5,a6,a7⟩:=cs8 Ba.out;have lta_5:=lt_of_some Ba.out;obtain ⟨x0,x1,x2,x3,x4,x5⟩:=cs6 Bx.out;have ltx_5:=lt_of_some Bx.out;go_wp2_with fail;refine (eqCout_any dg1 dg0 o _ (HO1.out.row.below (below1 _ _)) (R0.out.below (HY.out.below (below1 _ _)).out)).mono ?_;rintro e w6 ⟨rfl,hb⟩;clear k0 k1 k2 k3 k4 k5 ltk_5 a0 a1 a2 a3 a4 a5 a6 a7 lta_5 x0 x1 x2 x3 x4 x5 ltx_5;obtain ⟨HA0,hbx⟩:=slots1 hb;replace Bk:=upK Bk hbx;replace Ba:=upK Ba hbx;replace Bx:=upK Bx hbx;have Bg:=hidK HA0;replace HY:=hidK (HY.out.below hbx);replace HO2:=hidK (HO2.out.below hbx);replace HO1:=hidK (HO1.out.below hbx);replace HB:=upB HB hbx;clear hb hbx HA0;obtain ⟨W,hW0⟩ : ∃ W,W = w6:=⟨_,rfl⟩;rw [← hW0] at HB HY HO2 HO1 Bk Ba Bx Bg;go_wp2_with fail;rw [← hW0];clear hW0;rename_i K0 hK0;refine wp_region_grow (back:=none) (by kernel_rfl) (List.append_nil _).symm (by kernel_rfl) ?_;refine' Grow.stepC _ rfl ?_ ?_;rotate_left 1
 ·refine Obl.plain rfl ?_;intro ac wg K hsz hW hf hK;clear hsz;have e5:=hf 5 (by decide)
  simp [slotFact,List.lookup] at e5
  clear hf;obtain ⟨k0,k1,k2,k3,k4,k5⟩:=cs6 ((hW.block _ (lt_of_some Bx.out)).trans Bx.out);go_simp;refine hK _ _ (Below.refl _ _) ?_;with_reducible rfl
 refine' Grow.stepC _ rfl ?_ ?_;rotate_left 1
 ·refine Obl.plain rfl ?_;intro ac wg K hsz hW hf hK;clear hsz;have e1:=hf 1 (by decide)
  simp [slotFact,List.lookup] at e1
  clear hf;obtain ⟨k0,k1,k2,k3,k4,k5⟩:=cs6 ((hW.block _ (lt_of_some Bk.out)).trans Bk.out);go_simp;refine hK _ _ (Below.refl _ _) ?_;with_reducible rfl
 refine Grow.step (AttachNextClV c) rfl (AttachNextClV.mono c) ?_ ?_
 ·refine Obl.plain rfl ?_;intro ac wg K hsz hW hf hK;clear hsz;have e28:=hf 28 (by decide)
  simp [slotFact,List.lookup] at e28
  clear hf;go_simp;refine (toCluster_any d c _ (HR.out.below (HB.out.trans (hW.mono HB.out.size))) HF.out).mono ?_;rintro e w6 ⟨d3,rfl,ho,hb6⟩;exact hK _ _ hb6 ⟨d3,rfl,ho.row⟩
 refine' Grow.stepC (.bool true) rfl ?_ ?_
 ·refine Obl.plain rfl ?_;intro ac wg K hsz hW hf hK;clear hsz;have e27:=hf 27 (by decide)
  simp [slotFact,List.lookup] at e27
  have e29:=hf 29 (by decide)
  simp [slotFact,List.lookup] at e29
  obtain ⟨d3,e29,hrow⟩:=e29;clear hf;go_simp;refine (eqCluster_any d2 d3 c _ (HO2.out.row.below hW) hrow).mono ?_;rintro e w6 ⟨rfl,hb6⟩;exact hK _ _ hb6 rfl
 refine' Grow.stepC _ rfl ?_ ?_;rotate_left 1
 ·refine Obl.plain rfl ?_;intro ac wg K hsz hW hf hK;clear hsz;have e30:=hf 30 (by decide)
  simp [slotFact,List.lookup] at e30
  clear hf;go_simp;refine hK _ _ (Below.refl _ _) ?_;with_reducible rfl
 refine Grow.done ?_;intro q wz hW hf;simp only [List.forall_mem_cons] at hf;obtain ⟨h31,-⟩:=hf;have hb:=hW;refine hK0 _ _ ?_;simp only [putsAll,List.foldr,Act.put,List.setIfInBounds_toArray,List.set_cons_zero,List.set_cons_succ,h31];clear hK0;replace Bk:=upK Bk hb;replace Ba:=upK Ba hb;replace Bx:=upK Bx hb;replace Bg:=upK Bg hb;replace HY:=hidK (HY.out.below hb);replace HO2:=hidK (HO2.out.below hb);replace HO1:=hidK (HO1.out.below hb);replace HB:=upB HB hb;clear hb;clear hW;obtain ⟨rk,hrk⟩ : ∃ r : Int,r = mkCn 1 c.raw:=⟨_,rfl⟩
 have hrk0 : decide (rk < 0) = false:=by rw [decide_eq_false_iff_not,hrk];have:=mkCn_ge 1 c.raw;omega
 obtain ⟨k0,k1,k2,k3,k4,k5⟩:=cs6 Bk.out;have ltk_7:=lt_of_some Bk.out;obtain ⟨a0,a1,a2,a3,a4,a5,a6,a7⟩:=cs8 Ba.out;have lta_7:=lt_of_some Ba.out;obtain ⟨x0,x1,x2,x3,x4,x5⟩:=cs6 Bx.out;have ltx_7:=lt_of_some Bx.out;obtain ⟨g0,g1,g2,g3,g4,g5,g6,g7⟩:=cs8 Bg.out;have ltg_7:=lt_of_some Bg.out;go_wp2_with fail;refine (markCluster_any d2 c 1 _ wz HO2.out (fun k s => by have s2:=s.2;have q9:=HY.out.le;have q8:=lt_of_some Bx.out;have q3:=HQ3.out;have q4:=HQ4.out;have q5:=HQ5.out;omega) (by decide) HF.out.marks).mono ?_;rintro e w8 ⟨rfl,ho,hk⟩;clear k0 k1 k2 k3 k4 k5 ltk_7 a0 a1 a2 a3 a4 a5 a6 a7 lta_7 x0 x1 x2 x3 x4 x5 ltx_7 g0 g1 g2 g3 g4 g5 g6 g7 ltg_7;have Ck:=hidK ((hk.block (w.heap.size) (lt_of_some Bk.out) (fun s => by have s1:=s.1;have s2:=s.2;have q3:=HQ3.out;have q4:=HQ4.out;have q5:=HQ5.out;omega)).trans Bk.out);have Ca:=hidK ((hk.block (w3.heap.size) (lt_of_some Ba.out) (fun s => by have s1:=s.1;have s2:=s.2;have q3:=HQ3.out;have q4:=HQ4.out;have q5:=HQ5.out;omega)).trans Ba.out);have Cx:=hidK ((hk.block (w4.heap.size) (lt_of_some Bx.out) (fun s => by have s1:=s.1;have s2:=s.2;have q3:=HQ3.out;have q4:=HQ4.out;have q5:=HQ5.out;omega)).trans Bx.out);have Cg:=hidK ((hk.block (w5.heap.size) (lt_of_some Bg.out) (fun s => by have s1:=s.1;have s2:=s.2;have q3:=HQ3.out;have q4:=HQ4.out;have q5:=HQ5.out;omega)).trans Bg.out);have HB8:=hidK (HB.out.trans (hk.low (X:=w.heap.size) HB.out.size (fun k s => by have s1:=s.1;have q3:=HQ3.out;have q4:=HQ4.out;have q5:=HQ5.out;omega)));have CHY:=hidK (HY.out.kept hk (fun k s => by have s1:=s.1;have q3:=HQ3.out;have q4:=HQ4.out;have q5:=HQ5.out;omega));have CHO1:=hidK (HO1.out.kept hk (fun k s s' => by have s1:=s.1;have s2:=s.2;have t1:=s'.1;have t2:=s'.2;have q3:=HQ3.out;have q4:=HQ4.out;have q5:=HQ5.out;omega))
 clear HB HY hk HO2 HO1 Bk Ba Bx Bg;have HB:=HB8;clear HB8;have HY:=CHY;clear CHY;have HO1:=CHO1;clear CHO1;have Bk:=Ck;clear Ck;have Ba:=Ca;clear Ca;have Bx:=Cx;clear Cx;have Bg:=Cg;clear Cg;clear ho;rw [← hrk];clear hrk;obtain ⟨k0,k1,k2,k3,k4,k5⟩:=cs6 Bk.out;have ltk_8:=lt_of_some Bk.out;obtain ⟨a0,a1,a2,a3,a4,a5,a6,a7⟩:=cs8 Ba.out;have lta_8:=lt_of_some Ba.out;obtain ⟨x0,x1,x2,x3,x4,x5⟩:=cs6 Bx.out;have ltx_8:=lt_of_some Bx.out;obtain ⟨g0,g1,g2,g3,g4,g5,g6,g7⟩:=cs8 Bg.out;have ltg_8:=lt_of_some Bg.out;go_wp2_with fail;refine (eqCout_any dg1 dg0 o _ (HO1.out.row) (R0.out.below HY.out.out)).mono ?_;rintro e w9 ⟨rfl,hb⟩;clear k0 k1 k2 k3 k4 k5 ltk_8 a0 a1 a2 a3 a4 a5 a6 a7 lta_8 x0 x1 x2 x3 x4 x5 ltx_8 g0 g1 g2 g3 g4 g5 g6 g7 ltg_8;replace Bk:=upK Bk hb;replace Ba:=upK Ba hb;replace Bx:=upK Bx hb;replace Bg:=upK Bg hb;replace HY:=hidK (HY.out.below hb);replace HO1:=hidK (HO1.out.below hb);replace HB:=upB HB hb;clear hb;clear hrk0;obtain ⟨k0,k1,k2,k3,k4,k5⟩:=cs6 Bk.out;have ltk_9:=lt_of_some Bk.out;obtain ⟨a0,a1,a2,a3,a4,a5,a6,a7⟩:=cs8 Ba.out;have lta_9:=lt_of_some Ba.out;obtain ⟨x0,x1,x2,x3,x4,x5⟩:=cs6 Bx.out;have ltx_9:=lt_of_some Bx.out;obtain ⟨g0,g1,g2,g3,g4,g5,g6,g7⟩:=cs8 Bg.out;have ltg_9:=lt_of_some Bg.out;go_wp2_with fail;refine (markCout_any dg1 o 1 _ _ HO1.out (fun k s => by have s2:=s.2;have q9:=HB.out.size;have q8:=HY.out.le;have q7:=lt_of_some Bg.out;have q3:=HQ3.out;have q4:=HQ4.out;have q5:=HQ5.out; omega) (by decide) hlz).mono ?_;rintro e w10 ⟨rfl,ho,hk⟩;clear k0 k1 k2 k3 k4 k5 ltk_9 a0 a1 a2 a3 a4 a5 a6 a7 lta_9 x0 x1 x2 x3 x4 x5 ltx_9 g0 g1 g2 g3 g4 g5 g6 g7 ltg_9;have Ck:=hidK ((hk.block (w.heap.size) (lt_of_some Bk.out) (fun s => by have s1:=s.1;have s2:=s.2;have q3:=HQ3.out;have q4:=HQ4.out;have q5:=HQ5.out;omega)).trans Bk.out)
 have Ca:=hidK ((hk.block (w3.heap.size) (lt_of_some Ba.out) (fun s => by have s1:=s.1;have s2:=s.2;have q3:=HQ3.out;have q4:=HQ4.out;have q5:=HQ5.out;omega)).trans Ba.out);have Cx:=hidK ((hk.block (w4.heap.size) (lt_of_some Bx.out) (fun s => by have s1:=s.1;have s2:=s.2;have q3:=HQ3.out;have q4:=HQ4.out;have q5:=HQ5.out;omega)).trans Bx.out);have Cg:=hidK ((hk.block (w5.heap.size) (lt_of_some Bg.out) (fun s => by have s1:=s.1;have s2:=s.2;have q3:=HQ3.out;have q4:=HQ4.out;have q5:=HQ5.out;omega)).trans Bg.out);have HB10:=hidK (HB.out.trans (hk.low (X:=w.heap.size) HB.out.size (fun k s => by have s1:=s.1;have q3:=HQ3.out;have q4:=HQ4.out;have q5:=HQ5.out;omega)));have CHY:=hidK (HY.out.kept hk (fun k s => by have s1:=s.1;have q3:=HQ3.out;have q4:=HQ4.out;have q5:=HQ5.out;omega));clear HB HY hk HO1 Bk Ba Bx Bg;have HB:=HB10;clear HB10;have HY:=CHY;clear CHY;have Bk:=Ck;clear Ck;have Ba:=Ca;clear Ca;have Bx:=Cx;clear Cx;have Bg:=Cg;clear Cg;have HM1:=hidK ho;clear ho;rw [← HMM.out];obtain ⟨k0,k1,k2,k3,k4,k5⟩:=cs6 Bk.out;have ltk_10:=lt_of_some Bk.out;obtain ⟨a0,a1,a2,a3,a4,a5,a6,a7⟩:=cs8 Ba.out;have lta_10:=lt_of_some Ba.out;obtain ⟨x0,x1,x2,x3,x4,x5⟩:=cs6 Bx.out;have ltx_10:=lt_of_some Bx.out;obtain ⟨g0,g1,g2,g3,g4,g5,g6,g7⟩:=cs8 Bg.out;have ltg_10:=lt_of_some Bg.out;go_wp2_with fail;refine (HH.out _ HM1.out.row).mono ?_;rintro e w11 ⟨rfl,hb⟩;clear k0 k1 k2 k3 k4 k5 ltk_10 a0 a1 a2 a3 a4 a5 a6 a7 lta_10 x0 x1 x2 x3 x4 x5 ltx_10 g0 g1 g2 g3 g4 g5 g6 g7 ltg_10;replace Bk:=upK Bk hb;replace Ba:=upK Ba hb;replace Bx:=upK Bx hb;replace Bg:=upK Bg hb;replace HY:=hidK (HY.out.below hb);replace HM1:=hidK (HM1.out.below hb);replace HB:=upB HB hb;clear hb;obtain ⟨k0,k1,k2,k3,k4,k5⟩:=cs6 Bk.out;have ltk_11:=lt_of_some Bk.out;go_wp2_with fail
 refine (toCluster_any d c _ (HR.out.below HB.out) HF.out).mono ?_;rintro e w12 ⟨d4,rfl,ho,hb⟩;clear k0 k1 k2 k3 k4 k5 ltk_11;replace Bk:=upK Bk hb;replace Ba:=upK Ba hb;replace Bx:=upK Bx hb;replace Bg:=upK Bg hb;replace HY:=hidK (HY.out.below hb);replace HM1:=hidK (HM1.out.below hb);replace HB:=upB HB hb;clear hb;have HO:=hidK ho.row;clear ho;go_wp2_with fail;refine (iatt_any d4 c E _ HO.out (HE.out.below HB.out)).mono ?_;rintro e w13 ⟨dg2,o2,rfl,hI,ho,hb⟩;obtain rfl:=HIS.out.same hI;clear hI HO;have HR2:=hidK ho.row;clear ho;replace Bk:=upK Bk hb;replace Ba:=upK Ba hb;replace Bx:=upK Bx hb;replace Bg:=upK Bg hb;replace HY:=hidK (HY.out.below hb);replace HM1:=hidK (HM1.out.below hb);replace HB:=upB HB hb;clear hb;obtain ⟨k0,k1,k2,k3,k4,k5⟩:=cs6 Bk.out;have ltk_13:=lt_of_some Bk.out;obtain ⟨a0,a1,a2,a3,a4,a5,a6,a7⟩:=cs8 Ba.out;have lta_13:=lt_of_some Ba.out;obtain ⟨x0,x1,x2,x3,x4,x5⟩:=cs6 Bx.out;have ltx_13:=lt_of_some Bx.out;obtain ⟨g0,g1,g2,g3,g4,g5,g6,g7⟩:=cs8 Bg.out;have ltg_13:=lt_of_some Bg.out;go_wp2_with fail;refine (eqCout_any dg2 dg0 o _ (HR2.out.below (below1 _ _)) (R0.out.below (HY.out.below (below1 _ _)).out)).mono ?_;rintro e w14 ⟨rfl,hb⟩;clear k0 k1 k2 k3 k4 k5 ltk_13 a0 a1 a2 a3 a4 a5 a6 a7 lta_13 x0 x1 x2 x3 x4 x5 ltx_13 g0 g1 g2 g3 g4 g5 g6 g7 ltg_13;obtain ⟨HA0,hbx⟩:=slots1 hb;replace Bk:=upK Bk hbx;replace Ba:=upK Ba hbx;replace Bx:=upK Bx hbx;replace Bg:=upK Bg hbx;have Bh:=hidK HA0;replace HY:=hidK (HY.out.below hbx);replace HM1:=hidK (HM1.out.below hbx);replace HB:=upB HB hbx;clear hb hbx HA0;obtain ⟨k0,k1,k2,k3,k4,k5⟩:=cs6 Bk.out;have ltk_14:=lt_of_some Bk.out;obtain ⟨g0,g1,g2,g3,g4,g5,g6,g7⟩:=cs8 Bg.out;have ltg_14:=lt_of_some Bg.out;go_wp2_with fail;refine (HH.out _ HM1.out.row).mono ?_;rintro e w15 ⟨rfl,hb⟩
 clear k0 k1 k2 k3 k4 k5 ltk_14 g0 g1 g2 g3 g4 g5 g6 g7 ltg_14;replace Bk:=upK Bk hb;replace Ba:=upK Ba hb;replace Bx:=upK Bx hb;replace Bg:=upK Bg hb;replace Bh:=upK Bh hb;replace HY:=hidK (HY.out.below hb);replace HM1:=hidK (HM1.out.below hb);replace HB:=upB HB hb;clear hb;go_wp2_with fail;go_ret;exact ⟨rfl,HB.out⟩

set_option linter.unusedVariables false in
theorem fnExactAttachNext_walk (a1 : Option Addr) (l1 y1 : Nat) (ns : List Nd) (a2 : Option Addr) (l2 y2 : Nat) (ks : List Kd) (a3 : Option Addr) (l3 y3 : Nat) (vs : List Vd) (a4 : Option Addr) (l4 y4 : Nat) (xs : List Xd) (a5 : Option Addr) (l5 y5 : Nat) (ps : List Pd) (now : Int)  (w : World)
  (h1 : RRow w a1 l1 y1 7 (ns.map ndF)) (h2 : RRow w a2 l2 y2 4 (ks.map kdF)) (h3 : RRow w a3 l3 y3 8 (vs.map vdF)) (h4 : RRow w a4 l4 y4 5 (xs.map xdF)) (h5 : RRow w a5 l5 y5 6 (ps.map pdF)) (_ : (Lit.int .i64 now).wf = true)  (hG : ∃ E,Ers w E) :
  Calls Tryz.prog 5 #[.agg #[.slice a1 l1 y1,.slice a2 l2 y2,.slice a3 l3 y3,.slice a4 l4 y4,.slice a5 l5 y5,.int .i64 now]] w fun e w' => e = .returned (.bool true) ∧ Below w.heap.size w w' :=
 by obtain ⟨E,hG⟩:=hG;exact attachNext_walk ⟨a1,l1,y1,a2,l2,y2,a3,l3,y3,a4,l4,y4,a5,l5,y5⟩ ⟨ns,ks,vs,xs,ps,now⟩  E w ⟨h1,h2,h3,h4,h5⟩  hG

end Go.Proofs.YtkljbgdikmpjfaaGreatDoor

namespace Go.Proofs.YtkljbgdikmpjfaaGreatDoor
open Go.RowKit
namespace Rc

theorem wordStar : "*" ++ "errors.errorString" = "*errors.errorString":=by decide
theorem wordRow (u : TypeId) (h : Tryz.prog.typeName? 3 u = some "*errors.errorString") : u = 218 :=
 typeName_ptr_named (nm := "errors.errorString") (by rw [wordStar];kernel_rfl) (by kernel_rfl) (by decide) u (by rw [wordStar];exact h)

theorem laid_words {P : Program} {W : World} {nm : String} {ti tp te ts : TypeId} {ms : Array (String × TypeId)} {f : Field} (hi : P.underlying ti = some (.interface ms)) (hrow : ∀ u,P.typeName? 3 u = some nm → u = tp)
  (hp : P.underlying tp = some (.pointer te)) (he : P.underlying te = some (.struct #[f])) (hft : f.type = ts) (hfo : f.offset = 0) (hs : P.underlying ts = some .string) (hc : P.cellsOf te = 1) (hcs : P.cellsOf ts = 1) :
  ∀ (l : List (String × List UInt8)) (ps : List MemPlace),(∀ x ∈ l,∃ g,P.globalNamed x.1 = some g ∧ (P.globals[g]?).map (·.type) = some ti) →
   DataW.LaidVars P W (l.map fun x => (x.1,.iface nm (.ptr (.agg [.lit (.string x.2)])))) ps → ps.Nodup →
   (∀ b off,MemPlace.cell b off ∈ ps → (∃ c t,W.heap[b]? = some (.cells c t (0,0))) ∧ ∀ u v,W.cell? ⟨b,off,none⟩ = some (.iface u v) → Value.okWide P W .any 0 u v) →
   ∃ E : Nat → Addr,(∀ (i : Nat) x,l[i]? = some x → W.var? P x.1 = some #[.iface tp (.pointer (some (E i)))] ∧ MemPlace.cell (E i).block (E i).off ∈ ps) ∧ ∀ i j,i < l.length → j < l.length → E i = E j → i = j
 | [],ps,_,_,_,_ => ⟨fun _ => ⟨0,0,none⟩,fun i x h => by simp at h,fun i j h => by simp at h⟩
 | x :: l,ps,hT,hv,hnd,hrows => by
  obtain ⟨g,t,cs,fuel,p,q,hg,ht,hvar,hd,hq,rfl⟩:=hv;obtain ⟨g',hg',ht'⟩:=hT x (by simp);obtain rfl:=Option.some.inj (hg.symm.trans hg');obtain rfl:=Option.some.inj (ht.symm.trans ht');have hsub : ∀ {y},y ∈ q → y ∈ MemPlace.row ⟨g,0,none⟩ cs.size ++ p ++ q:=fun h => List.mem_append_right _ h;obtain ⟨E,hE1,hE2⟩:=laid_words hi hrow hp he hft hfo hs hc hcs l q (fun y hy => hT y (by simp [hy])) hq (List.Nodup.sublist (List.sublist_append_right _ _) hnd) (fun b off hm => hrows b off (hsub hm));obtain ⟨l0⟩:=cs
  have ok0 : ∀ u v,l0 = [.iface u v] → Value.okWide P W .any 0 u v:=fun u v e => by
   subst e;exact (hrows g 0 (by simp [MemPlace.row])).2 u v (by simpa using World.var?_cell hg hvar 0)
  obtain ⟨a0,s0,rfl,hc0,hs0,hz0,rfl⟩:=errorString_of_trod hi hrow hp he hft hfo hs hc hcs hd ok0
  have ha : MemPlace.cell a0.block a0.off ∈ MemPlace.row a0 1:=by simp [MemPlace.row]
  have hdis : ∀ i,i < l.length → ¬ E i = a0:=fun i hi' e => by
   have h1:=(hE1 i _ (List.getElem?_eq_getElem hi')).2;rw [e] at h1;have h2:=(List.nodup_append.1 hnd).2.2 _ (List.mem_append_right _ ha) _ h1;exact h2 rfl
  refine ⟨fun i => match i with | 0 => a0 | i + 1 => E i,fun i y hy => ?_,fun i j hi' hj' e => ?_⟩
  ·cases i with
   | zero =>
    obtain rfl : x = y:=by simpa using hy
    exact ⟨hvar,List.mem_append_left _ (List.mem_append_right _ ha)⟩
   | succ i =>
    obtain ⟨h1,h2⟩:=hE1 i y (by simpa using hy);exact ⟨h1,hsub h2⟩
  ·cases i with
   | zero => cases j with
    | zero => rfl
    | succ j => exact absurd e.symm (hdis j (by simpa using hj'))
   | succ i => cases j with
    | zero => exact absurd e (hdis i (by simpa using hi'))
    | succ j => rw [hE2 i j (by simpa using hi') (by simpa using hj') e]

theorem vars_length {H : Type} {enc : TypeId × Value → H} {P : Program} {w : World} {sp : Nat → Bool} : ∀ (ns : List String) (gs : List (DataW H)) (ps : List MemPlace),DataW.TrodVars enc P w sp ns gs ps → gs.length = ns.length
 | [],[],_,_ => rfl
 | [],_ :: _,_,h => h.elim
 | _ :: _,[],_,h => h.elim
 | _ :: ns,_ :: gs,_,h => by
  obtain ⟨_,_,_,_,_,q,_,_,_,_,h1,_⟩:=h
  simp [vars_length ns gs q h1]
theorem len9 {α : Type} : ∀ {l : List α},l.length = 9 → ∃ a b c d e f g h i,l = [a,b,c,d,e,f,g,h,i]
 | [a,b,c,d,e,f,g,h,i],_ => ⟨a,b,c,d,e,f,g,h,i,rfl⟩

end Rc
end Go.Proofs.YtkljbgdikmpjfaaGreatDoor

namespace Go.Proofs.YtkljbgdikmpjfaaGreatDoor
open Go.RowKit Go.ChangeShapes Go.WideShapes Go.Deep

theorem list6 {α : Type} {l : List α} (h : l.length = 6) : ∃ x0 x1 x2 x3 x4 x5,l = [x0,x1,x2,x3,x4,x5]:=by
 match l,h with
 | [x0,x1,x2,x3,x4,x5],_ => exact ⟨_,_,_,_,_,_,rfl⟩
section
variable {H : Type} {enc : TypeId × Value → H} {P : Program} {w : World} {base : Nat} {spare : Nat → Bool} {held : Bool}

theorem open_aggN {r : Reach} {b0 : Nat} {t : TypeId} {fs : Array Field} {v : Value} {d : DataW H} {p : List MemPlace} (hs : P.underlying t = some (.struct fs)) (hone : oneCellFields P fs = true) (hC : P.cellsOf t = fs.size)
  (hv : Value.okWide P w r b0 t v) (h : DataW.Trod enc P w base spare held t v d p) :
  ∃ (cs : List Value) (n : Nat),v = .agg cs.toArray ∧ cs.length = fs.size ∧ ∀ (i : Nat) (f : Field),fs[i]? = some f → ∃ c y,cs[i]? = some c ∧ DataW.trod enc P w base spare held n f.type [c] = some y:=by
 obtain ⟨cs,rfl,hsz⟩:=okWide_struct hs hv;obtain ⟨fuel,hf⟩:=h;obtain ⟨xs,n,_,hx,hl,hlen,hf'⟩:=DataW.trod_struct hs hf;refine ⟨cs.toList,n,rfl,by rw [Array.length_toList];exact hsz.trans hC,fun i f hi => ?_⟩;obtain ⟨o,k⟩:=hone_of hone i f hi;have hlt : i < fs.size:=(Array.getElem?_eq_some_iff.1 hi).1
 have hlc : i < cs.toList.length:=by rw [Array.length_toList,hsz,hC];exact hlt
 have g:=hf' i f hi;rw [o,k] at g
 have e : ((Value.agg cs).cells.toList.drop i).take 1 = [cs.toList[i]'hlc]:=by
  show (cs.toList.drop i).take 1 = _
  rw [List.drop_eq_getElem_cons hlc]
  rfl
 rw [e] at g;exact ⟨_,xs[i]'(by omega),List.getElem?_eq_getElem hlc,by rw [g,List.getElem?_eq_getElem]⟩

theorem row_of_trod {t e : TypeId} {n : Nat} {c : Value} {y : DataW H × List MemPlace} (ht : P.underlying t = some (.slice e)) (he : P.underlying e = some .string) (hc : P.cellsOf e = 1)
  (h : DataW.trod enc P w base spare held n t [c] = some y) : ∃ a len cap zs,c = .slice a len cap ∧ TxRow w a len cap zs:=by
 rcases open_strs ht he hc h with ⟨hcs,_⟩ | ⟨a,len,cap,m,Sx,hcs,hb,hl,hm,hmm,_,hx⟩
 ·exact ⟨none,0,0,[],by simpa using hcs,rfl,Nat.le_refl _,by omega,fun j x hx => by simp at hx,Or.inl rfl⟩
 ·have hlm : len ≤ m:=by rw [hmm];split <;> omega
  have hm' : cap ≤ 9223372036854775807:=by unfold maxLen at hm;omega
  refine ⟨some a,len,cap,(List.range len).map Sx,by simpa using hcs,by simp,hl,hm',fun j x hj => ?_,?_⟩
  ·rw [List.getElem?_map] at hj
   by_cases hjl : j < len
   ·rw [List.getElem?_range hjl] at hj;obtain rfl:=Option.some.inj hj;have:=(hx j (by omega)).2;unfold maxLen at this
    omega
   ·rw [List.getElem?_eq_none (by simp;omega)] at hj
    cases hj
  ·by_cases h0 : len = 0
   ·subst h0;exact Or.inl rfl
   right
   obtain ⟨b,o,spot⟩:=a;have h0':=(hx 0 (by omega)).1
   have hspot : spot = none:=by simpa [Addr.add] using World.cell?_spot h0'
   subst hspot;refine ⟨b,o,rfl,?_,fun j x hj => ?_⟩
   ·rw [Addr.add_lit] at h0'
    rcases Nat.lt_or_ge b w.heap.size with h1 | h1
    ·exact h1
    ·simp [World.cell?,Array.getElem?_eq_none h1] at h0'
   ·rw [List.getElem?_map] at hj
    by_cases hjl : j < len
    ·rw [List.getElem?_range hjl] at hj;obtain rfl:=Option.some.inj hj;have:=(hx j (by omega)).1;rw [Addr.add_lit] at this;exact this
    ·rw [List.getElem?_eq_none (by simp;omega)] at hj
     cases hj
end

section
variable {H : Type} {enc : TypeId × Value → H} {w : World} {base : Nat} {spare : Nat → Bool} {held : Bool}

theorem open_aggC {P : Program} {n : Nat} {t : TypeId} {fs : Array Field} {cs : List Value} {x : DataW H × List MemPlace} (hs : P.underlying t = some (.struct fs)) (hone : oneCellFields P fs = true) (hC : P.cellsOf t = fs.size)
  (h : DataW.trod enc P w base spare held n t cs = some x) :
  ∃ (n : Nat),cs.length = fs.size ∧ ∀ (i : Nat) (f : Field),fs[i]? = some f → ∃ c y,cs[i]? = some c ∧ DataW.trod enc P w base spare held n f.type [c] = some y:=by
 obtain ⟨xs,n,_,hx,hl,hlen,hf'⟩:=DataW.trod_struct hs h;refine ⟨n,hl.trans hC,fun i f hi => ?_⟩;obtain ⟨o,k⟩:=hone_of hone i f hi;have hlt : i < fs.size:=(Array.getElem?_eq_some_iff.1 hi).1
 have hlc : i < cs.length:=by rw [hl,hC];exact hlt
 have g:=hf' i f hi;rw [o,k] at g
 have e : (cs.drop i).take 1 = [cs[i]'hlc]:=by
  rw [List.drop_eq_getElem_cons hlc]
  rfl
 rw [e] at g;exact ⟨_,xs[i]'(by omega),List.getElem?_eq_getElem hlc,by rw [g,List.getElem?_eq_getElem]⟩

end

end Go.Proofs.YtkljbgdikmpjfaaGreatDoor

namespace Go.Proofs.YtkljbgdikmpjfaaGreatDoor
open Go.RowKit Go.ChangeShapes Go.WideShapes Go.Deep
namespace Rc

section
variable {H : Type} {enc : TypeId × Value → H} {w : World} {base : Nat} {spare : Nat → Bool} {held : Bool}

theorem nd_of_trod {b o n : Nat} {cs : List Value} {x : DataW H × List MemPlace} (hc : ∀ i,i < 7 → w.cell? ⟨b,o + i,none⟩ = cs[i]?) (h : DataW.trod enc Tryz.prog w base spare held n 94 cs = some x) : ∃ v : Nd,RAt w b o (ndF v):=by
 obtain ⟨m,hl,hf⟩:=open_aggC Tryz.underlying94 (by kernel_rfl) (by kernel_rfl) h;obtain ⟨c0,y0,e0,t0⟩:=hf 0 _ rfl;obtain ⟨b0,q0,-,s0⟩:=DataW.trod_string Tryz.underlying9 t0
 obtain rfl : c0 = .string b0:=by simpa using q0
 obtain ⟨c1,y1,e1,t1⟩:=hf 1 _ rfl;obtain ⟨b1,q1,-,s1⟩:=DataW.trod_string Tryz.underlying9 t1
 obtain rfl : c1 = .string b1:=by simpa using q1
 obtain ⟨c2,y2,e2,t2⟩:=hf 2 _ rfl;obtain ⟨b2,q2,-,s2⟩:=DataW.trod_int Tryz.underlying2 t2
 obtain rfl : c2 = .int .i64 b2:=by simpa using q2
 obtain ⟨c3,y3,e3,t3⟩:=hf 3 _ rfl;obtain ⟨b3,q3,-,s3⟩:=DataW.trod_int Tryz.underlying2 t3
 obtain rfl : c3 = .int .i64 b3:=by simpa using q3
 obtain ⟨c4,y4,e4,t4⟩:=hf 4 _ rfl;obtain ⟨b4,q4,-,s4⟩:=DataW.trod_int Tryz.underlying2 t4
 obtain rfl : c4 = .int .i64 b4:=by simpa using q4
 obtain ⟨c5,y5,e5,t5⟩:=hf 5 _ rfl;obtain ⟨b5,q5,-⟩:=DataW.trod_bool Tryz.underlying4 t5
 obtain rfl : c5 = .bool b5:=by simpa using q5
 obtain ⟨c6,y6,e6,t6⟩:=hf 6 _ rfl;obtain ⟨b6,l6,p6,zz,rfl,r6⟩:=row_of_trod Tryz.underlying78 Tryz.underlying9 (by kernel_rfl) t6;unfold maxLen at s0 s1;refine ⟨⟨b0,b1,b2,b3,b4,b5,zz⟩,fun i f hi => ?_⟩
 rcases i with _ | _ | _ | _ | _ | _ | _ | i
 ·cases hi
  exact ⟨_,(hc 0 (by omega)).trans e0,rfl,show b0.size ≤ _ by omega⟩
 ·cases hi
  exact ⟨_,(hc 1 (by omega)).trans e1,rfl,show b1.size ≤ _ by omega⟩
 ·cases hi
  exact ⟨_,(hc 2 (by omega)).trans e2,rfl⟩
 ·cases hi
  exact ⟨_,(hc 3 (by omega)).trans e3,rfl⟩
 ·cases hi
  exact ⟨_,(hc 4 (by omega)).trans e4,rfl⟩
 ·cases hi
  exact ⟨_,(hc 5 (by omega)).trans e5,rfl⟩
 ·cases hi
  exact ⟨_,(hc 6 (by omega)).trans e6,b6,l6,p6,rfl,r6⟩
 ·first | (cases hi;done) | (simp [ndF] at hi;done)

theorem ndrow_of_trod {n : Nat} {c : Value} {y : DataW H × List MemPlace} (h : DataW.trod enc Tryz.prog w base spare held n 22 [c] = some y) : ∃ a len cap,∃ xs : List Nd,c = .slice a len cap ∧ RRow w a len cap 7 (xs.map ndF):=by
 rcases open_slice Tryz.underlying22 h with ⟨hcs,_⟩ | ⟨a,len,cap,m,n',D,Pl,hcs,hb,hl,hm,hmm,_,hx⟩
 ·exact ⟨none,0,0,[],by simpa using hcs,rfl,Nat.le_refl _,by omega,.inl rfl⟩
 have hlm : len ≤ m:=by rw [hmm];split <;> omega
 have hm' : cap ≤ 9223372036854775807:=by unfold maxLen at hm;omega
 have hce : Tryz.prog.cellsOf 94 = 7:=by kernel_rfl
 rw [hce] at hx
 by_cases h0 : len = 0
 ·subst h0;exact ⟨some a,0,cap,[],by simpa using hcs,rfl,hl,hm',.inl rfl⟩
 obtain ⟨b,o,spot⟩:=a;obtain ⟨cs0,k1,k2⟩:=hx 0 (by omega)
 have hspot : spot = none:=by
  obtain ⟨_,hl0,hc0⟩:=World.cells?_some k1;have:=hc0 0 (by omega);rw [List.getElem?_eq_getElem (by omega)] at this
  simpa [Addr.add] using World.cell?_spot this
 subst hspot
 have hblt : b < w.heap.size:=by
  obtain ⟨_,hl0,hc0⟩:=World.cells?_some k1;have:=hc0 0 (by omega);rw [List.getElem?_eq_getElem (by omega)] at this
  rcases Nat.lt_or_ge b w.heap.size with h1 | h1
  ·exact h1
  ·simp [Addr.add,World.cell?,Array.getElem?_eq_none h1] at this
 have each : ∀ i,i < len → ∃ v : Nd,RAt w b (o + i * 7) (ndF v):=fun i hi => by
  obtain ⟨cs,k1,k2⟩:=hx i (by omega);obtain ⟨_,hl0,hc0⟩:=World.cells?_some k1;refine nd_of_trod (fun j hj => ?_) k2;have:=hc0 j hj;rw [add_add,Addr.add_lit] at this;rw [Nat.add_assoc];exact this
 have hin : Inhabited Nd:=⟨⟨⟨#[]⟩,⟨#[]⟩,0,0,0,false,[]⟩⟩;obtain ⟨f,hf⟩:=choose_lt each;refine ⟨some ⟨b,o,none⟩,len,cap,(List.range len).map f,by simpa using hcs,by simp,hl,hm',.inr ⟨b,o,rfl,hblt,fun j r hj => ?_⟩⟩;rw [List.getElem?_map,List.getElem?_map] at hj
 by_cases hjl : j < len
 ·rw [List.getElem?_range hjl] at hj;obtain rfl:=Option.some.inj hj;exact hf j hjl
 ·rw [List.getElem?_eq_none (by simp;omega)] at hj
  cases hj

theorem kd_of_trod {b o n : Nat} {cs : List Value} {x : DataW H × List MemPlace} (hc : ∀ i,i < 4 → w.cell? ⟨b,o + i,none⟩ = cs[i]?) (h : DataW.trod enc Tryz.prog w base spare held n 97 cs = some x) : ∃ v : Kd,RAt w b o (kdF v):=by
 obtain ⟨m,hl,hf⟩:=open_aggC Tryz.underlying97 (by kernel_rfl) (by kernel_rfl) h;obtain ⟨c0,y0,e0,t0⟩:=hf 0 _ rfl;obtain ⟨b0,q0,-,s0⟩:=DataW.trod_string Tryz.underlying9 t0
 obtain rfl : c0 = .string b0:=by simpa using q0
 obtain ⟨c1,y1,e1,t1⟩:=hf 1 _ rfl;obtain ⟨b1,q1,-⟩:=DataW.trod_bool Tryz.underlying4 t1
 obtain rfl : c1 = .bool b1:=by simpa using q1
 obtain ⟨c2,y2,e2,t2⟩:=hf 2 _ rfl;obtain ⟨b2,q2,-⟩:=DataW.trod_bool Tryz.underlying4 t2
 obtain rfl : c2 = .bool b2:=by simpa using q2
 obtain ⟨c3,y3,e3,t3⟩:=hf 3 _ rfl;obtain ⟨b3,q3,-,s3⟩:=DataW.trod_string Tryz.underlying9 t3
 obtain rfl : c3 = .string b3:=by simpa using q3
 unfold maxLen at s0 s3;refine ⟨⟨b0,b1,b2,b3⟩,fun i f hi => ?_⟩
 rcases i with _ | _ | _ | _ | i
 ·cases hi
  exact ⟨_,(hc 0 (by omega)).trans e0,rfl,show b0.size ≤ _ by omega⟩
 ·cases hi
  exact ⟨_,(hc 1 (by omega)).trans e1,rfl⟩
 ·cases hi
  exact ⟨_,(hc 2 (by omega)).trans e2,rfl⟩
 ·cases hi
  exact ⟨_,(hc 3 (by omega)).trans e3,rfl,show b3.size ≤ _ by omega⟩
 ·first | (cases hi;done) | (simp [kdF] at hi;done)

theorem kdrow_of_trod {n : Nat} {c : Value} {y : DataW H × List MemPlace} (h : DataW.trod enc Tryz.prog w base spare held n 23 [c] = some y) : ∃ a len cap,∃ xs : List Kd,c = .slice a len cap ∧ RRow w a len cap 4 (xs.map kdF):=by
 rcases open_slice Tryz.underlying23 h with ⟨hcs,_⟩ | ⟨a,len,cap,m,n',D,Pl,hcs,hb,hl,hm,hmm,_,hx⟩
 ·exact ⟨none,0,0,[],by simpa using hcs,rfl,Nat.le_refl _,by omega,.inl rfl⟩
 have hlm : len ≤ m:=by rw [hmm];split <;> omega
 have hm' : cap ≤ 9223372036854775807:=by unfold maxLen at hm;omega
 have hce : Tryz.prog.cellsOf 97 = 4:=by kernel_rfl
 rw [hce] at hx
 by_cases h0 : len = 0
 ·subst h0;exact ⟨some a,0,cap,[],by simpa using hcs,rfl,hl,hm',.inl rfl⟩
 obtain ⟨b,o,spot⟩:=a;obtain ⟨cs0,k1,k2⟩:=hx 0 (by omega)
 have hspot : spot = none:=by
  obtain ⟨_,hl0,hc0⟩:=World.cells?_some k1;have:=hc0 0 (by omega);rw [List.getElem?_eq_getElem (by omega)] at this
  simpa [Addr.add] using World.cell?_spot this
 subst hspot
 have hblt : b < w.heap.size:=by
  obtain ⟨_,hl0,hc0⟩:=World.cells?_some k1;have:=hc0 0 (by omega);rw [List.getElem?_eq_getElem (by omega)] at this
  rcases Nat.lt_or_ge b w.heap.size with h1 | h1
  ·exact h1
  ·simp [Addr.add,World.cell?,Array.getElem?_eq_none h1] at this
 have each : ∀ i,i < len → ∃ v : Kd,RAt w b (o + i * 4) (kdF v):=fun i hi => by
  obtain ⟨cs,k1,k2⟩:=hx i (by omega);obtain ⟨_,hl0,hc0⟩:=World.cells?_some k1;refine kd_of_trod (fun j hj => ?_) k2;have:=hc0 j hj;rw [add_add,Addr.add_lit] at this;rw [Nat.add_assoc];exact this
 have hin : Inhabited Kd:=⟨⟨⟨#[]⟩,false,false,⟨#[]⟩⟩⟩;obtain ⟨f,hf⟩:=choose_lt each;refine ⟨some ⟨b,o,none⟩,len,cap,(List.range len).map f,by simpa using hcs,by simp,hl,hm',.inr ⟨b,o,rfl,hblt,fun j r hj => ?_⟩⟩;rw [List.getElem?_map,List.getElem?_map] at hj
 by_cases hjl : j < len
 ·rw [List.getElem?_range hjl] at hj;obtain rfl:=Option.some.inj hj;exact hf j hjl
 ·rw [List.getElem?_eq_none (by simp;omega)] at hj
  cases hj

theorem vd_of_trod {b o n : Nat} {cs : List Value} {x : DataW H × List MemPlace} (hc : ∀ i,i < 8 → w.cell? ⟨b,o + i,none⟩ = cs[i]?) (h : DataW.trod enc Tryz.prog w base spare held n 99 cs = some x) : ∃ v : Vd,RAt w b o (vdF v):=by
 obtain ⟨m,hl,hf⟩:=open_aggC Tryz.underlying99 (by kernel_rfl) (by kernel_rfl) h;obtain ⟨c0,y0,e0,t0⟩:=hf 0 _ rfl;obtain ⟨b0,q0,-,s0⟩:=DataW.trod_string Tryz.underlying9 t0
 obtain rfl : c0 = .string b0:=by simpa using q0
 obtain ⟨c1,y1,e1,t1⟩:=hf 1 _ rfl;obtain ⟨b1,q1,-,s1⟩:=DataW.trod_int Tryz.underlying2 t1
 obtain rfl : c1 = .int .i64 b1:=by simpa using q1
 obtain ⟨c2,y2,e2,t2⟩:=hf 2 _ rfl;obtain ⟨b2,q2,-,s2⟩:=DataW.trod_string Tryz.underlying9 t2
 obtain rfl : c2 = .string b2:=by simpa using q2
 obtain ⟨c3,y3,e3,t3⟩:=hf 3 _ rfl;obtain ⟨b3,q3,-,s3⟩:=DataW.trod_string Tryz.underlying9 t3
 obtain rfl : c3 = .string b3:=by simpa using q3
 obtain ⟨c4,y4,e4,t4⟩:=hf 4 _ rfl;obtain ⟨b4,q4,-⟩:=DataW.trod_bool Tryz.underlying4 t4
 obtain rfl : c4 = .bool b4:=by simpa using q4
 obtain ⟨c5,y5,e5,t5⟩:=hf 5 _ rfl;obtain ⟨b5,q5,-,s5⟩:=DataW.trod_string Tryz.underlying9 t5
 obtain rfl : c5 = .string b5:=by simpa using q5
 obtain ⟨c6,y6,e6,t6⟩:=hf 6 _ rfl;obtain ⟨b6,q6,-⟩:=DataW.trod_bool Tryz.underlying4 t6
 obtain rfl : c6 = .bool b6:=by simpa using q6
 obtain ⟨c7,y7,e7,t7⟩:=hf 7 _ rfl;obtain ⟨b7,l7,p7,zz,rfl,r7⟩:=row_of_trod Tryz.underlying78 Tryz.underlying9 (by kernel_rfl) t7;unfold maxLen at s0 s2 s3 s5;refine ⟨⟨b0,b1,b2,b3,b4,b5,b6,zz⟩,fun i f hi => ?_⟩
 rcases i with _ | _ | _ | _ | _ | _ | _ | _ | i
 ·cases hi
  exact ⟨_,(hc 0 (by omega)).trans e0,rfl,show b0.size ≤ _ by omega⟩
 ·cases hi
  exact ⟨_,(hc 1 (by omega)).trans e1,rfl⟩
 ·cases hi
  exact ⟨_,(hc 2 (by omega)).trans e2,rfl,show b2.size ≤ _ by omega⟩
 ·cases hi
  exact ⟨_,(hc 3 (by omega)).trans e3,rfl,show b3.size ≤ _ by omega⟩
 ·cases hi
  exact ⟨_,(hc 4 (by omega)).trans e4,rfl⟩
 ·cases hi
  exact ⟨_,(hc 5 (by omega)).trans e5,rfl,show b5.size ≤ _ by omega⟩
 ·cases hi
  exact ⟨_,(hc 6 (by omega)).trans e6,rfl⟩
 ·cases hi
  exact ⟨_,(hc 7 (by omega)).trans e7,b7,l7,p7,rfl,r7⟩
 ·first | (cases hi;done) | (simp [vdF] at hi;done)

theorem vdrow_of_trod {n : Nat} {c : Value} {y : DataW H × List MemPlace} (h : DataW.trod enc Tryz.prog w base spare held n 24 [c] = some y) : ∃ a len cap,∃ xs : List Vd,c = .slice a len cap ∧ RRow w a len cap 8 (xs.map vdF):=by
 rcases open_slice Tryz.underlying24 h with ⟨hcs,_⟩ | ⟨a,len,cap,m,n',D,Pl,hcs,hb,hl,hm,hmm,_,hx⟩
 ·exact ⟨none,0,0,[],by simpa using hcs,rfl,Nat.le_refl _,by omega,.inl rfl⟩
 have hlm : len ≤ m:=by rw [hmm];split <;> omega
 have hm' : cap ≤ 9223372036854775807:=by unfold maxLen at hm;omega
 have hce : Tryz.prog.cellsOf 99 = 8:=by kernel_rfl
 rw [hce] at hx
 by_cases h0 : len = 0
 ·subst h0;exact ⟨some a,0,cap,[],by simpa using hcs,rfl,hl,hm',.inl rfl⟩
 obtain ⟨b,o,spot⟩:=a;obtain ⟨cs0,k1,k2⟩:=hx 0 (by omega)
 have hspot : spot = none:=by
  obtain ⟨_,hl0,hc0⟩:=World.cells?_some k1;have:=hc0 0 (by omega);rw [List.getElem?_eq_getElem (by omega)] at this
  simpa [Addr.add] using World.cell?_spot this
 subst hspot
 have hblt : b < w.heap.size:=by
  obtain ⟨_,hl0,hc0⟩:=World.cells?_some k1;have:=hc0 0 (by omega);rw [List.getElem?_eq_getElem (by omega)] at this
  rcases Nat.lt_or_ge b w.heap.size with h1 | h1
  ·exact h1
  ·simp [Addr.add,World.cell?,Array.getElem?_eq_none h1] at this
 have each : ∀ i,i < len → ∃ v : Vd,RAt w b (o + i * 8) (vdF v):=fun i hi => by
  obtain ⟨cs,k1,k2⟩:=hx i (by omega);obtain ⟨_,hl0,hc0⟩:=World.cells?_some k1;refine vd_of_trod (fun j hj => ?_) k2;have:=hc0 j hj;rw [add_add,Addr.add_lit] at this;rw [Nat.add_assoc];exact this
 have hin : Inhabited Vd:=⟨⟨⟨#[]⟩,0,⟨#[]⟩,⟨#[]⟩,false,⟨#[]⟩,false,[]⟩⟩;obtain ⟨f,hf⟩:=choose_lt each;refine ⟨some ⟨b,o,none⟩,len,cap,(List.range len).map f,by simpa using hcs,by simp,hl,hm',.inr ⟨b,o,rfl,hblt,fun j r hj => ?_⟩⟩;rw [List.getElem?_map,List.getElem?_map] at hj
 by_cases hjl : j < len
 ·rw [List.getElem?_range hjl] at hj;obtain rfl:=Option.some.inj hj;exact hf j hjl
 ·rw [List.getElem?_eq_none (by simp;omega)] at hj
  cases hj

theorem xd_of_trod {b o n : Nat} {cs : List Value} {x : DataW H × List MemPlace} (hc : ∀ i,i < 5 → w.cell? ⟨b,o + i,none⟩ = cs[i]?) (h : DataW.trod enc Tryz.prog w base spare held n 102 cs = some x) : ∃ v : Xd,RAt w b o (xdF v):=by
 obtain ⟨m,hl,hf⟩:=open_aggC Tryz.underlying102 (by kernel_rfl) (by kernel_rfl) h;obtain ⟨c0,y0,e0,t0⟩:=hf 0 _ rfl;obtain ⟨b0,q0,-,s0⟩:=DataW.trod_string Tryz.underlying9 t0
 obtain rfl : c0 = .string b0:=by simpa using q0
 obtain ⟨c1,y1,e1,t1⟩:=hf 1 _ rfl;obtain ⟨b1,q1,-,s1⟩:=DataW.trod_int Tryz.underlying2 t1
 obtain rfl : c1 = .int .i64 b1:=by simpa using q1
 obtain ⟨c2,y2,e2,t2⟩:=hf 2 _ rfl;obtain ⟨b2,q2,-,s2⟩:=DataW.trod_string Tryz.underlying9 t2
 obtain rfl : c2 = .string b2:=by simpa using q2
 obtain ⟨c3,y3,e3,t3⟩:=hf 3 _ rfl;obtain ⟨b3,q3,-⟩:=DataW.trod_bool Tryz.underlying4 t3
 obtain rfl : c3 = .bool b3:=by simpa using q3
 obtain ⟨c4,y4,e4,t4⟩:=hf 4 _ rfl;obtain ⟨b4,q4,-,s4⟩:=DataW.trod_string Tryz.underlying9 t4
 obtain rfl : c4 = .string b4:=by simpa using q4
 unfold maxLen at s0 s2 s4;refine ⟨⟨b0,b1,b2,b3,b4⟩,fun i f hi => ?_⟩
 rcases i with _ | _ | _ | _ | _ | i
 ·cases hi
  exact ⟨_,(hc 0 (by omega)).trans e0,rfl,show b0.size ≤ _ by omega⟩
 ·cases hi
  exact ⟨_,(hc 1 (by omega)).trans e1,rfl⟩
 ·cases hi
  exact ⟨_,(hc 2 (by omega)).trans e2,rfl,show b2.size ≤ _ by omega⟩
 ·cases hi
  exact ⟨_,(hc 3 (by omega)).trans e3,rfl⟩
 ·cases hi
  exact ⟨_,(hc 4 (by omega)).trans e4,rfl,show b4.size ≤ _ by omega⟩
 ·first | (cases hi;done) | (simp [xdF] at hi;done)

theorem xdrow_of_trod {n : Nat} {c : Value} {y : DataW H × List MemPlace} (h : DataW.trod enc Tryz.prog w base spare held n 25 [c] = some y) : ∃ a len cap,∃ xs : List Xd,c = .slice a len cap ∧ RRow w a len cap 5 (xs.map xdF):=by
 rcases open_slice Tryz.underlying25 h with ⟨hcs,_⟩ | ⟨a,len,cap,m,n',D,Pl,hcs,hb,hl,hm,hmm,_,hx⟩
 ·exact ⟨none,0,0,[],by simpa using hcs,rfl,Nat.le_refl _,by omega,.inl rfl⟩
 have hlm : len ≤ m:=by rw [hmm];split <;> omega
 have hm' : cap ≤ 9223372036854775807:=by unfold maxLen at hm;omega
 have hce : Tryz.prog.cellsOf 102 = 5:=by kernel_rfl
 rw [hce] at hx
 by_cases h0 : len = 0
 ·subst h0;exact ⟨some a,0,cap,[],by simpa using hcs,rfl,hl,hm',.inl rfl⟩
 obtain ⟨b,o,spot⟩:=a;obtain ⟨cs0,k1,k2⟩:=hx 0 (by omega)
 have hspot : spot = none:=by
  obtain ⟨_,hl0,hc0⟩:=World.cells?_some k1;have:=hc0 0 (by omega);rw [List.getElem?_eq_getElem (by omega)] at this
  simpa [Addr.add] using World.cell?_spot this
 subst hspot
 have hblt : b < w.heap.size:=by
  obtain ⟨_,hl0,hc0⟩:=World.cells?_some k1;have:=hc0 0 (by omega);rw [List.getElem?_eq_getElem (by omega)] at this
  rcases Nat.lt_or_ge b w.heap.size with h1 | h1
  ·exact h1
  ·simp [Addr.add,World.cell?,Array.getElem?_eq_none h1] at this
 have each : ∀ i,i < len → ∃ v : Xd,RAt w b (o + i * 5) (xdF v):=fun i hi => by
  obtain ⟨cs,k1,k2⟩:=hx i (by omega);obtain ⟨_,hl0,hc0⟩:=World.cells?_some k1;refine xd_of_trod (fun j hj => ?_) k2;have:=hc0 j hj;rw [add_add,Addr.add_lit] at this;rw [Nat.add_assoc];exact this
 have hin : Inhabited Xd:=⟨⟨⟨#[]⟩,0,⟨#[]⟩,false,⟨#[]⟩⟩⟩;obtain ⟨f,hf⟩:=choose_lt each;refine ⟨some ⟨b,o,none⟩,len,cap,(List.range len).map f,by simpa using hcs,by simp,hl,hm',.inr ⟨b,o,rfl,hblt,fun j r hj => ?_⟩⟩;rw [List.getElem?_map,List.getElem?_map] at hj
 by_cases hjl : j < len
 ·rw [List.getElem?_range hjl] at hj;obtain rfl:=Option.some.inj hj;exact hf j hjl
 ·rw [List.getElem?_eq_none (by simp;omega)] at hj
  cases hj

theorem pd_of_trod {b o n : Nat} {cs : List Value} {x : DataW H × List MemPlace} (hc : ∀ i,i < 6 → w.cell? ⟨b,o + i,none⟩ = cs[i]?) (h : DataW.trod enc Tryz.prog w base spare held n 105 cs = some x) : ∃ v : Pd,RAt w b o (pdF v):=by
 obtain ⟨m,hl,hf⟩:=open_aggC Tryz.underlying105 (by kernel_rfl) (by kernel_rfl) h;obtain ⟨c0,y0,e0,t0⟩:=hf 0 _ rfl;obtain ⟨b0,q0,-,s0⟩:=DataW.trod_string Tryz.underlying9 t0
 obtain rfl : c0 = .string b0:=by simpa using q0
 obtain ⟨c1,y1,e1,t1⟩:=hf 1 _ rfl;obtain ⟨b1,q1,-,s1⟩:=DataW.trod_int Tryz.underlying2 t1
 obtain rfl : c1 = .int .i64 b1:=by simpa using q1
 obtain ⟨c2,y2,e2,t2⟩:=hf 2 _ rfl;obtain ⟨b2,q2,-,s2⟩:=DataW.trod_string Tryz.underlying9 t2
 obtain rfl : c2 = .string b2:=by simpa using q2
 obtain ⟨c3,y3,e3,t3⟩:=hf 3 _ rfl;obtain ⟨b3,l3,p3,zz,rfl,r3⟩:=row_of_trod Tryz.underlying78 Tryz.underlying9 (by kernel_rfl) t3;obtain ⟨c4,y4,e4,t4⟩:=hf 4 _ rfl;obtain ⟨b4,q4,-,s4⟩:=DataW.trod_string Tryz.underlying9 t4
 obtain rfl : c4 = .string b4:=by simpa using q4
 obtain ⟨c5,y5,e5,t5⟩:=hf 5 _ rfl;obtain ⟨b5,q5,-,s5⟩:=DataW.trod_int Tryz.underlying2 t5
 obtain rfl : c5 = .int .i64 b5:=by simpa using q5
 unfold maxLen at s0 s2 s4;refine ⟨⟨b0,b1,b2,zz,b4,b5⟩,fun i f hi => ?_⟩
 rcases i with _ | _ | _ | _ | _ | _ | i
 ·cases hi
  exact ⟨_,(hc 0 (by omega)).trans e0,rfl,show b0.size ≤ _ by omega⟩
 ·cases hi
  exact ⟨_,(hc 1 (by omega)).trans e1,rfl⟩
 ·cases hi
  exact ⟨_,(hc 2 (by omega)).trans e2,rfl,show b2.size ≤ _ by omega⟩
 ·cases hi
  exact ⟨_,(hc 3 (by omega)).trans e3,b3,l3,p3,rfl,r3⟩
 ·cases hi
  exact ⟨_,(hc 4 (by omega)).trans e4,rfl,show b4.size ≤ _ by omega⟩
 ·cases hi
  exact ⟨_,(hc 5 (by omega)).trans e5,rfl⟩
 ·first | (cases hi;done) | (simp [pdF] at hi;done)

theorem pdrow_of_trod {n : Nat} {c : Value} {y : DataW H × List MemPlace} (h : DataW.trod enc Tryz.prog w base spare held n 26 [c] = some y) : ∃ a len cap,∃ xs : List Pd,c = .slice a len cap ∧ RRow w a len cap 6 (xs.map pdF):=by
 rcases open_slice Tryz.underlying26 h with ⟨hcs,_⟩ | ⟨a,len,cap,m,n',D,Pl,hcs,hb,hl,hm,hmm,_,hx⟩
 ·exact ⟨none,0,0,[],by simpa using hcs,rfl,Nat.le_refl _,by omega,.inl rfl⟩
 have hlm : len ≤ m:=by rw [hmm];split <;> omega
 have hm' : cap ≤ 9223372036854775807:=by unfold maxLen at hm;omega
 have hce : Tryz.prog.cellsOf 105 = 6:=by kernel_rfl
 rw [hce] at hx
 by_cases h0 : len = 0
 ·subst h0;exact ⟨some a,0,cap,[],by simpa using hcs,rfl,hl,hm',.inl rfl⟩
 obtain ⟨b,o,spot⟩:=a;obtain ⟨cs0,k1,k2⟩:=hx 0 (by omega)
 have hspot : spot = none:=by
  obtain ⟨_,hl0,hc0⟩:=World.cells?_some k1;have:=hc0 0 (by omega);rw [List.getElem?_eq_getElem (by omega)] at this
  simpa [Addr.add] using World.cell?_spot this
 subst hspot
 have hblt : b < w.heap.size:=by
  obtain ⟨_,hl0,hc0⟩:=World.cells?_some k1;have:=hc0 0 (by omega);rw [List.getElem?_eq_getElem (by omega)] at this
  rcases Nat.lt_or_ge b w.heap.size with h1 | h1
  ·exact h1
  ·simp [Addr.add,World.cell?,Array.getElem?_eq_none h1] at this
 have each : ∀ i,i < len → ∃ v : Pd,RAt w b (o + i * 6) (pdF v):=fun i hi => by
  obtain ⟨cs,k1,k2⟩:=hx i (by omega);obtain ⟨_,hl0,hc0⟩:=World.cells?_some k1;refine pd_of_trod (fun j hj => ?_) k2;have:=hc0 j hj;rw [add_add,Addr.add_lit] at this;rw [Nat.add_assoc];exact this
 have hin : Inhabited Pd:=⟨⟨⟨#[]⟩,0,⟨#[]⟩,[],⟨#[]⟩,0⟩⟩;obtain ⟨f,hf⟩:=choose_lt each;refine ⟨some ⟨b,o,none⟩,len,cap,(List.range len).map f,by simpa using hcs,by simp,hl,hm',.inr ⟨b,o,rfl,hblt,fun j r hj => ?_⟩⟩;rw [List.getElem?_map,List.getElem?_map] at hj
 by_cases hjl : j < len
 ·rw [List.getElem?_range hjl] at hj;obtain rfl:=Option.some.inj hj;exact hf j hjl
 ·rw [List.getElem?_eq_none (by simp;omega)] at hj
  cases hj

end

end Rc
end Go.Proofs.YtkljbgdikmpjfaaGreatDoor

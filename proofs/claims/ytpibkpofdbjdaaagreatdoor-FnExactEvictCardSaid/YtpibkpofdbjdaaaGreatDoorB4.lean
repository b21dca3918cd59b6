import Derived.Test.YtpibkpofdbjdaaaGreatDoorB3
import Derived.WalkKit
import Derived.LaidEql
import Derived.Stop.Asserts
import Derived.RowKitTokens
import Derived.Test.YtpibkpofdbjdaaaGreatDoorRows
import Derived.WalkSpells
import Derived.RegionTactic
import Derived.Laws.AppendOwn
import Derived.Laws.AppendOwnNone
import Derived.Deep.AppendLies
/-
 Whether all volumes of a pod are mounted on its node, as the specification asks it.
-/
set_option maxRecDepth 100000
set_option maxHeartbeats 12800000
namespace Go.Proofs.YtpibkpofdbjdaaaGreatDoor
theorem qqa15 {p : Prop} (h : p:=by
 go_simp;refine hK _ _ (Below.refl _ _) ?_;with_reducible rfl) : p:=h
theorem qqa22 {p : Prop} (h : p:=by
 obtain rfl : len = k:=qqd1
 go_wp2;go_ret;refine ⟨rfl,?_,HB.out⟩;have h5:=HP.out;rw [List.take_of_length_le qqd1,List.drop_of_length_le qqd6,List.append_nil] at h5;exact h5) : p:=h
theorem qqa30 {p : Prop} (h : p:=by
 obtain ⟨h1,h2⟩:=List.getElem?_eq_some_iff.1 hx;simpa using h2.symm) : p:=h
theorem qqa35 {p : Prop} (h : p:=by
 rw [← e1] at hV;have HV3:=hidK hV;have HB3:=hidK ((HB.out.trans (hb23.mono hBs)).grown hgrow qqd7 (fun g hg => (HO2.out.lt g hg).1));clear hown3 hgrow hb23 hV e1;go_wp2;exact ⟨⟨k + 1,_,_,by omega,by go_num,HO3,HV3,HB3⟩,by simp [intOf];omega⟩) : p:=h
theorem qqa38 {p : Prop} (h : p:=by
 rw [h3] at h4;exact ⟨by rw [List.length_map,take_drop_len hZl qqd1];simp,Nat.le_refl _,by omega,.inr ⟨_,cur,H,rfl,h4⟩⟩) : p:=h
theorem qqa41 {p : Prop} (h : p:=by
 refine Obl.plain rfl ?_;intro ac wg K hsz hW hf hK;clear hsz;clear hf;go_simp;exact hK _ _ (below1 _ _) ⟨_,rfl,hW.size,Array.getElem?_push_size⟩) : p:=h
theorem qqa42 {p : Prop} (h : p:=by
 rintro e w' ⟨rfl,rfl⟩;go_wp2;go_ret;exact ⟨rfl,rfl⟩) : p:=h
theorem qqa47 {p : Prop} (h : p:=by
 intro j r hr;rw [List.getElem?_map] at hr;obtain ⟨x,hx,rfl⟩:=Option.map_eq_some_iff.1 hr;rfl) : p:=h
theorem qqa55 {p : Prop} (h : p:=by
 rw [List.getElem?_eq_none qqd7] at hj;cases hj) : p:=h
theorem qqa67 {p : Prop} (h : p:=by
 rw [Nat.zero_add,cellK hg];have hj : j < n:=by have:=(List.getElem?_eq_some_iff.1 hx).1;omega
 have e1 : (cur.toList.take (n * 1))[j]? = some (.string x):=by rw [htk];simp [hx]
 rw [List.getElem?_take,if_pos qqd1] at e1;simpa using e1) : p:=h
theorem qqa83 {p : Prop} (h : p:=by
 rw [hl5] at HR5;rw [hl5];clear h5 hR HV HO;go_wp2;go_ret;exact ⟨a',c',rfl,HR5.out,HB.out⟩) : p:=h
theorem qqa100 {p : Prop} (h : p:=by
 go_enter Tryz.func104,Tryz.ntmps104;go_wp2;refine wp_loop_rounds 1 ?_;rw [rounds_succ];go_wp2;go_ret;exact ⟨rfl,rfl⟩) : p:=h
theorem qqa120 {p : Prop} (h : p:=by
 have h9:=HB.out.size;have hgl:=lt_of_some (HS.out.own.choose_spec.choose_spec.1.blk);refine ⟨_,_,_,rfl,HVZ.out,Nat.le_refl _,by omega,HT.out.2.2.2.1,.inr ⟨rfl,by show w.heap.size ≤ _;omega,by omega,_,hG,fun j x hx => ?_⟩⟩;simp [hx]) : p:=h
theorem qqa124 {p : Prop} (h : p:=by
 rw [List.getElem?_map,take_drop_at hZl qqd1,List.getElem?_replicate,if_pos hlt];rfl) : p:=h
theorem qqa135 {p : Prop} (h : p:=by
 show World.ownsRow _ _ _ _ _ _ _;rw [List.flatten_append];simpa using hown3) : p:=h
theorem qqa142 {p : Prop} (h : p:=by
 clear hf;obtain ⟨k0,k1,k2,k3,k4,k5⟩:=cs6 ((hW.block _ (lt_of_some GK.out)).trans GK.out);exact qqa15) : p:=h
theorem qqb4 {p : Prop} (h : p:=by
 have hszv1 : (wr.alloc (.cells #[.string p.n,.int .i64 p.c,.string p.z,.slice va vl vc,.string p.d,.int .i64 2] 69)).heap.size = wr.heap.size + 1:=qqd6
 have Gk : Hid ((wr.alloc (.cells #[.string p.n,.int .i64 p.c,.string p.z,.slice va vl vc,.string p.d,.int .i64 2] 69)).heap[w.heap.size]? = some (.cells #[.slice (some ⟨b1,o1,none⟩) l1 y1,.slice a2 l2 y2,.slice a3 l3 y3,.slice a4 l4 y4,.slice (some ⟨b,o,none⟩) l5 y5,.int .i64 c.now] 36 (0,0))):=(Below.heap_alloc _ _ _ (lt_of_some Bk.out)).trans (Bk.out);have Gr : Hid ((wr.alloc (.cells #[.string p.n,.int .i64 p.c,.string p.z,.slice va vl vc,.string p.d,.int .i64 2] 69)).heap[wr.heap.size]? = some (.cells #[.string p.n,.int .i64 p.c,.string p.z,.slice va vl vc,.string p.d,.int .i64 2] 69 (0,0))):=Array.getElem?_push_size;have HW : Hid (Below w.heap.size w (wr.alloc (.cells #[.string p.n,.int .i64 p.c,.string p.z,.slice va vl vc,.string p.d,.int .i64 2] 69))):=(HB.out.trans ((below1 _ _).mono HB.out.size));exact And.intro hszv1 (And.intro Gk (And.intro Gr HW))) : p:=h
theorem qqb7 {p : Prop} (h : p:=by
 have nw:=fun q : Wd (wr.alloc (.cells #[.string p.n,.int .i64 p.c,.string p.z,.slice va vl vc,.string p.d,.int .i64 2] 69)) => (q.cell hbnv).trans e5v;have hne0:=Wd.ne (wr.alloc (.cells #[.string p.n,.int .i64 p.c,.string p.z,.slice va vl vc,.string p.d,.int .i64 2] 69));have HC0:=hidK (fun q : Wd (wr.alloc (.cells #[.string p.n,.int .i64 p.c,.string p.z,.slice va vl vc,.string p.d,.int .i64 2] 69)) => sxnd_hit ⟨(some ⟨b1,o1,none⟩),l1,y1,a2,l2,y2,a3,l3,y3,a4,l4,y4,(some ⟨b,o,none⟩),l5,y5⟩ c.now c.ns p.d q.w (HR.out.n.below (HW.out.trans (q.b.mono HW.out.size))) HNR.out HJn.out HNn.out);exact And.intro nw (And.intro hne0 HC0)) : p:=h
theorem qqb9 {p : Prop} (h : p:=by
 have HE:=hidK h;have v0:=h.v0;have v1:=h.v1;have v2:=h.v2;have v3:=h.v3;have v4:=h.v4;have v5:=h.v5;have v6:=h.v6;have v7:=h.v7;have v8:=h.v8;have v9:=h.v9;exact And.intro HE (And.intro v0 (And.intro v1 (And.intro v2 (And.intro v3 (And.intro v4 (And.intro v5 (And.intro v6 (And.intro v7 (And.intro v8 v9)))))))))) : p:=h
theorem qqb20 {p : Prop} (h : p:=by
 have hbnv : b1 < (wr.alloc (.cells #[.string p.n,.int .i64 p.c,.string p.z,.slice va vl vc,.string p.d,.int .i64 2] 69)).heap.size:=by simp;omega
 have e5v:=(cell_below (below1 wr (.cells #[.string p.n,.int .i64 p.c,.string p.z,.slice va vl vc,.string p.d,.int .i64 2] 69)) hbn).trans e5;exact And.intro hbnv e5v) : p:=h
theorem qqb22 {p : Prop} (h : p:=by
 have hnx1 : Below w.heap.size w w1:=(Below.refl _ _).grown hgrow (Nat.le_refl _) (fun k hk => by cases hk);have HB : Hid (Below w.heap.size w w1):=hnx1;exact And.intro hnx1 HB) : p:=h
theorem qqb32 {p : Prop} (h : p:=by
 have p3:=fun q : Wd wr => q.slot (o:=3) Gp.out rfl;have n6:=fun q : Wd wr => q.slot (o:=6) Gn.out rfl;have tw:=fun q : Wd wr => (q.cell hb).trans hc;have vw:=fun q : Wd wr => (q.cell hbv).trans v0;have hne0:=Wd.ne wr;have HC0:=hidK (fun q : Wd wr => sbind_hit ⟨(some ⟨b1,o1,none⟩),l1,y1,a2,l2,y2,(some ⟨b3,o3,none⟩),l3,y3,a4,l4,y4,a5,l5,y5⟩ c t q.w (HR.out.below (HW.out.trans (q.b.mono HW.out.size))) HX.out HV.out HNE.out HJ.out HDb.out);exact And.intro p3 (And.intro n6 (And.intro tw (And.intro vw (And.intro hne0 HC0))))) : p:=h
theorem qqb43 {p : Prop} (h : p:=by
 have h8:=@run_callFunc_extern Tryz.prog 140 _ Extern.ReflectliteType.typeOf Tryz.func140 qqd2 qqd2 qqd2 qqd2;have h32:=@run_callFunc_extern Tryz.prog 212 _ cmpF Tryz.func212 qqd2 qqd2 qqd2 qqd2;have tT:=isTypeOf;have cT:=isComparable;have mR:=isMethodComparable;exact And.intro h8 (And.intro h32 (And.intro tT (And.intro cT mR)))) : p:=h
theorem qqb58 {p : Prop} (h : p:=by
 have HG:=hidK hg;have HX2:=hidK hbx;have HO2:=hidK (owns_below HO.out hbx);have hs2 : wr.heap.size < w2.heap.size:=by have:=hb2.size;rw [size1] at this;omega
 exact And.intro HG (And.intro HX2 (And.intro HO2 hs2))) : p:=h
theorem qqb65 {p : Prop} (h : p:=by
 have HT:=hidK hvr;have hvl2 : vl ≤ 1048576:=by have:=HF.out k v hv;rw [hvr.1] at this;exact this
 have hvz : v.zs.length = vl:=hvr.1;have HVZ:=hidK hvz;exact And.intro HT (And.intro hvl2 (And.intro hvz HVZ))) : p:=h
theorem qqb85 {p : Prop} (h : p:=by
 have hz8 : vl ≤ 8001:=by have h1:=hvr.1;have h2:=HS.out k x hx;omega
 have HX:=hidK hx;have HT:=hidK hvr;have HZz0:=hidK z0;exact And.intro hz8 (And.intro HX (And.intro HT HZz0))) : p:=h
theorem qqb88 {p : Prop} (h : p:=by
 have HR:=hidK hr;have hvl : xs.length = len:=qqd8
 exact And.intro HR hvl) : p:=h
end Go.Proofs.YtpibkpofdbjdaaaGreatDoor
namespace Go.Proofs.YtpibkpofdbjdaaaGreatDoor
open Go.RowKit
namespace Rc
open Mk

def FreshN (W : World) : Fact:=fun v w => ∃ g,v = .pointer (some ⟨g,0,none⟩) ∧ W.heap.size ≤ g ∧ w.heap[g]? = some (.cells #[.string ⟨#[]⟩,.string ⟨#[]⟩,.int .i64 0,.int .i64 0,.int .i64 0,.bool false,.slice none 0 0] 82 (0,0))
theorem FreshN.mono (W : World) : Fact.Mono (FreshN W):=by
 rintro v w w' ⟨g,h1,h2,h3⟩ hb;exact ⟨g,h1,h2,(hb.block g (lt_of_some h3)).trans h3⟩
theorem put7N {w : World} {g : Nat} {v0 v1 v2 v3 v4 v5 v6 : Value} (h : w.heap[g]? = some (.cells #[.string ⟨#[]⟩,.string ⟨#[]⟩,.int .i64 0,.int .i64 0,.int .i64 0,.bool false,.slice none 0 0] 82 (0,0))) :
  (((((((w.setCell ⟨g,0,none⟩ (v0)).setCell ⟨g,1,none⟩ (v1)).setCell ⟨g,2,none⟩ (v2)).setCell ⟨g,3,none⟩ (v3)).setCell ⟨g,4,none⟩ (v4)).setCell ⟨g,5,none⟩ (v5)).setCell ⟨g,6,none⟩ (v6)).heap[g]? = some (.cells #[v0,v1,v2,v3,v4,v5,v6] 82 (0,0)):=by
 have:=block_set (i:=6) (block_set (i:=5) (block_set (i:=4) (block_set (i:=3) (block_set (i:=2) (block_set (i:=1) (block_set (i:=0) h v0) v1) v2) v3) v4) v5) v6;simpa using this
theorem set_below7 {W w : World} {g : Nat} {v0 v1 v2 v3 v4 v5 v6 : Value} (hg : W.heap.size ≤ g) (h : Below W.heap.size W w) : Below W.heap.size W (((((((w.setCell ⟨g,0,none⟩ (v0)).setCell ⟨g,1,none⟩ (v1)).setCell ⟨g,2,none⟩ (v2)).setCell ⟨g,3,none⟩ (v3)).setCell ⟨g,4,none⟩ (v4)).setCell ⟨g,5,none⟩ (v5)).setCell ⟨g,6,none⟩ (v6)) :=
 set_below hg (set_below hg (set_below hg (set_below hg (set_below hg (set_below hg (set_below hg h))))))
def AllS (c : Cl) (p : Pd) (n : Nd) : Prop:=∀ (j : Nat) t,p.zs[j]? = some t → ∃ v,IsBd c t v ∧ InL n.zs v.n

theorem sall_any (d : Ad) (c : Cl) (p : Pd) (pa : Option Addr) (pl pc : Nat) (j1 : Nat) (n : Nd) (w : World) (hr : ClRow w d c.raw) (hn : RisBy Nd.n c.ns) (hx : RisBy Xd.n c.xs) (hv : RisBy Vd.n c.vs) (hne : ∀ (j : Nat) v,c.vs[j]? = some v → ¬ v.n = ⟨#[]⟩) (hp : TxRow w pa pl pc p.zs) (hj1 : c.ns[j1]? = some n) (hnn : n.n = p.d) (hbd : ∀ (j : Nat) t,p.zs[j]? = some t → ∃ v,IsBd c t v) :
  Calls Tryz.prog 125 #[.agg #[.slice d.a1 d.l1 d.c1,.slice d.a2 d.l2 d.c2,.slice d.a3 d.l3 d.c3,.slice d.a4 d.l4 d.c4,.slice d.a5 d.l5 d.c5,.int .i64 c.now],.agg #[.string p.n,.int .i64 p.c,.string p.z,.slice pa pl pc,.string p.d,.int .i64 p.p]] w (BoolB (AllS c p n) w):=by
 obtain ⟨a1,l1,y1,a2,l2,y2,a3,l3,y3,a4,l4,y4,a5,l5,y5⟩:=d;dsimp only;obtain ⟨HR,hl1,hm1,hl2,hm2,hl3,hm3,hl4,hm4,hl5,hm5⟩:=qqb1;clear hr;have HNR:=hidK hn;obtain ⟨HX,HV,HNE⟩:=qqb78;have HP:=hidK hp;have HBD:=hidK hbd;obtain ⟨hlc,hzl⟩:=qqb64;have hl1' : j1 < l1:=by have h3:=(List.getElem?_eq_some_iff.1 hj1).1;omega
 obtain ⟨b1,o1,n',rfl,hb1n,hn',hat⟩:=nd_at HR.out.n hl1';rw [hj1] at hn';obtain rfl:=Option.some.inj hn';obtain ⟨na,nl,nc,hnr,z0,z1,d0,d1,d2,d3,d4,d5,d6⟩:=nd_cells hat;have HJn:=hidK hj1;have HNn:=hidK hnn;have HTn:=hidK hnr;have HBn:=hidK hb1n;have HD : Hid (w.cell? ⟨b1,o1 + j1 * 7,none⟩ = some (.string n.n) ∧ w.cell? ⟨b1,o1 + j1 * 7 + 1,none⟩ = some (.string n.z) ∧ w.cell? ⟨b1,o1 + j1 * 7 + 2,none⟩ = some (.int .i64 n.c) ∧ w.cell? ⟨b1,o1 + j1 * 7 + 3,none⟩ = some (.int .i64 n.s) ∧ w.cell? ⟨b1,o1 + j1 * 7 + 4,none⟩ = some (.int .i64 n.u) ∧ w.cell? ⟨b1,o1 + j1 * 7 + 5,none⟩ = some (.bool n.d) ∧ w.cell? ⟨b1,o1 + j1 * 7 + 6,none⟩ = some (.slice na nl nc)):=⟨d0,d1,d2,d3,d4,d5,d6⟩;clear hn' hat hnr z0 z1 d0 d1 d2 d3 d4 d5 d6 hj1 hnn hb1n hn hx hv hne hp hbd;obtain ⟨W,hW0⟩ : ∃ W,W = (w.alloc (.cells #[.slice (some ⟨b1,o1,none⟩) l1 y1,.slice a2 l2 y2,.slice a3 l3 y3,.slice a4 l4 y4,.slice a5 l5 y5,.int .i64 c.now] 36)).alloc (.cells #[.string p.n,.int .i64 p.c,.string p.z,.slice pa pl pc,.string p.d,.int .i64 p.p] 69):=⟨_,rfl⟩;have GK : Hid (W.heap[w.heap.size]? = some (.cells #[.slice (some ⟨b1,o1,none⟩) l1 y1,.slice a2 l2 y2,.slice a3 l3 y3,.slice a4 l4 y4,.slice a5 l5 y5,.int .i64 c.now] 36 (0,0))):=by rw [hW0];exact heap2_0 _ _ _
 have GP : Hid (W.heap[w.heap.size + 1]? = some (.cells #[.string p.n,.int .i64 p.c,.string p.z,.slice pa pl pc,.string p.d,.int .i64 p.p] 69 (0,0))):=by rw [hW0];exact heap2_1 _ _ _
 have BW : Hid (Below w.heap.size w W):=by rw [hW0];exact below2 _ _ _
 go_enter Tryz.func125,Tryz.ntmps125;go_wp2_with fail;rw [← hW0];clear hW0;rename_i K0 hK0;refine wp_region_grow_last qqd2 rfl rfl qqd2 ?_;refine' Grow.stepC _ rfl ?_ ?_;rotate_left 1
 ·refine Obl.plain rfl ?_;intro ac wg K hsz hW hf hK;clear hsz;have e2:=hf 2 qqd3;simp [slotFact,List.lookup] at e2;clear hf;exact qqa15
 refine' Grow.stepC _ rfl ?_ ?_;rotate_left 1
 ·refine Obl.plain rfl ?_;intro ac wg K hsz hW hf hK;clear hsz;have e7:=hf 7 qqd3;simp [slotFact,List.lookup] at e7;exact qqa142
 refine' Grow.stepC _ rfl ?_ ?_;rotate_left 1
 ·refine Obl.plain rfl ?_;intro ac wg K hsz hW hf hK;clear hsz;have e2:=hf 2 qqd3;simp [slotFact,List.lookup] at e2;exact qqa142
 refine' Grow.stepC _ rfl ?_ ?_;rotate_left 1
 ·refine Obl.plain rfl ?_;intro ac wg K hsz hW hf hK;clear hsz;have e3:=hf 3 qqd3;simp [slotFact,List.lookup] at e3;clear hf;exact qqa15
 refine' Grow.stepC _ rfl ?_ ?_;rotate_left 1
 ·refine Obl.plain rfl ?_;intro ac wg K hsz hW hf hK;clear hsz;have e10:=hf 10 qqd3;simp [slotFact,List.lookup] at e10;clear hf;obtain ⟨r0,r1,r2,r3,r4,r5⟩:=cs6 ((hW.block _ (lt_of_some GP.out)).trans GP.out);exact qqa15
 refine' Grow.stepC (.int .i64 j1) rfl ?_ ?_
 ·refine Obl.plain rfl ?_;intro ac wg K hsz hW hf hK;clear hsz;have e9:=hf 9 qqd3;simp [slotFact,List.lookup] at e9;have e11:=hf 11 qqd3;simp [slotFact,List.lookup] at e11;clear hf;go_simp;refine (sxnd_hit ⟨(some ⟨b1,o1,none⟩),l1,y1,a2,l2,y2,a3,l3,y3,a4,l4,y4,a5,l5,y5⟩ c.now c.ns p.d _ (HR.out.n.below (BW.out.trans (hW.mono BW.out.size))) HNR.out HJn.out HNn.out).mono ?_;rintro e w5 ⟨rfl,hb5⟩;exact hK _ _ hb5 rfl
 refine' Grow.stepC _ rfl ?_ ?_;rotate_left 1
 ·refine Obl.plain rfl ?_;intro ac wg K hsz hW hf hK;clear hsz;have e8:=hf 8 qqd3;simp [slotFact,List.lookup] at e8;have e12:=hf 12 qqd3;simp [slotFact,List.lookup] at e12;clear hf;exact qqa15
 refine' Grow.stepC _ rfl ?_ ?_;rotate_left 1
 ·refine Obl.plain rfl ?_;intro ac wg K hsz hW hf hK;clear hsz;have e13:=hf 13 qqd3;simp [slotFact,List.lookup] at e13;clear hf;have hBg:=BW.out.trans (hW.mono BW.out.size);obtain ⟨d0,d1,d2,d3,d4,d5,d6⟩:=HD.out;have g0:=(cell_below hBg HBn.out).trans d0;have g1:=(cell_below hBg HBn.out).trans d1;have g2:=(cell_below hBg HBn.out).trans d2;have g3:=(cell_below hBg HBn.out).trans d3;have g4:=(cell_below hBg HBn.out).trans d4;have g5:=(cell_below hBg HBn.out).trans d5;have g6:=(cell_below hBg HBn.out).trans d6;clear d0 d1 d2 d3 d4 d5 d6 hBg;exact qqa15
 refine Grow.step (FreshN W) rfl (FreshN.mono W) ?_ ?_
 ·exact qqa41
 refine Grow.done ?_;intro q wz hW hf;simp only [List.forall_mem_cons] at hf;obtain ⟨⟨g5,h5,hbW,hgb⟩,h14,-⟩:=hf;have r0 : wz.cell? ⟨g5,0,none⟩ = some (.string ⟨#[]⟩):=cellK hgb 0;have r1 : wz.cell? ⟨g5,1,none⟩ = some (.string ⟨#[]⟩):=cellK hgb 1;have r2 : wz.cell? ⟨g5,2,none⟩ = some (.int .i64 0):=cellK hgb 2;have r3 : wz.cell? ⟨g5,3,none⟩ = some (.int .i64 0):=cellK hgb 3;have r4 : wz.cell? ⟨g5,4,none⟩ = some (.int .i64 0):=cellK hgb 4;have r5 : wz.cell? ⟨g5,5,none⟩ = some (.bool false):=cellK hgb 5;have r6 : wz.cell? ⟨g5,6,none⟩ = some (.slice none 0 0):=cellK hgb 6;have f0:=froK hgb 0;have f1:=froK hgb 1;have f2:=froK hgb 2;have f3:=froK hgb 3;have f4:=froK hgb 4;have f5:=froK hgb 5;have f6:=froK hgb 6;have GN:=hidK (put7N (v0:=.string n.n) (v1:=.string n.z) (v2:=.int .i64 n.c) (v3:=.int .i64 n.s) (v4:=.int .i64 n.u) (v5:=.bool n.d) (v6:=.slice na nl nc) hgb);have BN:=hidK (set_below7 (v0:=.string n.n) (v1:=.string n.z) (v2:=.int .i64 n.c) (v3:=.int .i64 n.s) (v4:=.int .i64 n.u) (v5:=.bool n.d) (v6:=.slice na nl nc) hbW hW);clear hgb hW;intro K hK;rw [if_pos (by rfl)];simp only [putsAll,List.foldr,Act.put,List.setIfInBounds_toArray,List.set_cons_zero,List.set_cons_succ,h5,h14];simp only [List.getLast];go_simp;refine hK _ _ ?_;refine hK0 _ _ ?_;clear hK hK0 K K0;generalize (((((((wz.setCell ⟨g5,0,none⟩ (.string n.n)).setCell ⟨g5,1,none⟩ (.string n.z)).setCell ⟨g5,2,none⟩ (.int .i64 n.c)).setCell ⟨g5,3,none⟩ (.int .i64 n.s)).setCell ⟨g5,4,none⟩ (.int .i64 n.u)).setCell ⟨g5,5,none⟩ (.bool n.d)).setCell ⟨g5,6,none⟩ (.slice na nl nc)) = Y at GN BN ⊢;clear r0 f0 r1 f1 r2 f2 r3 f3 r4 f4 r5 f5 r6 f6;have KV:=upK GK BN.out;have PVv:=upK GP BN.out;have BV:=hidK (BW.out.trans (BN.out.mono BW.out.size));clear GK GP BW BN hbW;have pp : Y.cell? ⟨w.heap.size + 1,3,none⟩ = some (.slice pa pl pc):=cellK PVv.out 3;go_wp2;clear pp;go_loopw [6] (fun i wr => ∃ k : Nat,k ≤ pl ∧ i = .int .i64 k ∧ Hid (∀ (j : Nat) t,j < k → p.zs[j]? = some t → ∃ v,IsBd c t v ∧ InL n.zs v.n) ∧ Hid (Below Y.heap.size Y wr)) (fun i _ => pl - (intOf i).toNat);case atStart => exact ⟨0,by omega,rfl,fun _ _ h => absurd h qqd1,Below.refl _ _⟩
 case round =>
  obtain ⟨k,hk,rfl,HQ,HBY⟩:=hrel;have HB:=hidK (BV.out.trans (HBY.out.mono BV.out.size));have Bk:=upK KV HBY.out;have Bp:=upK PVv HBY.out;have Bn:=upK GN HBY.out;have pp : wr.cell? ⟨w.heap.size + 1,3,none⟩ = some (.slice pa pl pc):=cellK Bp.out 3;by_cases hlt : k < pl
  ·obtain ⟨b,o,t,rfl,hb,hxt,hc,hsz⟩:=(HP.out.below HB.out).at hlt;have HXt:=hidK hxt;clear hxt hsz;obtain ⟨v,hbd⟩:=HBD.out k t HXt.out;obtain ⟨j3,hj3⟩:=hbd.at;have hl3' : j3 < l3:=by have h1:=(List.getElem?_eq_some_iff.1 hj3).1;omega
   obtain ⟨b3,o3,v',rfl,hb3,hv',hat⟩:=vd_at HR.out.v hl3';rw [hj3] at hv';obtain rfl:=Option.some.inj hv';obtain ⟨xa,xl,xc,hvr,z0,z2,z3,z5,d0,d1,d2,d3,d4,d5,d6,d7⟩:=vd_cells hat;have HJ:=hidK hj3;have HDb:=hidK hbd;have hbv : b3 < wr.heap.size:=Nat.lt_of_lt_of_le hb3 HB.out.size;have v0:=(cell_below HB.out hb3).trans d0;clear hv' hat hvr z0 z2 z3 z5 d0 d1 d2 d3 d4 d5 d6 d7 hj3 hbd hb3;by_cases hin : InL n.zs v.n
   ·have HIn:=hidK hin;clear hin;have Gk:=Bk;have Gp:=Bp;have Gn:=Bn;have HW:=HB;obtain ⟨k0,k1,k2,k3,k4,k5⟩:=sl6 Gk;obtain ⟨p3,n6,tw,vw,hne0,HC0⟩:=qqb32;have HC1:=hidK (fun q : Wd wr => (shas_any na nl nc n.zs v.n q.w (HTn.out.below (HW.out.trans (q.b.mono HW.out.size)))).mono (fun _ _ h => BoolB.yes h HIn.out));go_wp2_with fail;refine wp_region_wide qqd2 qqd2 ?_;repeat (go_big_quiet_step (first | (go_at_call 120;exact Calls.wide (HC0.out _)) | (go_at_call 124;exact Calls.wide (HC1.out _)) | fail))
    refine wpQuiet_nil ?_;rintro _ ⟨q2,rfl⟩;have HB1:=upB HW q2.b;have Ck:=upK Gk q2.b;have Cp:=upK Gp q2.b;have Cn:=upK Gn q2.b;clear hne0 HW HB HC0 HC1 k0 k1 k2 k3 k4 k5 p3 n6 tw vw Gk Gp Gn Bk Bp Bn pp hb hc hbv v0;have HB:=HB1;clear HB1;have Bk:=Ck;clear Ck;have Bp:=Cp;clear Cp;have Bn:=Cn;clear Cn;go_wp2_with fail;refine ⟨⟨k + 1,by omega,by go_num,fun j s hj hs => ?_,HBY.out.trans (q2.b.mono HBY.out.size)⟩,by simp [intOf];omega⟩;by_cases e : j = k
    ·subst e;rw [HXt.out] at hs;obtain rfl:=Option.some.inj hs;exact ⟨v,HDb.out,HIn.out⟩
    ·exact HQ.out j s qqd1 hs
   ·have HIn:=hidK hin;clear hin;have Gk:=Bk;have Gp:=Bp;have Gn:=Bn;have HW:=HB;obtain ⟨k0,k1,k2,k3,k4,k5⟩:=sl6 Gk;obtain ⟨p3,n6,tw,vw,hne0,HC0⟩:=qqb32;have HC1:=hidK (fun q : Wd wr => (shas_any na nl nc n.zs v.n q.w (HTn.out.below (HW.out.trans (q.b.mono HW.out.size)))).mono (fun _ _ h => BoolB.no h HIn.out));go_wp2_with fail;refine wp_region_wide qqd2 qqd2 ?_;repeat (go_big_quiet_step (first | (go_at_call 120;exact Calls.wide (HC0.out _)) | (go_at_call 124;exact Calls.wide (HC1.out _)) | fail))
    refine wpQuiet_nil ?_;rintro _ ⟨q2,rfl⟩;have HB1:=upB HW q2.b;have Ck:=upK Gk q2.b;have Cp:=upK Gp q2.b;have Cn:=upK Gn q2.b;clear hne0 HW HB HC0 HC1 k0 k1 k2 k3 k4 k5 p3 n6 tw vw Gk Gp Gn Bk Bp Bn pp hb hc hbv v0;have HB:=HB1;clear HB1;have Bk:=Ck;clear Ck;have Bp:=Cp;clear Cp;have Bn:=Cn;clear Cn;go_wp2;go_ret;refine BoolB.f (fun h => ?_) HB.out;obtain ⟨v2,e1,e2⟩:=h k t HXt.out;obtain rfl:=IsBd.inj HX.out HV.out HDb.out e1;exact HIn.out e2
  ·exact qqa95

theorem smounted_any (d : Ad) (c : Cl) (w : World) (hr : ClRow w d c.raw) (hn : RisBy Nd.n c.ns) (hx : RisBy Xd.n c.xs) (hv : RisBy Vd.n c.vs) (hne : ∀ (j : Nat) v,c.vs[j]? = some v → ¬ v.n = ⟨#[]⟩) (hrun : ∀ (j : Nat) p,c.ps[j]? = some p → p.p = 2 → (∃ (i : Nat) (n : Nd),c.ns[i]? = some n ∧ n.n = p.d) ∧ ∀ (j : Nat) t,p.zs[j]? = some t → ∃ v,IsBd c t v) :
  Calls Tryz.prog 95 #[.agg #[.slice d.a1 d.l1 d.c1,.slice d.a2 d.l2 d.c2,.slice d.a3 d.l3 d.c3,.slice d.a4 d.l4 d.c4,.slice d.a5 d.l5 d.c5,.int .i64 c.now]] w (BoolB (MountedI c) w):=by
 obtain ⟨a1,l1,y1,a2,l2,y2,a3,l3,y3,a4,l4,y4,a5,l5,y5⟩:=d;dsimp only;obtain ⟨HR,hl1,hm1,hl2,hm2,hl3,hm3,hl4,hm4,hl5,hm5⟩:=qqb1;clear hr;have HNR:=hidK hn;obtain ⟨HX,HV,HNE⟩:=qqb78;have HRun:=hidK hrun;clear hn hx hv hne hrun;go_enter Tryz.func95,Tryz.ntmps95;go_wp2;go_loopw [3] (fun i wr => ∃ k : Nat,k ≤ l1 ∧ i = .int .i64 k ∧ Hid (∀ (j : Nat) z,j < k → c.ns[j]? = some z → MntI c z) ∧ Hid (Below w.heap.size w wr) ∧ Hid (wr.heap[w.heap.size]? = some (.cells #[.slice a1 l1 y1,.slice a2 l2 y2,.slice a3 l3 y3,.slice a4 l4 y4,.slice a5 l5 y5,.int .i64 c.now] 36 (0,0)))) (fun i _ => l1 - (intOf i).toNat);case atStart => exact ⟨0,by omega,rfl,fun _ _ h => absurd h qqd1,below1 _ _,Array.getElem?_push_size⟩
 case round =>
  obtain ⟨k,hk,rfl,HQ,HB,Bk⟩:=hrel;have pk : wr.cell? ⟨w.heap.size,0,none⟩ = some (.slice a1 l1 y1):=cellK Bk.out 0;have pkl : w.heap.size < wr.heap.size:=lt_of_some Bk.out;by_cases hlt : k < l1
  ·obtain ⟨b,o,n,rfl,hb,hx,hat⟩:=nd_at (HR.out.n.below HB.out) hlt;obtain ⟨va,vl,vc,hvr,z0,z1,c0,c1,c2,c3,c4,c5,c6⟩:=nd_cells hat;obtain ⟨HXn,HTn,HZn0,HZn1⟩:=qqb79;clear hat hx z0 z1 hvr;have hvl : n.zs.length = vl:=HTn.out.1;have hvc : vl ≤ 9223372036854775807:=Nat.le_trans HTn.out.2.1 HTn.out.2.2.1;have HVL:=hidK hvl;clear hvl;have KV : Hid ((wr.alloc (.cells #[.string n.n,.string n.z,.int .i64 n.c,.int .i64 n.s,.int .i64 n.u,.bool n.d,.slice va vl vc] 82)).heap[w.heap.size]? = some (.cells #[.slice (some ⟨b,o,none⟩) l1 y1,.slice a2 l2 y2,.slice a3 l3 y3,.slice a4 l4 y4,.slice a5 l5 y5,.int .i64 c.now] 36 (0,0))):=(Below.heap_alloc wr (.cells #[.string n.n,.string n.z,.int .i64 n.c,.int .i64 n.s,.int .i64 n.u,.bool n.d,.slice va vl vc] 82) _ (lt_of_some Bk.out)).trans Bk.out;have GV : Hid ((wr.alloc (.cells #[.string n.n,.string n.z,.int .i64 n.c,.int .i64 n.s,.int .i64 n.u,.bool n.d,.slice va vl vc] 82)).heap[wr.heap.size]? = some (.cells #[.string n.n,.string n.z,.int .i64 n.c,.int .i64 n.s,.int .i64 n.u,.bool n.d,.slice va vl vc] 82 (0,0))):=Array.getElem?_push_size;have BV:=hidK (HB.out.trans ((below1 wr (.cells #[.string n.n,.string n.z,.int .i64 n.c,.int .i64 n.s,.int .i64 n.u,.bool n.d,.slice va vl vc] 82)).mono HB.out.size));have TT:=hidK (HTn.out.below (below1 wr (.cells #[.string n.n,.string n.z,.int .i64 n.c,.int .i64 n.s,.int .i64 n.u,.bool n.d,.slice va vl vc] 82)));obtain ⟨W,hW⟩ : ∃ W,W = wr.alloc (.cells #[.string n.n,.string n.z,.int .i64 n.c,.int .i64 n.s,.int .i64 n.u,.bool n.d,.slice va vl vc] 82):=⟨_,rfl⟩;obtain ⟨gb,hgb⟩ : ∃ gb,gb = wr.heap.size:=⟨_,rfl⟩;rw [← hW] at KV GV BV TT;rw [← hgb] at GV;go_wp2;rw [← hW,← hgb];clear hW hgb HB Bk HTn c0 c1 c2 c3 c4 c5 c6 hb pk pkl;go_loopw [5] (fun i wr => ∃ kq : Nat,kq ≤ vl ∧ i = .int .i64 kq ∧ Hid (∀ (j : Nat) t,j < kq → n.zs[j]? = some t → ∃ (i : Nat) (v : Vd),c.vs[i]? = some v ∧ v.n = t ∧ (n.d = true ∨ InL v.zs n.n)) ∧ Hid (Below W.heap.size W wr)) (fun i _ => vl - (intOf i).toNat);case atStart => exact ⟨0,by omega,rfl,fun _ _ h => absurd h qqd1,Below.refl _ _⟩
   case round =>
    obtain ⟨kq,hkq,rfl,HQ2,HBW⟩:=hrel;obtain ⟨HB,Bk⟩:=qqb60;have Bv:=upK GV HBW.out;have pv : wr.cell? ⟨gb,6,none⟩ = some (.slice va vl vc):=cellK Bv.out 6;by_cases hlt2 : kq < vl
    ·obtain ⟨b2,o2,t,rfl,hb,hx,hc,hsz⟩:=(TT.out.below HBW.out).at hlt2;have HXt:=hidK hx;clear hx hsz;by_cases hnn : ∃ (i : Nat) (v : Vd),c.vs[i]? = some v ∧ v.n = t;rotate_left
     ·have HH:=hidK hnn;clear hnn;have Gk:=Bk;have Gv:=Bv;have HW:=HB;obtain ⟨k0,k1,k2,k3,k4,k5⟩:=sl6 Gk;have v6:=fun q : Wd wr => q.slot (o:=6) Gv.out rfl;obtain ⟨tw,hne0⟩:=qqb44;have HC0:=hidK (fun q : Wd wr => sxvd_miss ⟨(some ⟨b,o,none⟩),l1,y1,a2,l2,y2,a3,l3,y3,a4,l4,y4,a5,l5,y5⟩ c.now c.vs t q.w (HR.out.v.below (HW.out.trans (q.b.mono HW.out.size))) (fun i v h1 h2 => HH.out ⟨i,v,h1,h2⟩));go_wp2_with fail;refine wp_region_wide qqd2 qqd2 ?_;repeat (go_big_quiet_step (first | (go_at_call 119;exact Calls.wide (HC0.out _)) | fail))
      refine wpQuiet_nil ?_;rintro _ ⟨q1,rfl⟩;have HB1:=upB HW q1.b;have Ck:=upK Gk q1.b;have Cv:=upK Gv q1.b;clear hne0 HW HB HC0 k0 k1 k2 k3 k4 k5 v6 tw Gk Gv Bk Bv pv;have HB:=HB1;clear HB1;have Bk:=Ck;clear Ck;have Bv:=Cv;clear Cv;have Gk:=Bk;have Gv:=Bv;obtain ⟨HW,k2⟩:=qqb82;obtain ⟨v0,v1,v2,v3,v4,v5,v6⟩:=sl7 Gv;have hne0:=Wd.ne q1.w;go_wp2_with fail;refine wp_region_wide qqd2 qqd2 ?_;repeat (go_big_quiet_step (first | fail))
      refine wpQuiet_nil ?_;rintro _ ⟨q2,rfl⟩;obtain ⟨HB2,Ck⟩:=qqb42;have Cv:=upK Gv q2.b;clear hne0 HW HB k2 v0 v1 v2 v3 v4 v5 v6 Gk Gv Bk Bv;have HB:=HB2;clear HB2;have Bk:=Ck;clear Ck;have Bv:=Cv;clear Cv;go_wp2;go_ret;refine BoolB.f (fun h => ?_) HB.out;obtain ⟨i,v,h2,h3,_⟩:=(h.1 k n HXn.out) kq t HXt.out;exact HH.out ⟨i,v,h2,h3⟩
     obtain ⟨j3,v,h1,h2⟩:=hnn;have hl3' : j3 < l3:=by have h3:=(List.getElem?_eq_some_iff.1 h1).1;omega
     obtain ⟨b3,o3,v',rfl,hb3,hv',hat⟩:=vd_at HR.out.v hl3';rw [h1] at hv';obtain rfl:=Option.some.inj hv';obtain ⟨xa,xl,xc,hvr,z0,z2,z3,z5,d0,d1,d2,d3,d4,d5,d6,d7⟩:=vd_cells hat;have HJ:=hidK h1;have HNv:=hidK h2;have HTx:=hidK hvr;have HC7:=hidK d7;have HB3:=hidK hb3;have hj31 : decide ((j3 : Int) < 0) = false:=qqd6
     clear hv' hat hvr z0 z2 z3 z5 d0 d1 d2 d3 d4 d5 d6 d7 h1 h2 hb3;have Gk:=Bk;have Gv:=Bv;have HW:=HB;obtain ⟨k0,k1,k2,k3,k4,k5⟩:=sl6 Gk;have v6:=fun q : Wd wr => q.slot (o:=6) Gv.out rfl;obtain ⟨tw,hne0⟩:=qqb44;have HC0:=hidK (fun q : Wd wr => sxvd_hit ⟨(some ⟨b,o,none⟩),l1,y1,a2,l2,y2,(some ⟨b3,o3,none⟩),l3,y3,a4,l4,y4,a5,l5,y5⟩ c.now c.vs t q.w (HR.out.v.below (HW.out.trans (q.b.mono HW.out.size))) HV.out HJ.out HNv.out);go_wp2_with fail;refine wp_region_wide qqd2 qqd2 ?_;repeat (go_big_quiet_step (first | (go_at_call 119;exact Calls.wide (HC0.out _)) | fail))
     refine wpQuiet_nil ?_;rintro _ ⟨q1,rfl⟩;have HB1:=upB HW q1.b;have Ck:=upK Gk q1.b;have Cv:=upK Gv q1.b;clear hne0 HW HB HC0 k0 k1 k2 k3 k4 k5 v6 tw Gk Gv Bk Bv pv hb hc;have HB:=HB1;clear HB1;have Bk:=Ck;clear Ck;have Bv:=Cv;clear Cv;have HBW1:=upB HBW q1.b;have hbv : b3 < q1.w.heap.size:=Nat.lt_of_lt_of_le HB3.out HB.out.size;have v7:=(cell_below HB.out HB3.out).trans HC7.out;clear HBW;rcases Bool.eq_false_or_eq_true n.d with hd | hd
     ·have HDd:=hidK hd;clear hd;have Bv2 : Hid (q1.w.heap[gb]? = some (.cells #[.string n.n,.string n.z,.int .i64 n.c,.int .i64 n.s,.int .i64 n.u,.bool true,.slice (some ⟨b2,o2,none⟩) vl vc] 82 (0,0))):=by have:=Bv.out;rw [HDd.out] at this;exact this
      clear Bv;have Bv:=Bv2;clear Bv2;have Gk:=Bk;have Gv:=Bv;obtain ⟨HW,k2⟩:=qqb82;obtain ⟨v0,v1,v2,v3,v4,v5,v6⟩:=sl7 Gv;have vw:=fun q : Wd q1.w => (q.cell hbv).trans v7;have hne0:=Wd.ne q1.w;go_wp2_with fail;refine wp_region_wide qqd2 qqd2 ?_;repeat (go_big_quiet_step (first | fail))
      refine wpQuiet_nil ?_;rintro _ ⟨q2,rfl⟩;obtain ⟨HB2,Ck⟩:=qqb42;have Cv:=upK Gv q2.b;clear hne0 HW HB k2 v0 v1 v2 v3 v4 v5 v6 vw Gk Gv Bk Bv hbv v7;have HB:=HB2;clear HB2;have Bk:=Ck;clear Ck;have Bv:=Cv;clear Cv;go_wp2_with fail;refine ⟨⟨kq + 1,by omega,by go_num,fun j s hj hs => ?_,HBW1.out.trans (q2.b.mono HBW1.out.size)⟩,by simp [intOf];omega⟩;by_cases e : j = kq
      ·subst e;rw [HXt.out] at hs;obtain rfl:=Option.some.inj hs;exact ⟨j3,v,HJ.out,HNv.out,.inl HDd.out⟩
      ·exact HQ2.out j s qqd1 hs
     ·have HDd:=hidK hd;clear hd;have Bv2 : Hid (q1.w.heap[gb]? = some (.cells #[.string n.n,.string n.z,.int .i64 n.c,.int .i64 n.s,.int .i64 n.u,.bool false,.slice (some ⟨b2,o2,none⟩) vl vc] 82 (0,0))):=by have:=Bv.out;rw [HDd.out] at this;exact this
      clear Bv;have Bv:=Bv2;clear Bv2;by_cases hin : InL v.zs n.n
      ·have HIn:=hidK hin;clear hin;have Gk:=Bk;have Gv:=Bv;obtain ⟨HW,k2⟩:=qqb82;obtain ⟨v0,v1,v2,v3,v4,v5,v6⟩:=sl7 Gv;have vw:=fun q : Wd q1.w => (q.cell hbv).trans v7;have hne0:=Wd.ne q1.w;have HC0:=hidK (fun q : Wd q1.w => (shas_any xa xl xc v.zs n.n q.w (HTx.out.below (HW.out.trans (q.b.mono HW.out.size)))).mono (fun _ _ h => BoolB.yes h HIn.out));go_wp2_with fail;refine wp_region_wide qqd2 qqd2 ?_;repeat (go_big_quiet_step (first | (go_at_call 124;exact Calls.wide (HC0.out _)) | fail))
       refine wpQuiet_nil ?_;rintro _ ⟨q2,rfl⟩;obtain ⟨HB2,Ck⟩:=qqb42;have Cv:=upK Gv q2.b;clear hne0 HW HB HC0 k2 v0 v1 v2 v3 v4 v5 v6 vw Gk Gv Bk Bv hbv v7;have HB:=HB2;clear HB2;have Bk:=Ck;clear Ck;have Bv:=Cv;clear Cv;go_wp2_with fail;refine ⟨⟨kq + 1,by omega,by go_num,fun j s hj hs => ?_,HBW1.out.trans (q2.b.mono HBW1.out.size)⟩,by simp [intOf];omega⟩;by_cases e : j = kq
       ·subst e;rw [HXt.out] at hs;obtain rfl:=Option.some.inj hs;exact ⟨j3,v,HJ.out,HNv.out,.inr HIn.out⟩
       ·exact HQ2.out j s qqd1 hs
      ·have HIn:=hidK hin;clear hin;have Gk:=Bk;have Gv:=Bv;obtain ⟨HW,k2⟩:=qqb82;obtain ⟨v0,v1,v2,v3,v4,v5,v6⟩:=sl7 Gv;have vw:=fun q : Wd q1.w => (q.cell hbv).trans v7;have hne0:=Wd.ne q1.w;have HC0:=hidK (fun q : Wd q1.w => (shas_any xa xl xc v.zs n.n q.w (HTx.out.below (HW.out.trans (q.b.mono HW.out.size)))).mono (fun _ _ h => BoolB.no h HIn.out));go_wp2_with fail;refine wp_region_wide qqd2 qqd2 ?_;repeat (go_big_quiet_step (first | (go_at_call 124;exact Calls.wide (HC0.out _)) | fail))
       refine wpQuiet_nil ?_;rintro _ ⟨q2,rfl⟩;obtain ⟨HB2,Ck⟩:=qqb42;have Cv:=upK Gv q2.b;clear hne0 HW HB HC0 k2 v0 v1 v2 v3 v4 v5 v6 vw Gk Gv Bk Bv hbv v7;have HB:=HB2;clear HB2;have Bk:=Ck;clear Ck;have Bv:=Cv;clear Cv;go_wp2;go_ret;refine BoolB.f (fun h => ?_) HB.out;obtain ⟨i,v2,e1,e2,e3⟩:=(h.1 k n HXn.out) kq t HXt.out;obtain ⟨_,rfl⟩:=HV.out.inj e1 HJ.out (e2.trans HNv.out.symm);rcases e3 with e3 | e3
       ·rw [HDd.out] at e3;cases e3
       ·exact HIn.out e3
    ·obtain rfl : vl = kq:=qqd1
     go_wp2_with fail;refine ⟨⟨k + 1,by omega,by go_num,fun j z hj hz => ?_,HB.out,Bk.out⟩,by simp [intOf];omega⟩;by_cases e : j = k
     ·subst e;rw [HXn.out] at hz;exact qqa137
     ·exact HQ.out j z qqd1 hz
  ·obtain rfl : l1 = k:=qqd1
   have HQ1 : Hid (∀ (j : Nat) z,c.ns[j]? = some z → MntI c z):=fun j z hz => HQ.out j z qqd4 hz;clear HQ;have kc : wr.cell? ⟨w.heap.size,4,none⟩ = some (.slice a5 l5 y5):=cellK Bk.out 4;go_wp2;clear pk pkl kc;go_loopw [7] (fun i wr => ∃ k : Nat,k ≤ l5 ∧ i = .int .i64 k ∧ Hid (∀ (j : Nat) z,j < k → c.ps[j]? = some z → MQ2 c z) ∧ Hid (Below w.heap.size w wr) ∧ Hid (wr.heap[w.heap.size]? = some (.cells #[.slice a1 l1 y1,.slice a2 l2 y2,.slice a3 l3 y3,.slice a4 l4 y4,.slice a5 l5 y5,.int .i64 c.now] 36 (0,0)))) (fun i _ => l5 - (intOf i).toNat);case atStart => exact ⟨0,by omega,rfl,fun _ _ h => absurd h qqd1,HB.out,Bk.out⟩
   case round =>
    obtain ⟨k,hk,rfl,HQ,HB,Bk⟩:=hrel;have pk : wr.cell? ⟨w.heap.size,4,none⟩ = some (.slice a5 l5 y5):=cellK Bk.out 4;have pkl : w.heap.size < wr.heap.size:=lt_of_some Bk.out;by_cases hlt : k < l5
    ·obtain ⟨b,o,p,rfl,hb,hx,hat⟩:=pd_at (HR.out.p.below HB.out) hlt;obtain ⟨va,vl,vc,hvr,z0,z2,z4,c0,c1,c2,c3,c4,c5⟩:=pd_cells hat;have HXp:=hidK hx;have HTp:=hidK hvr;have HZp0:=hidK z0;have HZp2:=hidK z2;have HZp4:=hidK z4;clear hat hx z0 z2 z4 hvr;by_cases hp2 : p.p = 2;rotate_left
     ·have HP2:=hidK hp2;have hp3 : (p.p == 2) = false:=by simpa using hp2
      have hszv1 : (wr.alloc (.cells #[.string p.n,.int .i64 p.c,.string p.z,.slice va vl vc,.string p.d,.int .i64 p.p] 69)).heap.size = wr.heap.size + 1:=qqd6
      have Gk : Hid ((wr.alloc (.cells #[.string p.n,.int .i64 p.c,.string p.z,.slice va vl vc,.string p.d,.int .i64 p.p] 69)).heap[w.heap.size]? = some (.cells #[.slice a1 l1 y1,.slice a2 l2 y2,.slice a3 l3 y3,.slice a4 l4 y4,.slice (some ⟨b,o,none⟩) l5 y5,.int .i64 c.now] 36 (0,0))):=(Below.heap_alloc _ _ _ (lt_of_some Bk.out)).trans (Bk.out);have Gr : Hid ((wr.alloc (.cells #[.string p.n,.int .i64 p.c,.string p.z,.slice va vl vc,.string p.d,.int .i64 p.p] 69)).heap[wr.heap.size]? = some (.cells #[.string p.n,.int .i64 p.c,.string p.z,.slice va vl vc,.string p.d,.int .i64 p.p] 69 (0,0))):=Array.getElem?_push_size;have HW : Hid (Below w.heap.size w (wr.alloc (.cells #[.string p.n,.int .i64 p.c,.string p.z,.slice va vl vc,.string p.d,.int .i64 p.p] 69))):=(HB.out.trans ((below1 _ _).mono HB.out.size));obtain ⟨k0,k1,k2,k3,k4,k5⟩:=sl6 Gk;obtain ⟨r0,r1,r2,r3,r4,r5⟩:=sl6 Gr;have hne0:=Wd.ne (wr.alloc (.cells #[.string p.n,.int .i64 p.c,.string p.z,.slice va vl vc,.string p.d,.int .i64 p.p] 69));go_wp2_with fail;refine wp_region_wide qqd2 qqd2 ?_;repeat (go_big_quiet_step (first | fail))
      refine wpQuiet_nil ?_;rintro _ ⟨q1,rfl⟩;have HB1:=upB HW q1.b;obtain ⟨Ck,Cr⟩:=qqb34;clear hne0 HW HB k0 k1 k2 k3 k4 k5 r0 r1 r2 r3 r4 r5 Gk Gr Bk hszv1 pk pkl hb c0 c1 c2 c3 c4 c5;have HB:=HB1;clear HB1;have Bk:=Ck;clear Ck;have Br:=Cr;clear Cr;clear hp2 hp3;go_wp2_with fail;refine ⟨⟨k + 1,by omega,by go_num,fun j z hj hz => ?_,HB.out,Bk.out⟩,by simp [intOf];omega⟩;exact qqa96
     have HP2:=hidK hp2;obtain ⟨⟨j1,n,h1,h2⟩,hbd⟩:=HRun.out k p HXp.out hp2;rw [hp2] at c5;clear hp2;have HBD:=hidK hbd;have hl1' : j1 < l1:=by have h3:=(List.getElem?_eq_some_iff.1 h1).1;omega
     obtain ⟨b1,o1,n',rfl,hb1n,hn',hat⟩:=nd_at HR.out.n hl1';rw [h1] at hn';obtain rfl:=Option.some.inj hn';obtain ⟨na,nl,nc,hnr,z0,z1,d0,d1,d2,d3,d4,d5,d6⟩:=nd_cells hat;have HJn:=hidK h1;have HNn:=hidK h2;have e5:=(cell_below HB.out hb1n).trans d5;have hbn : b1 < wr.heap.size:=Nat.lt_of_lt_of_le hb1n HB.out.size;clear hn' hat hnr z0 z1 d0 d1 d2 d3 d4 d5 d6 h1 h2 hb1n hbd;rcases Bool.eq_false_or_eq_true n.d with hd | hd
     ·have HDd:=hidK hd;rw [hd] at e5;clear hd;obtain ⟨hbnv,e5v⟩:=qqb20;obtain ⟨hszv1,Gk,Gr,HW⟩:=qqb4;obtain ⟨k0,k1,k2,k3,k4,k5⟩:=sl6 Gk;obtain ⟨r0,r1,r2,r3,r4,r5⟩:=sl6 Gr;obtain ⟨nw,hne0,HC0⟩:=qqb7;go_wp2_with fail;refine wp_region_wide qqd2 qqd2 ?_;repeat (go_big_quiet_step (first | (go_at_call 47;exact Calls.wide (HC0.out _)) | fail))
      refine wpQuiet_nil ?_;rintro _ ⟨q1,rfl⟩;have HB1:=upB HW q1.b;obtain ⟨Ck,Cr⟩:=qqb34;clear hne0 HW HB HC0 k0 k1 k2 k3 k4 k5 r0 r1 r2 r3 r4 r5 nw Gk Gr Bk hszv1 pk pkl hb hbn e5 hbnv e5v c0 c1 c2 c3 c4 c5;have HB:=HB1;clear HB1;have Bk:=Ck;clear Ck;have Br:=Cr;clear Cr;go_wp2;go_ret;refine BoolB.f (fun h => ?_) HB.out;obtain ⟨i,m,e1,e2,e3,_⟩:=(h.2 k p HXp.out) HP2.out;obtain ⟨_,rfl⟩:=HNR.out.inj e1 HJn.out (e2.trans HNn.out.symm);rw [HDd.out] at e3;cases e3
     ·by_cases hal : AllS c p n
      ·have HAl:=hidK hal;clear hal;have HDd:=hidK hd;rw [hd] at e5;clear hd;obtain ⟨hbnv,e5v⟩:=qqb20;have HCA : Hid (∀ q : Wd (wr.alloc (.cells #[.string p.n,.int .i64 p.c,.string p.z,.slice va vl vc,.string p.d,.int .i64 2] 69)),Calls Tryz.prog 125 #[.agg #[.slice (some ⟨b1,o1,none⟩) l1 y1,.slice a2 l2 y2,.slice a3 l3 y3,.slice a4 l4 y4,.slice (some ⟨b,o,none⟩) l5 y5,.int .i64 c.now],.agg #[.string p.n,.int .i64 p.c,.string p.z,.slice va vl vc,.string p.d,.int .i64 2]] q.w fun e w' => e = .returned (.bool true) ∧ Below q.w.heap.size q.w w'):=by
        intro q;have h0:=(sall_any ⟨(some ⟨b1,o1,none⟩),l1,y1,a2,l2,y2,a3,l3,y3,a4,l4,y4,(some ⟨b,o,none⟩),l5,y5⟩ c p va vl vc j1 n q.w (HR.out.below (HB.out.trans (((below1 wr _).trans (q.b.mono qqd6)).mono HB.out.size))) HNR.out HX.out HV.out HNE.out (HTp.out.below ((below1 wr _).trans (q.b.mono qqd6))) HJn.out HNn.out HBD.out).mono (fun _ _ h => BoolB.yes h HAl.out);rw [HP2.out] at h0;exact h0
       obtain ⟨hszv1,Gk,Gr,HW⟩:=qqb4;obtain ⟨k0,k1,k2,k3,k4,k5⟩:=sl6 Gk;obtain ⟨r0,r1,r2,r3,r4,r5⟩:=sl6 Gr;obtain ⟨nw,hne0,HC0⟩:=qqb7;have HC1:=hidK (fun q : Wd (wr.alloc (.cells #[.string p.n,.int .i64 p.c,.string p.z,.slice va vl vc,.string p.d,.int .i64 2] 69)) => HCA.out q);go_wp2_with fail;refine wp_region_wide qqd2 qqd2 ?_;repeat (go_big_quiet_step (first | (go_at_call 47;exact Calls.wide (HC0.out _)) | (go_at_call 125;exact Calls.wide (HC1.out _)) | fail))
       refine wpQuiet_nil ?_;rintro _ ⟨q1,rfl⟩;have HB1:=upB HW q1.b;obtain ⟨Ck,Cr⟩:=qqb34;clear hne0 HW HB HC0 HC1 k0 k1 k2 k3 k4 k5 r0 r1 r2 r3 r4 r5 nw Gk Gr Bk hszv1 pk pkl hb hbn e5 hbnv e5v c0 c1 c2 c3 c4 c5;have HB:=HB1;clear HB1;have Bk:=Ck;clear Ck;have Br:=Cr;clear Cr;go_wp2_with fail;refine ⟨⟨k + 1,by omega,by go_num,fun j z hj hz => ?_,HB.out,Bk.out⟩,by simp [intOf];omega⟩;by_cases e : j = k
       ·subst e;rw [HXp.out] at hz;obtain rfl:=Option.some.inj hz;exact fun _ => ⟨j1,n,HJn.out,HNn.out,HDd.out,HAl.out⟩
       ·exact HQ.out j z qqd1 hz
      ·have HAl:=hidK hal;clear hal;have HDd:=hidK hd;rw [hd] at e5;clear hd;obtain ⟨hbnv,e5v⟩:=qqb20;have HCA : Hid (∀ q : Wd (wr.alloc (.cells #[.string p.n,.int .i64 p.c,.string p.z,.slice va vl vc,.string p.d,.int .i64 2] 69)),Calls Tryz.prog 125 #[.agg #[.slice (some ⟨b1,o1,none⟩) l1 y1,.slice a2 l2 y2,.slice a3 l3 y3,.slice a4 l4 y4,.slice (some ⟨b,o,none⟩) l5 y5,.int .i64 c.now],.agg #[.string p.n,.int .i64 p.c,.string p.z,.slice va vl vc,.string p.d,.int .i64 2]] q.w fun e w' => e = .returned (.bool false) ∧ Below q.w.heap.size q.w w'):=by
        intro q;have h0:=(sall_any ⟨(some ⟨b1,o1,none⟩),l1,y1,a2,l2,y2,a3,l3,y3,a4,l4,y4,(some ⟨b,o,none⟩),l5,y5⟩ c p va vl vc j1 n q.w (HR.out.below (HB.out.trans (((below1 wr _).trans (q.b.mono qqd6)).mono HB.out.size))) HNR.out HX.out HV.out HNE.out (HTp.out.below ((below1 wr _).trans (q.b.mono qqd6))) HJn.out HNn.out HBD.out).mono (fun _ _ h => BoolB.no h HAl.out);rw [HP2.out] at h0;exact h0
       obtain ⟨hszv1,Gk,Gr,HW⟩:=qqb4;obtain ⟨k0,k1,k2,k3,k4,k5⟩:=sl6 Gk;obtain ⟨r0,r1,r2,r3,r4,r5⟩:=sl6 Gr;obtain ⟨nw,hne0,HC0⟩:=qqb7;have HC1:=hidK (fun q : Wd (wr.alloc (.cells #[.string p.n,.int .i64 p.c,.string p.z,.slice va vl vc,.string p.d,.int .i64 2] 69)) => HCA.out q);go_wp2_with fail;refine wp_region_wide qqd2 qqd2 ?_;repeat (go_big_quiet_step (first | (go_at_call 47;exact Calls.wide (HC0.out _)) | (go_at_call 125;exact Calls.wide (HC1.out _)) | fail))
       refine wpQuiet_nil ?_;rintro _ ⟨q1,rfl⟩;have HB1:=upB HW q1.b;obtain ⟨Ck,Cr⟩:=qqb34;clear hne0 HW HB HC0 HC1 k0 k1 k2 k3 k4 k5 r0 r1 r2 r3 r4 r5 nw Gk Gr Bk hszv1 pk pkl hb hbn e5 hbnv e5v c0 c1 c2 c3 c4 c5;have HB:=HB1;clear HB1;have Bk:=Ck;clear Ck;have Br:=Cr;clear Cr;go_wp2;go_ret;refine BoolB.f (fun h => ?_) HB.out;obtain ⟨i,m,e1,e2,e3,e4⟩:=(h.2 k p HXp.out) HP2.out;obtain ⟨_,rfl⟩:=HNR.out.inj e1 HJn.out (e2.trans HNn.out.symm);exact HAl.out e4
    ·obtain rfl : l5 = k:=qqd1
     go_wp2;go_ret;exact BoolB.t ⟨HQ1.out,fun j z hz => HQ.out j z qqd4 hz⟩ HB.out

theorem hit_iff {α : Type} {nm : α → ByteArray} {xs : List α} {t : ByteArray} (h : RisBy nm xs) : hit nm xs t = true ↔ ∃ (i : Nat) (x : α),xs[i]? = some x ∧ nm x = t:=by
 constructor
 ·intro e;obtain ⟨x,h1,h2⟩:=hit_yes e;exact ⟨_,x,h1,h2⟩
 ·rintro ⟨i,x,h1,h2⟩;exact (hit_at h h1 h2).2
theorem bound_iff {c : Cl} (h : RowsOk c) : BoundI c ↔ BoundS c:=by
 have hk:=h.2.1.2.2;have hv:=h.2.2.1.2.2;have hx:=h.2.2.2.1.2.2;constructor
 ·rintro ⟨h1,h2⟩;refine ⟨fun j v e => ?_,fun j x e => ?_⟩
  ·obtain ⟨a,b⟩:=h1 j v e;refine ⟨(hit_iff hk).1 a,b.imp id ?_⟩;rintro ⟨i,j',x,v',e1,e2,e3,e4,e5,e6,_⟩;exact ⟨i,x,e1,e2,e5⟩
  ·obtain ⟨a,b⟩:=h2 j x e;refine ⟨(hit_iff hk).1 a,b.imp id ?_⟩;rintro ⟨i,j',x',v',e1,e2,e3,e4,e5,e6,e7,e8,e9⟩;obtain ⟨_,rfl⟩:=hx.inj e1 e e2;exact ⟨j',v',e3,e4,e6,e7,e8,e9⟩
 ·rintro ⟨h1,h2⟩;refine ⟨fun j v e => ?_,fun j x e => ?_⟩
  ·obtain ⟨a,b⟩:=h1 j v e;refine ⟨(hit_iff hk).2 a,b.imp id ?_⟩;rintro ⟨i,x,e1,e2,e3⟩;have hne : ¬ x.v = ⟨#[]⟩:=fun q => h.ne j v e (e3.symm.trans q);obtain ⟨_,b2⟩:=h2 i x e1;rcases b2 with b2 | ⟨j',v',f1,f2,f3,f4,f5,f6⟩
   ·exact absurd b2 hne
   obtain ⟨_,rfl⟩:=hv.inj f1 e (f2.trans e3);exact ⟨i,j,x,v',e1,e2,e,rfl,e3,rfl,f4,f5,f6⟩
  ·obtain ⟨a,b⟩:=h2 j x e;refine ⟨(hit_iff hk).2 a,b.imp id ?_⟩;rintro ⟨j',v,e1,e2,e3,e4,e5,e6⟩;exact ⟨j,j',x,v,e,rfl,e1,e2,rfl,e3,e4,e5,e6⟩
theorem placed_iff {c : Cl} (h : RowsOk c) (hb : BoundS c) : PlacedI c ↔ PlacedS c:=by
 have hn:=h.1.2.2;have hv:=h.2.2.1.2.2;have hx:=h.2.2.2.1.2.2;have one : (∀ (j : Nat) z,c.vs[j]? = some z → PQ3 c z) ↔ ∀ (k : Nat) p,c.ps[k]? = some p → PSc c k p:=by
  constructor
  ·intro h3 k p hp j q hj hq;by_cases e1 : q.d = ⟨#[]⟩
   ·exact .inl e1
   by_cases e2 : p.d = ⟨#[]⟩
   ·exact .inr (.inl e2)
   by_cases e3 : q.d = p.d
   ·exact .inr (.inr (.inl e3))
   refine .inr (.inr (.inr fun i t ht v hbd hs hin => e3 ?_));obtain ⟨i1,j1,x,f1,f2,f3,f4⟩:=hbd;have hxv : ¬ x.v = ⟨#[]⟩:=fun z => h.ne j1 v f3 (f4.trans z);have hvm : v.m = t:=by
    rcases (hb.2 i1 x f1).2 with z | ⟨j2,v2,g1,g2,g3,_⟩
    ·exact absurd z hxv
    ·obtain ⟨_,rfl⟩:=hv.inj g1 f3 (g2.trans f4.symm);rw [g3,f2]
   have ht0 : ¬ v.m = ⟨#[]⟩:=fun z => by
    have h1:=(h.2.2.2.1.2.1 i1 x f1).1.1;rw [f2,← hvm,z] at h1;exact absurd h1 qqd3
   have:=h3 j1 v f3 hs ht0;rw [hvm] at this;exact this j k q p hq hp e1 e2 ⟨i,ht⟩ hin
  ·intro h3 j v hj hs hm i1 i2 p q hp hq d1 d2 in1 in2;obtain ⟨i4,x,f1,f2,f3⟩:=(hb.1 j v hj).2.resolve_left hm;have hbd : IsBd c v.m v:=⟨i4,j,x,f1,f2,hj,f3.symm⟩;rcases Nat.lt_trichotomy i1 i2 with k | k | k
   ·obtain ⟨r,hr⟩:=in1;rcases h3 i2 q hq i1 p k hp with z | z | z | z
    ·exact absurd z d1
    ·exact absurd z d2
    ·exact z
    ·exact absurd in2 (z r v.m hr v hbd hs)
   ·subst k;rw [hp] at hq;rw [Option.some.inj hq]
   ·obtain ⟨r,hr⟩:=in2;rcases h3 i1 p hp i2 q k hq with z | z | z | z
    ·exact absurd z d2
    ·exact absurd z d1
    ·exact z.symm
    ·exact absurd in1 (z r v.m hr v hbd hs)
 constructor
 ·rintro ⟨h1,h2,h3⟩;refine ⟨fun k p hp => ⟨?_,?_,one.1 h3 k p hp⟩,h2⟩
  ·rcases (h1 k p hp).2 with z | ⟨i,n,e1,e2,e3,e4⟩
   ·exact .inl z
   ·exact .inr ⟨i,n,e1,e2,e3.imp id Eq.symm⟩
  ·intro j t ht;refine ⟨(hit_iff hx).1 ((h1 k p hp).1 j t ht),?_⟩;rcases (h1 k p hp).2 with z | ⟨i,n,e1,e2,e3,e4⟩
   ·exact .inl z
   ·obtain ⟨v,f1,f2⟩:=e4 j t ht;exact .inr ⟨v,i,n,f1,e1,e2,f2⟩
 ·rintro ⟨h1,h2⟩;refine ⟨fun k p hp => ⟨fun j t ht => (hit_iff hx).2 ((h1 k p hp).2.1 j t ht).1,?_⟩,h2,one.2 (fun k p hp => (h1 k p hp).2.2)⟩;rcases (h1 k p hp).1 with z | ⟨i,n,e1,e2,e3⟩
  ·exact .inl z
  by_cases z : p.d = ⟨#[]⟩
  ·exact .inl z
  refine .inr ⟨i,n,e1,e2,e3.imp id Eq.symm,fun j t ht => ?_⟩;obtain ⟨v,i',n',f1,f2,f3,f4⟩:=((h1 k p hp).2.1 j t ht).2.resolve_left z;obtain ⟨_,rfl⟩:=hn.inj f2 e1 (f3.trans e2.symm);exact ⟨v,f1,f4⟩
theorem running {c : Cl} (h : RowsOk c) (hp : PlacedS c) (j : Nat) (p : Pd) (hj : c.ps[j]? = some p) (h2 : p.p = 2) : (∃ (i : Nat) (n : Nd),c.ns[i]? = some n ∧ n.n = p.d) ∧ ∀ (j : Nat) t,p.zs[j]? = some t → ∃ v,IsBd c t v:=by
 have hd : ¬ p.d = ⟨#[]⟩:=fun e => by
  have h1:=(h.2.2.2.2.2.1 j p hj).2.2.2.2;rcases h1 with ⟨h3,_⟩ | ⟨_,h3⟩
  ·rw [h2] at h3;cases h3
  ·have h4:=h3.1;rw [e] at h4;exact absurd h4 qqd3
 obtain ⟨a,b,_⟩:=hp.1 j p hj;obtain ⟨i,n,e1,e2,_⟩:=a.resolve_left hd;refine ⟨⟨i,n,e1,e2⟩,fun k t ht => ?_⟩;obtain ⟨v,_,_,e3,_⟩:=(b k t ht).2.resolve_left hd;exact ⟨v,e3⟩

theorem sright_any (d : Ad) (c : Cl) (w : World) (hr : ClRow w d c.raw) :
  Calls Tryz.prog 58 #[.agg #[.slice d.a1 d.l1 d.c1,.slice d.a2 d.l2 d.c2,.slice d.a3 d.l3 d.c3,.slice d.a4 d.l4 d.c4,.slice d.a5 d.l5 d.c5,.int .i64 c.now]] w (BoolB (RightI c) w):=by
 obtain ⟨HR,HB⟩:=qqb70;clear hr;go_enter Tryz.func58,Tryz.ntmps58;go_wp2_with fail;refine (ktime_any c.now _).mono ?_;rintro e w1 ⟨r,rfl,hi,hw⟩;have hb : Below (w.alloc (.cells #[.slice d.a1 d.l1 d.c1,.slice d.a2 d.l2 d.c2,.slice d.a3 d.l3 d.c3,.slice d.a4 d.l4 d.c4,.slice d.a5 d.l5 d.c5,.int .i64 c.now] 36)).heap.size (w.alloc (.cells #[.slice d.a1 d.l1 d.c1,.slice d.a2 d.l2 d.c2,.slice d.a3 d.l3 d.c3,.slice d.a4 d.l4 d.c4,.slice d.a5 d.l5 d.c5,.int .i64 c.now] 36)) w1:=by first | (rw [hw];exact Below.refl _ _) | (rw [← hw];exact Below.refl _ _)
 clear hw;obtain ⟨HA0,hbx⟩:=slots1 hb;have Bk:=hidK HA0;replace HB:=upB HB hbx;clear hb hbx HA0;have HI1:=hidK hi;clear hi;cases r
 ·exact qqa59
 obtain ⟨k0,k1,k2,k3,k4,k5⟩:=cs6 Bk.out;have ltk_1:=lt_of_some Bk.out;go_wp2_with fail;refine (seach_any d c _ (HR.out.below HB.out)).mono ?_;rintro e w2 ⟨r,rfl,hi,hb⟩;clear k0 k1 k2 k3 k4 k5 ltk_1;replace Bk:=upK Bk hb;replace HB:=upB HB hb;clear hb;have HI2:=hidK hi;clear hi;cases r
 ·exact qqa58
 have HOK:=hidK (HI2.out.1 qqd5);obtain ⟨k0,k1,k2,k3,k4,k5⟩:=cs6 Bk.out;have ltk_2:=lt_of_some Bk.out;go_wp2_with fail;refine (sbound_any d c _ (HR.out.below HB.out) HOK.out.2.1.2.2 HOK.out.2.2.2.1.2.2 HOK.out.2.2.1.2.2).mono ?_;rintro e w3 ⟨r,rfl,hi,hb⟩;clear k0 k1 k2 k3 k4 k5 ltk_2;replace Bk:=upK Bk hb;replace HB:=upB HB hb;clear hb;have HI3:=hidK hi;clear hi;cases r
 ·obtain ⟨k0,k1,k2,k3,k4,k5⟩:=cs6 Bk.out;have ltk_3:=lt_of_some Bk.out;go_wp2;go_ret;exact BoolB.f (fun h => by have:=HI3.out.2 ((bound_iff HOK.out).1 h.2.2.1);cases this) HB.out
 have HBd:=hidK (HI3.out.1 qqd5);obtain ⟨k0,k1,k2,k3,k4,k5⟩:=cs6 Bk.out;have ltk_3:=lt_of_some Bk.out;go_wp2_with fail;refine (splaced_any d c _ (HR.out.below HB.out) HOK.out.1.2.2 HOK.out.2.2.2.1.2.2 HOK.out.2.2.1.2.2 HOK.out.ne (by have:=HOK.out.2.2.2.2.1;omega) HOK.out.cpu).mono ?_;rintro e w4 ⟨r,rfl,hi,hb⟩;clear k0 k1 k2 k3 k4 k5 ltk_3;replace Bk:=upK Bk hb;replace HB:=upB HB hb;clear hb;have HI4:=hidK hi;clear hi;cases r
 ·obtain ⟨k0,k1,k2,k3,k4,k5⟩:=cs6 Bk.out;have ltk_4:=lt_of_some Bk.out;go_wp2;go_ret;exact BoolB.f (fun h => by have:=HI4.out.2 ((placed_iff HOK.out HBd.out).1 h.2.2.2.1);cases this) HB.out
 have HPl:=hidK (HI4.out.1 qqd5);obtain ⟨k0,k1,k2,k3,k4,k5⟩:=cs6 Bk.out;have ltk_4:=lt_of_some Bk.out;go_wp2_with fail;refine (sattached_any d c _ (HR.out.below HB.out) HOK.out.1.2.2 (by have:=HOK.out.2.2.1.1;omega)).mono ?_;rintro e w5 ⟨r,rfl,hi,hb⟩;clear k0 k1 k2 k3 k4 k5 ltk_4;replace Bk:=upK Bk hb;replace HB:=upB HB hb;clear hb;have HI5:=hidK hi;clear hi;cases r
 ·exact qqa87
 obtain ⟨k0,k1,k2,k3,k4,k5⟩:=cs6 Bk.out;have ltk_5:=lt_of_some Bk.out;go_wp2_with fail;refine (smounted_any d c _ (HR.out.below HB.out) HOK.out.1.2.2 HOK.out.2.2.2.1.2.2 HOK.out.2.2.1.2.2 HOK.out.ne (running HOK.out HPl.out)).mono ?_;rintro e w6 ⟨r,rfl,hi,hb⟩;clear k0 k1 k2 k3 k4 k5 ltk_5;replace Bk:=upK Bk hb;replace HB:=upB HB hb;clear hb;have HI6:=hidK hi;clear hi;cases r
 ·exact qqa88
 go_wp2;go_ret;exact BoolB.t ⟨HI1.out.1 qqd5,HOK.out,(bound_iff HOK.out).2 HBd.out,(placed_iff HOK.out HBd.out).2 HPl.out,HI5.out.1 qqd5,HI6.out.1 qqd5⟩ HB.out

end Rc
end Go.Proofs.YtpibkpofdbjdaaaGreatDoor

namespace Go.Proofs.YtpibkpofdbjdaaaGreatDoor
open Go.RowKit Go.Extern.Stop Go.Stop Go.Extern
namespace Rc

structure Ers (w : World) (E : Nat → Addr) : Prop where
 v0 : w.cell? ⟨2,0,none⟩ = some (.iface 188 (.pointer (some (E 0))))
 v1 : w.cell? ⟨3,0,none⟩ = some (.iface 188 (.pointer (some (E 1))))
 v2 : w.cell? ⟨4,0,none⟩ = some (.iface 188 (.pointer (some (E 2))))
 v3 : w.cell? ⟨6,0,none⟩ = some (.iface 188 (.pointer (some (E 3))))
 v4 : w.cell? ⟨8,0,none⟩ = some (.iface 188 (.pointer (some (E 4))))
 v5 : w.cell? ⟨9,0,none⟩ = some (.iface 188 (.pointer (some (E 5))))
 v6 : w.cell? ⟨7,0,none⟩ = some (.iface 188 (.pointer (some (E 6))))
 v7 : w.cell? ⟨1,0,none⟩ = some (.iface 188 (.pointer (some (E 7))))
 v8 : w.cell? ⟨0,0,none⟩ = some (.iface 188 (.pointer (some (E 8))))
 v9 : w.cell? ⟨5,0,none⟩ = some (.iface 188 (.pointer (some (E 9))))
 blk : ∀ i,i < 10 → ∃ cs T,w.heap[(E i).block]? = some (.cells cs T (0,0))
 inj : ∀ i j,i < 10 → j < 10 → E i = E j → i = j
theorem cell_lt {w : World} {b o : Nat} {v : Value} (h : w.cell? ⟨b,o,none⟩ = some v) : b < w.heap.size:=World.block_lt_of_cell? w _ h
theorem Ers.below {w w' : World} {E : Nat → Addr} (h : Ers w E) (hb : Below w.heap.size w w') : Ers w' E :=
 ⟨(cell_below hb (cell_lt h.v0)).trans h.v0,(cell_below hb (cell_lt h.v1)).trans h.v1,(cell_below hb (cell_lt h.v2)).trans h.v2,(cell_below hb (cell_lt h.v3)).trans h.v3,(cell_below hb (cell_lt h.v4)).trans h.v4,(cell_below hb (cell_lt h.v5)).trans h.v5,(cell_below hb (cell_lt h.v6)).trans h.v6,(cell_below hb (cell_lt h.v7)).trans h.v7,(cell_below hb (cell_lt h.v8)).trans h.v8,(cell_below hb (cell_lt h.v9)).trans h.v9,fun i hi => by
  obtain ⟨cs,T,h1⟩:=h.blk i hi;exact ⟨cs,T,(hb.block _ (lt_of_some h1)).trans h1⟩,h.inj⟩
theorem Ers.ens {w : World} {E : Nat → Addr} (h : Ers w E) : ens w:=⟨_,_,h.v2⟩

theorem isTypeOf (v : Value) (w : World) : (Extern.ReflectliteType.typeOf #[.iface 188 v]).run Tryz.prog w = .ok (.iface 173 (.agg #[.pointer (some ⟨10,188,none⟩)])) w:=by kernel_rfl
def cmpF : Array Value → Sem Value:=Extern.ReflectliteType.method fun t => do Rtype.noPackHeld "Comparable" t;pure (.bool (← typeInfo t).comparable)
theorem isComparable (w : World) : (cmpF #[.agg #[.pointer (some ⟨10,188,none⟩)]]).run Tryz.prog w = .ok (.bool true) w:=by kernel_rfl
theorem isMethodComparable (v : Value) (w : World) : (Go.method 335 173 v "Comparable").run Tryz.prog w = .ok (212,v) w:=by kernel_rfl
theorem isComp : (Tryz.prog.info? 188).map (·.comparable) = some true:=by kernel_rfl
theorem isSize : (Tryz.prog.info? 223).map (·.size) = some 1:=by kernel_rfl
theorem noIsE (v : Value) (xT : TypeId) (w : World) : (Instr.typeAssert (.iface 188 v) xT 175 true).run Tryz.prog w = .ok (.tuple #[.nilIface,.bool false]) w:=run_typeAssert_lacksB Tryz.underlying175 (by kernel_rfl) (by kernel_rfl) v xT w
theorem noUnwrapE (v : Value) (xT : TypeId) (w : World) : (Instr.typeAssert (.iface 188 v) xT 178 true).run Tryz.prog w = .ok (.tuple #[.nilIface,.bool false]) w:=run_typeAssert_lacksB Tryz.underlying178 (by kernel_rfl) (by kernel_rfl) v xT w
theorem noUnwrapsE (v : Value) (xT : TypeId) (w : World) : (Instr.typeAssert (.iface 188 v) xT 180 true).run Tryz.prog w = .ok (.tuple #[.nilIface,.bool false]) w:=run_typeAssert_lacksB Tryz.underlying180 (by kernel_rfl) (by kernel_rfl) v xT w

theorem is_same (a : Addr) (w : World)  :
  Calls Tryz.prog 104 #[.iface 188 (.pointer (some (a))),.iface 188 (.pointer (some (a)))] w fun e w' => e = .returned (.bool true) ∧ w' = w:=by
 obtain ⟨i,hi,hcmp⟩:=Option.map_eq_some_iff.1 isComp;obtain ⟨j,hj,hjs⟩:=Option.map_eq_some_iff.1 isSize;obtain ⟨h8,h32,tT,cT,mR⟩:=qqb43;have heq:=run_eql_iface_ptr_same (P:=Tryz.prog) w a Tryz.underlying61 Tryz.underlying188 hi hcmp hj;exact qqa100

theorem is_other (a b : Addr) (ca cb : Array Value) (ta tb : TypeId) (w : World) (hne : a ≠ b) (ha : w.heap[a.block]? = some (.cells ca ta (0,0))) (hb : w.heap[b.block]? = some (.cells cb tb (0,0))) :
  Calls Tryz.prog 104 #[.iface 188 (.pointer (some (a))),.iface 188 (.pointer (some (b)))] w fun e w' => e = .returned (.bool false) ∧ w' = w:=by
 obtain ⟨i,hi,hcmp⟩:=Option.map_eq_some_iff.1 isComp;obtain ⟨j,hj,hjs⟩:=Option.map_eq_some_iff.1 isSize;obtain ⟨h8,h32,tT,cT,mR⟩:=qqb43;have nE:=noIsE;have uE:=noUnwrapE;have vE:=noUnwrapsE;have heq:=run_eql_iface_ptr_other (P:=Tryz.prog) w Tryz.underlying61 Tryz.underlying188 hi hcmp hj (by rw [hjs];decide) hne ha hb;exact qqa100

theorem is_words {w : World} {E : Nat → Addr} (h : Ers w E) (i j : Nat) (hi : i < 10) (hj : j < 10) (hne : ¬ i = j) :
  Calls Tryz.prog 104 #[.iface 188 (.pointer (some (E i))),.iface 188 (.pointer (some (E j)))] w fun e w' => e = .returned (.bool false) ∧ w' = w:=by
 obtain ⟨ca,ta,h1⟩:=h.blk i hi;obtain ⟨cb,tb,h2⟩:=h.blk j hj;exact is_other (E i) (E j) ca cb ta tb w (fun e => hne (h.inj i j hi hj e)) h1 h2

def codeOf : Nat → Int
 | 0 => 2
 | 1 => 1
 | 2 => 6
 | 3 => 7
 | 4 => 9
 | 5 => 11
 | 6 => 7
 | 7 => 11
 | 8 => 10
 | 9 => 3
 | _ => 0

theorem why0 (E : Nat → Addr) (w : World) (h : Ers w E) : Calls Tryz.prog 68 #[.iface 188 (.pointer (some (E 0)))] w fun e w' => e = .returned (.int .i64 2) ∧ w' = w:=by
 obtain ⟨HE,v0,v1,v2,v3,v4,v5,v6,v7,v8,v9⟩:=qqb9;clear h;go_enter Tryz.func68,Tryz.ntmps68;go_wp2_with fail;refine (is_same (E 0) _).mono ?_;exact qqa42

theorem why1 (E : Nat → Addr) (w : World) (h : Ers w E) : Calls Tryz.prog 68 #[.iface 188 (.pointer (some (E 1)))] w fun e w' => e = .returned (.int .i64 1) ∧ w' = w:=by
 obtain ⟨HE,v0,v1,v2,v3,v4,v5,v6,v7,v8,v9⟩:=qqb9;clear h;go_enter Tryz.func68,Tryz.ntmps68;go_wp2_with fail;refine (is_words HE.out 1 0 qqd3 qqd3 qqd3).mono ?_;rintro e w' ⟨rfl,rfl⟩;go_wp2_with fail;refine (is_words HE.out 1 9 qqd3 qqd3 qqd3).mono ?_;rintro e w' ⟨rfl,rfl⟩;go_wp2_with fail;refine (is_words HE.out 1 2 qqd3 qqd3 qqd3).mono ?_;rintro e w' ⟨rfl,rfl⟩;go_wp2_with fail;refine (is_words HE.out 1 3 qqd3 qqd3 qqd3).mono ?_;rintro e w' ⟨rfl,rfl⟩;go_wp2_with fail;refine (is_words HE.out 1 6 qqd3 qqd3 qqd3).mono ?_;rintro e w' ⟨rfl,rfl⟩;go_wp2_with fail;refine (is_words HE.out 1 4 qqd3 qqd3 qqd3).mono ?_;rintro e w' ⟨rfl,rfl⟩;go_wp2_with fail;refine (is_words HE.out 1 5 qqd3 qqd3 qqd3).mono ?_;rintro e w' ⟨rfl,rfl⟩;go_wp2_with fail;refine (is_words HE.out 1 7 qqd3 qqd3 qqd3).mono ?_;rintro e w' ⟨rfl,rfl⟩;go_wp2_with fail;refine (is_words HE.out 1 8 qqd3 qqd3 qqd3).mono ?_;exact qqa42

theorem why2 (E : Nat → Addr) (w : World) (h : Ers w E) : Calls Tryz.prog 68 #[.iface 188 (.pointer (some (E 2)))] w fun e w' => e = .returned (.int .i64 6) ∧ w' = w:=by
 obtain ⟨HE,v0,v1,v2,v3,v4,v5,v6,v7,v8,v9⟩:=qqb9;clear h;go_enter Tryz.func68,Tryz.ntmps68;go_wp2_with fail;refine (is_words HE.out 2 0 qqd3 qqd3 qqd3).mono ?_;rintro e w' ⟨rfl,rfl⟩;go_wp2_with fail;refine (is_words HE.out 2 9 qqd3 qqd3 qqd3).mono ?_;rintro e w' ⟨rfl,rfl⟩;go_wp2_with fail;refine (is_same (E 2) _).mono ?_;exact qqa42

theorem why3 (E : Nat → Addr) (w : World) (h : Ers w E) : Calls Tryz.prog 68 #[.iface 188 (.pointer (some (E 3)))] w fun e w' => e = .returned (.int .i64 7) ∧ w' = w:=by
 obtain ⟨HE,v0,v1,v2,v3,v4,v5,v6,v7,v8,v9⟩:=qqb9;clear h;go_enter Tryz.func68,Tryz.ntmps68;go_wp2_with fail;refine (is_words HE.out 3 0 qqd3 qqd3 qqd3).mono ?_;rintro e w' ⟨rfl,rfl⟩;go_wp2_with fail;refine (is_words HE.out 3 9 qqd3 qqd3 qqd3).mono ?_;rintro e w' ⟨rfl,rfl⟩;go_wp2_with fail;refine (is_words HE.out 3 2 qqd3 qqd3 qqd3).mono ?_;rintro e w' ⟨rfl,rfl⟩;go_wp2_with fail;refine (is_same (E 3) _).mono ?_;exact qqa42

theorem why4 (E : Nat → Addr) (w : World) (h : Ers w E) : Calls Tryz.prog 68 #[.iface 188 (.pointer (some (E 4)))] w fun e w' => e = .returned (.int .i64 9) ∧ w' = w:=by
 obtain ⟨HE,v0,v1,v2,v3,v4,v5,v6,v7,v8,v9⟩:=qqb9;clear h;go_enter Tryz.func68,Tryz.ntmps68;go_wp2_with fail;refine (is_words HE.out 4 0 qqd3 qqd3 qqd3).mono ?_;rintro e w' ⟨rfl,rfl⟩;go_wp2_with fail;refine (is_words HE.out 4 9 qqd3 qqd3 qqd3).mono ?_;rintro e w' ⟨rfl,rfl⟩;go_wp2_with fail;refine (is_words HE.out 4 2 qqd3 qqd3 qqd3).mono ?_;rintro e w' ⟨rfl,rfl⟩;go_wp2_with fail;refine (is_words HE.out 4 3 qqd3 qqd3 qqd3).mono ?_;rintro e w' ⟨rfl,rfl⟩;go_wp2_with fail;refine (is_words HE.out 4 6 qqd3 qqd3 qqd3).mono ?_;rintro e w' ⟨rfl,rfl⟩;go_wp2_with fail;refine (is_same (E 4) _).mono ?_;exact qqa42

theorem why5 (E : Nat → Addr) (w : World) (h : Ers w E) : Calls Tryz.prog 68 #[.iface 188 (.pointer (some (E 5)))] w fun e w' => e = .returned (.int .i64 11) ∧ w' = w:=by
 obtain ⟨HE,v0,v1,v2,v3,v4,v5,v6,v7,v8,v9⟩:=qqb9;clear h;go_enter Tryz.func68,Tryz.ntmps68;go_wp2_with fail;refine (is_words HE.out 5 0 qqd3 qqd3 qqd3).mono ?_;rintro e w' ⟨rfl,rfl⟩;go_wp2_with fail;refine (is_words HE.out 5 9 qqd3 qqd3 qqd3).mono ?_;rintro e w' ⟨rfl,rfl⟩;go_wp2_with fail;refine (is_words HE.out 5 2 qqd3 qqd3 qqd3).mono ?_;rintro e w' ⟨rfl,rfl⟩;go_wp2_with fail;refine (is_words HE.out 5 3 qqd3 qqd3 qqd3).mono ?_;rintro e w' ⟨rfl,rfl⟩;go_wp2_with fail;refine (is_words HE.out 5 6 qqd3 qqd3 qqd3).mono ?_;rintro e w' ⟨rfl,rfl⟩;go_wp2_with fail;refine (is_words HE.out 5 4 qqd3 qqd3 qqd3).mono ?_;rintro e w' ⟨rfl,rfl⟩;go_wp2_with fail;refine (is_same (E 5) _).mono ?_;exact qqa42

theorem why6 (E : Nat → Addr) (w : World) (h : Ers w E) : Calls Tryz.prog 68 #[.iface 188 (.pointer (some (E 6)))] w fun e w' => e = .returned (.int .i64 7) ∧ w' = w:=by
 obtain ⟨HE,v0,v1,v2,v3,v4,v5,v6,v7,v8,v9⟩:=qqb9;clear h;go_enter Tryz.func68,Tryz.ntmps68;go_wp2_with fail;refine (is_words HE.out 6 0 qqd3 qqd3 qqd3).mono ?_;rintro e w' ⟨rfl,rfl⟩;go_wp2_with fail;refine (is_words HE.out 6 9 qqd3 qqd3 qqd3).mono ?_;rintro e w' ⟨rfl,rfl⟩;go_wp2_with fail;refine (is_words HE.out 6 2 qqd3 qqd3 qqd3).mono ?_;rintro e w' ⟨rfl,rfl⟩;go_wp2_with fail;refine (is_words HE.out 6 3 qqd3 qqd3 qqd3).mono ?_;rintro e w' ⟨rfl,rfl⟩;go_wp2_with fail;refine (is_same (E 6) _).mono ?_;exact qqa42

theorem why7 (E : Nat → Addr) (w : World) (h : Ers w E) : Calls Tryz.prog 68 #[.iface 188 (.pointer (some (E 7)))] w fun e w' => e = .returned (.int .i64 11) ∧ w' = w:=by
 obtain ⟨HE,v0,v1,v2,v3,v4,v5,v6,v7,v8,v9⟩:=qqb9;clear h;go_enter Tryz.func68,Tryz.ntmps68;go_wp2_with fail;refine (is_words HE.out 7 0 qqd3 qqd3 qqd3).mono ?_;rintro e w' ⟨rfl,rfl⟩;go_wp2_with fail;refine (is_words HE.out 7 9 qqd3 qqd3 qqd3).mono ?_;rintro e w' ⟨rfl,rfl⟩;go_wp2_with fail;refine (is_words HE.out 7 2 qqd3 qqd3 qqd3).mono ?_;rintro e w' ⟨rfl,rfl⟩;go_wp2_with fail;refine (is_words HE.out 7 3 qqd3 qqd3 qqd3).mono ?_;rintro e w' ⟨rfl,rfl⟩;go_wp2_with fail;refine (is_words HE.out 7 6 qqd3 qqd3 qqd3).mono ?_;rintro e w' ⟨rfl,rfl⟩;go_wp2_with fail;refine (is_words HE.out 7 4 qqd3 qqd3 qqd3).mono ?_;rintro e w' ⟨rfl,rfl⟩;go_wp2_with fail;refine (is_words HE.out 7 5 qqd3 qqd3 qqd3).mono ?_;rintro e w' ⟨rfl,rfl⟩;go_wp2_with fail;refine (is_same (E 7) _).mono ?_;exact qqa42

theorem why8 (E : Nat → Addr) (w : World) (h : Ers w E) : Calls Tryz.prog 68 #[.iface 188 (.pointer (some (E 8)))] w fun e w' => e = .returned (.int .i64 10) ∧ w' = w:=by
 obtain ⟨HE,v0,v1,v2,v3,v4,v5,v6,v7,v8,v9⟩:=qqb9;clear h;go_enter Tryz.func68,Tryz.ntmps68;go_wp2_with fail;refine (is_words HE.out 8 0 qqd3 qqd3 qqd3).mono ?_;rintro e w' ⟨rfl,rfl⟩;go_wp2_with fail;refine (is_words HE.out 8 9 qqd3 qqd3 qqd3).mono ?_;rintro e w' ⟨rfl,rfl⟩;go_wp2_with fail;refine (is_words HE.out 8 2 qqd3 qqd3 qqd3).mono ?_;rintro e w' ⟨rfl,rfl⟩;go_wp2_with fail;refine (is_words HE.out 8 3 qqd3 qqd3 qqd3).mono ?_;rintro e w' ⟨rfl,rfl⟩;go_wp2_with fail;refine (is_words HE.out 8 6 qqd3 qqd3 qqd3).mono ?_;rintro e w' ⟨rfl,rfl⟩;go_wp2_with fail;refine (is_words HE.out 8 4 qqd3 qqd3 qqd3).mono ?_;rintro e w' ⟨rfl,rfl⟩;go_wp2_with fail;refine (is_words HE.out 8 5 qqd3 qqd3 qqd3).mono ?_;rintro e w' ⟨rfl,rfl⟩;go_wp2_with fail;refine (is_words HE.out 8 7 qqd3 qqd3 qqd3).mono ?_;rintro e w' ⟨rfl,rfl⟩;go_wp2_with fail;refine (is_same (E 8) _).mono ?_;exact qqa42

theorem whyCode_any (E : Nat → Addr) (i : Nat) (w : World) (h : Ers w E) (hi : i < 9) : Calls Tryz.prog 68 #[.iface 188 (.pointer (some (E i)))] w fun e w' => e = .returned (.int .i64 (codeOf i)) ∧ w' = w:=by
 match i,hi with
 | 0,_ => exact why0 E w h
 | 1,_ => exact why1 E w h
 | 2,_ => exact why2 E w h
 | 3,_ => exact why3 E w h
 | 4,_ => exact why4 E w h
 | 5,_ => exact why5 E w h
 | 6,_ => exact why6 E w h
 | 7,_ => exact why7 E w h
 | 8,_ => exact why8 E w h

theorem refused_any (E : Nat → Addr) (i : Nat) (cc : Int) (hcc : cc = codeOf i) (w : World) (h : Ers w E) (hi : i < 9) : Calls Tryz.prog 32 #[.iface 188 (.pointer (some (E i)))] w fun e w' => e = .returned (.agg #[.slice none 0 0,.slice none 0 0,.slice none 0 0,.slice none 0 0,.slice none 0 0,.int .i64 0,.string ⟨#[]⟩,.int .i64 cc]) ∧ Below w.heap.size w w':=by
 have HE:=hidK (h.below (below1 w (.cells #[.slice none 0 0,.slice none 0 0,.slice none 0 0,.slice none 0 0,.slice none 0 0,.int .i64 0,.string ⟨#[]⟩,.int .i64 0] 38)));clear h;go_enter Tryz.func32,Tryz.ntmps32;go_wp2_with fail;refine (whyCode_any E i _ HE.out hi).mono ?_;rintro e w' ⟨rfl,rfl⟩;rw [← hcc];clear hcc;go_wp2;exact bodyPost_ret (v:=.agg #[.slice none 0 0,.slice none 0 0,.slice none 0 0,.slice none 0 0,.slice none 0 0,.int .i64 0,.string ⟨#[]⟩,.int .i64 cc]) (by simp [results,Tryz.results32,go_sem]) rfl ⟨rfl,below1 _ _⟩

end Rc
end Go.Proofs.YtpibkpofdbjdaaaGreatDoor

namespace Go.Proofs.YtpibkpofdbjdaaaGreatDoor
open Go.RowKit

theorem long_any (s : ByteArray) (w : World) :
  Calls Tryz.prog 65 #[.string s] w fun e w' => e = .returned (.bool (decide (8000 < s.size))) ∧ w = w':=by
 go_enter Tryz.func65,Tryz.ntmps65;go_wp2;go_ret;exact ⟨by simp;omega,rfl⟩
theorem long_yes (s : ByteArray) (w : World) (h : 8000 < s.size) :
  Calls Tryz.prog 65 #[.string s] w fun e w' => e = .returned (.bool true) ∧ w = w':=by
 have:=long_any s w;rw [decide_eq_true h] at this;exact this
theorem long_no (s : ByteArray) (w : World) (h : ¬ 8000 < s.size) :
  Calls Tryz.prog 65 #[.string s] w fun e w' => e = .returned (.bool false) ∧ w = w':=by
 have:=long_any s w;rw [decide_eq_false h] at this;exact this

end Go.Proofs.YtpibkpofdbjdaaaGreatDoor

namespace Go.Proofs.YtpibkpofdbjdaaaGreatDoor
open Go.RowKit
namespace Rc
open Mk

theorem Below.drewn {B : Nat} {w w' : World} (h : Below B w w') : Below B w w'.drew:=⟨h.os,h.tape,h.output,h.size,h.block⟩
def HasX (c : Cl) (t : ByteArray) : Prop:=∃ (i : Nat) (x : Xd),c.xs[i]? = some x ∧ x.n = t
theorem HasX.no {c : Cl} {t : ByteArray} (hr : RightI c) (h : hit Xd.n c.xs t = false) : ¬ HasX c t:=fun ⟨i,x,h1,h2⟩ => by
 have:=(hit_at hr.2.1.2.2.2.1.2.2 h1 h2).2;rw [h] at this;cases this
def BegIs (c : Cl) (t : ByteArray) (p : Int) : Prop:=(8000 < t.size ∧ p = 2) ∨ (¬ 8000 < t.size ∧ ¬ RightI c ∧ p = 1) ∨ (¬ 8000 < t.size ∧ RightI c ∧ p = 0)

theorem sbeg_any (d : Ad) (c : Cl) (t : ByteArray) (w : World) (hr : ClRow w d c.raw) :
  Calls Tryz.prog 21 #[.agg #[.slice d.a1 d.l1 d.c1,.slice d.a2 d.l2 d.c2,.slice d.a3 d.l3 d.c3,.slice d.a4 d.l4 d.c4,.slice d.a5 d.l5 d.c5,.int .i64 c.now],.string t] w fun e w' => ∃ p : Int,e = .returned (.int .i64 p) ∧ BegIs c t p ∧ Below w.heap.size w w':=by
 obtain ⟨HR,HB⟩:=qqb70;clear hr;by_cases hl : 8000 < t.size
 ·go_enter Tryz.func21,Tryz.ntmps21;go_wp2;go_ret;exact ⟨2,rfl,.inl ⟨hl,rfl⟩,below1 _ _⟩
 go_enter Tryz.func21,Tryz.ntmps21;go_wp2_with fail;refine (sright_any d c _ (HR.out.below (HB.out.trans ((below1 _ _).mono HB.out.size)))).mono ?_;rintro e w1 ⟨r,rfl,hi,hb⟩;obtain ⟨HA0,hbx⟩:=slots1 hb;have Bk:=hidK HA0;replace HB:=upB HB hbx;clear hb hbx HA0;have HI:=hidK hi;clear hi;cases r
 ·go_wp2;go_ret;exact ⟨1,rfl,.inr (.inl ⟨hl,fun h => (by have:=HI.out.2 h;cases this),rfl⟩),HB.out⟩
 ·go_wp2;go_ret;exact ⟨0,rfl,.inr (.inr ⟨hl,HI.out.1 qqd5,rfl⟩),HB.out⟩

theorem infond : (Tryz.prog.info? 82).map (fun i => (i.zero,i.size,i.bytes)) = some (some (.agg #[.string ⟨#[]⟩,.string ⟨#[]⟩,.int .i64 0,.int .i64 0,.int .i64 0,.bool false,.slice none 0 0]),7,88):=by kernel_rfl
def ndZ : Nd:=⟨⟨#[]⟩,⟨#[]⟩,0,0,0,false,[]⟩

theorem madend {w : World} {g len : Nat} (h : w.heap[g]? = some (.cells (madeCells #[.string ⟨#[]⟩,.string ⟨#[]⟩,.int .i64 0,.int .i64 0,.int .i64 0,.bool false,.slice none 0 0] (len * 7)) 82 (0,0))) (hl : len ≤ 1048576) (S : Nat → Prop) (hS : S g) :
  ROwn w (some ⟨g,0,none⟩) len len 7 82 ((List.replicate len ndZ).map ndF) S:=by
 refine ⟨by simp,Nat.le_refl _,by omega,.inr ⟨g,_,fun _ _ => 0,rfl,h,hS,?_,?_,?_⟩⟩
 ·exact qqa47
 ·intro j r hr i f hi;rw [List.getElem?_map] at hr;obtain ⟨x,hx,rfl⟩:=Option.map_eq_some_iff.1 hr;have hj : j < len:=by have:=(List.getElem?_eq_some_iff.1 hx).1;simpa using this
  obtain rfl : x = ndZ:=by
   exact qqa30
  have him : i < 7:=(List.getElem?_eq_some_iff.1 hi).1;have hlt : j * 7 + i < len * 7:=qqd1
  have hcell : (madeCells #[.string ⟨#[]⟩,.string ⟨#[]⟩,.int .i64 0,.int .i64 0,.int .i64 0,.bool false,.slice none 0 0] (len * 7))[j * 7 + i]? = some (#[.string ⟨#[]⟩,.string ⟨#[]⟩,.int .i64 0,.int .i64 0,.int .i64 0,.bool false,.slice none 0 0][i]!):=by
   unfold madeCells;rw [Array.getElem?_map,Array.getElem?_range];rw [if_pos hlt];have : (j * 7 + i) % 7 = i:=qqd1
   simp [this]
  refine ⟨_,hcell,?_⟩;rcases i with _ | _ | _ | _ | _ | _ | _ | i
  ·cases hi;exact ⟨rfl,by decide⟩
  ·cases hi;exact ⟨rfl,by decide⟩
  ·cases hi;exact rfl
  ·cases hi;exact rfl
  ·cases hi;exact rfl
  ·cases hi;exact rfl
  ·cases hi;exact ⟨none,0,0,rfl,rfl,Nat.le_refl _,by decide,fun j x hx => by simp [ndZ] at hx,.inl rfl⟩
  ·omega
 ·intro j r i zs j' r' i' zs' hr hi hz;exfalso;rw [List.getElem?_map] at hr;obtain ⟨x,hx,rfl⟩:=Option.map_eq_some_iff.1 hr;obtain rfl : x = ndZ:=by
   exact qqa30
  have him : i < 7:=(List.getElem?_eq_some_iff.1 hi).1;rcases i with _ | _ | _ | _ | _ | _ | _ | i
  ·cases hi
  ·cases hi
  ·cases hi
  ·cases hi
  ·cases hi
  ·cases hi
  ·cases hi;exact hz rfl
  ·omega

theorem tond_any (a : Option Addr) (len cap : Nat) (xs : List Nd) (w : World) (hr : RRow w a len cap 7 (xs.map ndF)) (hl : len ≤ 1048576) (hf : ∀ (j : Nat) x,xs[j]? = some x → x.zs.length ≤ 1048576) :
  Calls Tryz.prog 25 #[.slice a len cap] w fun e w' => e = .returned (.slice (some ⟨w.heap.size,0,none⟩) len len) ∧ ROwn w' (some ⟨w.heap.size,0,none⟩) len len 7 82 (xs.map ndF) (fun k => w.heap.size ≤ k) ∧ Below w.heap.size w w':=by
 obtain ⟨HR,hvl⟩:=qqb88;have HF:=hidK hf;clear hr hf;obtain ⟨i0,hi,hz0,hz1,hz2⟩:=info_parts infond;go_enter Tryz.func25,Tryz.ntmps25;go_wp2_with (at_make;refine wpList_make_full _ rfl _ _ 30 rfl w.heap.size 82 i0 (.agg #[.string ⟨#[]⟩,.string ⟨#[]⟩,.int .i64 0,.int .i64 0,.int .i64 0,.bool false,.slice none 0 0]) 7 Tryz.underlying30 hi hz0 hz1 _ _ _ _ len rfl rfl qqd1 qqd1 qqd18 qqd9 (Nat.le_refl _) ?_);intro w1 hown hgrow;obtain ⟨hnx1,HB⟩:=qqb22;have hc1 : w1.heap[w.heap.size]? = some (.cells (madeCells #[.string ⟨#[]⟩,.string ⟨#[]⟩,.int .i64 0,.int .i64 0,.int .i64 0,.bool false,.slice none 0 0] (len * 7)) 82 (0,0)):=by
  obtain ⟨h1,h2⟩:=hown;rcases h2 with ⟨h3,_⟩ | ⟨g',cap',cur,hv,hB,hh,_,_,hsz,htk⟩
  ·cases h3
  ·simp only [Value.slice.injEq,Option.some.injEq,Addr.mk.injEq] at hv;obtain ⟨⟨rfl,_,_⟩,_,rfl⟩:=hv;rw [List.take_of_length_le (by simp [hsz])] at htk;have : cur = madeCells #[.string ⟨#[]⟩,.string ⟨#[]⟩,.int .i64 0,.int .i64 0,.int .i64 0,.bool false,.slice none 0 0] (len * 7):=by apply Array.ext';simpa using htk
   rw [this] at hh;simpa using hh
 have HP : Hid (ROwn w1 (some ⟨w.heap.size,0,none⟩) len len 7 82 ((xs.take 0 ++ (List.replicate len ndZ).drop 0).map ndF) (fun k => w.heap.size ≤ k)):=by
  have:=madend hc1 hl (fun k => w.heap.size ≤ k) (Nat.le_refl _);simpa [Hid] using this
 have hZl : xs.length = (List.replicate len ndZ).length:=by simpa using hvl
 clear hown hgrow hi hz0 hz1 hz2 hnx1 hc1;go_wp2;go_loopw [4] (fun i wr => ∃ k : Nat,k ≤ len ∧ i = .int .i64 k ∧ Hid (ROwn wr (some ⟨w.heap.size,0,none⟩) len len 7 82 ((xs.take k ++ (List.replicate len ndZ).drop k).map ndF) (fun k => w.heap.size ≤ k)) ∧ Hid (Below w.heap.size w wr)) (fun i _ => len - (intOf i).toNat);case atStart => exact ⟨0,by omega,rfl,HP,HB⟩
 case round =>
  obtain ⟨k,hk,rfl,HP,HB⟩:=hrel;by_cases hlt : k < len
  ·obtain ⟨b,o,v,rfl,hb,hv,hat⟩:=nd_at (HR.out.below HB.out) hlt;obtain ⟨va,vl,vc,hvr,z0,z1,c0,c1,c2,c3,c4,c5,c6⟩:=nd_cells hat;have HV:=hidK hv;have Hz0:=hidK z0;have Hz1:=hidK z1;obtain ⟨HT,hvl2,hvz,HVZ⟩:=qqb65;clear hvr hvz;clear hat hv z0 z1;have hzk : ((xs.take k ++ (List.replicate len ndZ).drop k).map ndF)[k]? = some (ndF ndZ):=by
    exact qqa124
   obtain ⟨g,hg,hs⟩:=HP.out.st (KeptS.refl _ _) hzk;cases hg;have HS:=hidK hs;clear hs hzk HP;go_wp2_with fail;refine (toNode_any v.n v.z v.c v.s v.u v.d va vl vc v.zs _ HT.out hvl2).mono ?_;rintro e w2 ⟨rfl,hG,hb2⟩;have HB2:=upB HB hb2;have h1 : StJ w.heap.size 7 82 (fun k => w.heap.size ≤ k) (fun k => wr.heap.size ≤ k) wr w2 ((xs.take k ++ (List.replicate len ndZ).drop k).map ndF) k [.s ndZ.n,.s ndZ.z,.i ndZ.c,.i ndZ.s,.i ndZ.u,.b ndZ.d,.l ndZ.zs]:=HS.out.fresh hb2;have hL : LOwn w2 (wr.heap.size + 1 + 1 + 1) (fun k => w.heap.size ≤ k) w.heap.size v.zs (.slice (some ⟨wr.heap.size + 1 + 1 + 1,0,none⟩) vl vl):=by
    exact qqa120
   have HL:=hidK hL;clear hG hL;obtain ⟨q0,e0⟩:=h1.cell (i:=0) rfl;have f0:=h1.fro (k * 7);obtain ⟨q1,e1⟩:=h1.cell (i:=1) rfl;have f1:=h1.fro (k * 7 + 1);obtain ⟨q2,e2⟩:=h1.cell (i:=2) rfl;have f2:=h1.fro (k * 7 + 2);obtain ⟨q3,e3⟩:=h1.cell (i:=3) rfl;have f3:=h1.fro (k * 7 + 3);obtain ⟨q4,e4⟩:=h1.cell (i:=4) rfl;have f4:=h1.fro (k * 7 + 4);obtain ⟨q5,e5⟩:=h1.cell (i:=5) rfl;have f5:=h1.fro (k * 7 + 5);obtain ⟨q6,e6⟩:=h1.cell (i:=6) rfl;have f6:=h1.fro (k * 7 + 6);rw [Nat.add_zero] at e0;have HZ:=hidK ((((((((h1).setS (i:=0) rfl v.n Hz0.out).setS (i:=1) rfl v.z Hz1.out).setI (i:=2) rfl v.c).setI (i:=3) rfl v.s).setI (i:=4) rfl v.u).setB (i:=5) rfl v.d).setL (i:=6) rfl v.zs (fun _ => by show wr.heap.size ≤ _;omega) (Fv.Own.set_cell (u:=.l v.zs) (Fv.Own.set_cell (u:=.l v.zs) (Fv.Own.set_cell (u:=.l v.zs) (Fv.Own.set_cell (u:=.l v.zs) (Fv.Own.set_cell (u:=.l v.zs) (Fv.Own.set_cell (u:=.l v.zs) (HL.out))))))));clear h1 hb2 c0 c1 c2 c3 c4 c5 c6 hb;go_wp2_with fail;refine ⟨⟨k + 1,by omega,by go_num,?_,set_below (Nat.le_refl _) (set_below (Nat.le_refl _) (set_below (Nat.le_refl _) (set_below (Nat.le_refl _) (set_below (Nat.le_refl _) (set_below (Nat.le_refl _) (set_below (Nat.le_refl _) (HB2.out)))))))⟩,by simp [intOf];omega⟩;obtain ⟨⟨cur,H,h2,-⟩,-,-⟩:=HZ.out;have h3 : (((xs.take k ++ (List.replicate len ndZ).drop k).map ndF).set k (ndF v)) = (xs.take (k + 1) ++ (List.replicate len ndZ).drop (k + 1)).map ndF:=by
    rw [← List.map_set,take_drop_set hZl HV.out]
   have h4 : ROwnAt _ w.heap.size 7 82 (((xs.take k ++ (List.replicate len ndZ).drop k).map ndF).set k (ndF v)) (fun k => w.heap.size ≤ k) cur H:=h2;exact qqa38
  ·exact qqa22

theorem infokd : (Tryz.prog.info? 109).map (fun i => (i.zero,i.size,i.bytes)) = some (some (.agg #[.string ⟨#[]⟩,.bool false,.bool false,.string ⟨#[]⟩]),4,40):=by kernel_rfl
def kdZ : Kd:=⟨⟨#[]⟩,false,false,⟨#[]⟩⟩

theorem madekd {w : World} {g len : Nat} (h : w.heap[g]? = some (.cells (madeCells #[.string ⟨#[]⟩,.bool false,.bool false,.string ⟨#[]⟩] (len * 4)) 109 (0,0))) (hl : len ≤ 1048576) (S : Nat → Prop) (hS : S g) :
  ROwn w (some ⟨g,0,none⟩) len len 4 109 ((List.replicate len kdZ).map kdF) S:=by
 refine ⟨by simp,Nat.le_refl _,by omega,.inr ⟨g,_,fun _ _ => 0,rfl,h,hS,?_,?_,?_⟩⟩
 ·exact qqa47
 ·intro j r hr i f hi;rw [List.getElem?_map] at hr;obtain ⟨x,hx,rfl⟩:=Option.map_eq_some_iff.1 hr;have hj : j < len:=by have:=(List.getElem?_eq_some_iff.1 hx).1;simpa using this
  obtain rfl : x = kdZ:=by
   exact qqa30
  have him : i < 4:=(List.getElem?_eq_some_iff.1 hi).1;have hlt : j * 4 + i < len * 4:=qqd1
  have hcell : (madeCells #[.string ⟨#[]⟩,.bool false,.bool false,.string ⟨#[]⟩] (len * 4))[j * 4 + i]? = some (#[.string ⟨#[]⟩,.bool false,.bool false,.string ⟨#[]⟩][i]!):=by
   unfold madeCells;rw [Array.getElem?_map,Array.getElem?_range];rw [if_pos hlt];have : (j * 4 + i) % 4 = i:=qqd1
   simp [this]
  refine ⟨_,hcell,?_⟩;rcases i with _ | _ | _ | _ | i
  ·cases hi;exact ⟨rfl,by decide⟩
  ·cases hi;exact rfl
  ·cases hi;exact rfl
  ·cases hi;exact ⟨rfl,by decide⟩
  ·omega
 ·intro j r i zs j' r' i' zs' hr hi hz;exfalso;rw [List.getElem?_map] at hr;obtain ⟨x,hx,rfl⟩:=Option.map_eq_some_iff.1 hr;obtain rfl : x = kdZ:=by
   exact qqa30
  have him : i < 4:=(List.getElem?_eq_some_iff.1 hi).1;rcases i with _ | _ | _ | _ | i
  ·cases hi
  ·cases hi
  ·cases hi
  ·cases hi
  ·omega

theorem tokd_any (a : Option Addr) (len cap : Nat) (xs : List Kd) (w : World) (hr : RRow w a len cap 4 (xs.map kdF)) (hl : len ≤ 1048576) :
  Calls Tryz.prog 26 #[.slice a len cap] w fun e w' => e = .returned (.slice (some ⟨w.heap.size,0,none⟩) len len) ∧ ROwn w' (some ⟨w.heap.size,0,none⟩) len len 4 109 (xs.map kdF) (fun k => w.heap.size ≤ k) ∧ Below w.heap.size w w':=by
 obtain ⟨HR,hvl⟩:=qqb88;skip;clear hr;obtain ⟨i0,hi,hz0,hz1,hz2⟩:=info_parts infokd;go_enter Tryz.func26,Tryz.ntmps26;go_wp2_with (at_make;refine wpList_make_full _ rfl _ _ 31 rfl w.heap.size 109 i0 (.agg #[.string ⟨#[]⟩,.bool false,.bool false,.string ⟨#[]⟩]) 4 Tryz.underlying31 hi hz0 hz1 _ _ _ _ len rfl rfl qqd1 qqd1 qqd18 qqd9 (Nat.le_refl _) ?_);intro w1 hown hgrow;obtain ⟨hnx1,HB⟩:=qqb22;have hc1 : w1.heap[w.heap.size]? = some (.cells (madeCells #[.string ⟨#[]⟩,.bool false,.bool false,.string ⟨#[]⟩] (len * 4)) 109 (0,0)):=by
  obtain ⟨h1,h2⟩:=hown;rcases h2 with ⟨h3,_⟩ | ⟨g',cap',cur,hv,hB,hh,_,_,hsz,htk⟩
  ·cases h3
  ·simp only [Value.slice.injEq,Option.some.injEq,Addr.mk.injEq] at hv;obtain ⟨⟨rfl,_,_⟩,_,rfl⟩:=hv;rw [List.take_of_length_le (by simp [hsz])] at htk;have : cur = madeCells #[.string ⟨#[]⟩,.bool false,.bool false,.string ⟨#[]⟩] (len * 4):=by apply Array.ext';simpa using htk
   rw [this] at hh;simpa using hh
 have HP : Hid (ROwn w1 (some ⟨w.heap.size,0,none⟩) len len 4 109 ((xs.take 0 ++ (List.replicate len kdZ).drop 0).map kdF) (fun k => w.heap.size ≤ k)):=by
  have:=madekd hc1 hl (fun k => w.heap.size ≤ k) (Nat.le_refl _);simpa [Hid] using this
 have hZl : xs.length = (List.replicate len kdZ).length:=by simpa using hvl
 clear hown hgrow hi hz0 hz1 hz2 hnx1 hc1;go_wp2;go_loopw [4] (fun i wr => ∃ k : Nat,k ≤ len ∧ i = .int .i64 k ∧ Hid (ROwn wr (some ⟨w.heap.size,0,none⟩) len len 4 109 ((xs.take k ++ (List.replicate len kdZ).drop k).map kdF) (fun k => w.heap.size ≤ k)) ∧ Hid (Below w.heap.size w wr)) (fun i _ => len - (intOf i).toNat);case atStart => exact ⟨0,by omega,rfl,HP,HB⟩
 case round =>
  obtain ⟨k,hk,rfl,HP,HB⟩:=hrel;by_cases hlt : k < len
  ·obtain ⟨b,o,v,rfl,hb,hv,hat⟩:=kd_at (HR.out.below HB.out) hlt;obtain ⟨z0,z3,c0,c1,c2,c3⟩:=kd_cells hat;have HV:=hidK hv;have Hz0:=hidK z0;have Hz3:=hidK z3;clear hat hv z0 z3;have hzk : ((xs.take k ++ (List.replicate len kdZ).drop k).map kdF)[k]? = some (kdF kdZ):=by
    exact qqa124
   obtain ⟨g,hg,hs⟩:=HP.out.st (KeptS.refl _ _) hzk;cases hg;have HS:=hidK hs;clear hs hzk HP;go_wp2_with fail;refine (toClass_any v.n v.x v.y v.z _).mono ?_;rintro e w2 ⟨rfl,hb2⟩;have HB2:=upB HB hb2;have h1 : StJ w.heap.size 4 109 (fun k => w.heap.size ≤ k) (fun k => wr.heap.size ≤ k) wr w2 ((xs.take k ++ (List.replicate len kdZ).drop k).map kdF) k [.s kdZ.n,.b kdZ.x,.b kdZ.y,.s kdZ.z]:=HS.out.fresh hb2;obtain ⟨q0,e0⟩:=h1.cell (i:=0) rfl;have f0:=h1.fro (k * 4);obtain ⟨q1,e1⟩:=h1.cell (i:=1) rfl;have f1:=h1.fro (k * 4 + 1);obtain ⟨q2,e2⟩:=h1.cell (i:=2) rfl;have f2:=h1.fro (k * 4 + 2);obtain ⟨q3,e3⟩:=h1.cell (i:=3) rfl;have f3:=h1.fro (k * 4 + 3);rw [Nat.add_zero] at e0;have HZ:=hidK (((((h1).setS (i:=0) rfl v.n Hz0.out).setB (i:=1) rfl v.x).setB (i:=2) rfl v.y).setS (i:=3) rfl v.z Hz3.out);clear h1 hb2 c0 c1 c2 c3 hb;go_wp2_with fail;refine ⟨⟨k + 1,by omega,by go_num,?_,set_below (Nat.le_refl _) (set_below (Nat.le_refl _) (set_below (Nat.le_refl _) (set_below (Nat.le_refl _) (HB2.out))))⟩,by simp [intOf];omega⟩;obtain ⟨⟨cur,H,h2,-⟩,-,-⟩:=HZ.out;have h3 : (((xs.take k ++ (List.replicate len kdZ).drop k).map kdF).set k (kdF v)) = (xs.take (k + 1) ++ (List.replicate len kdZ).drop (k + 1)).map kdF:=by
    rw [← List.map_set,take_drop_set hZl HV.out]
   have h4 : ROwnAt _ w.heap.size 4 109 (((xs.take k ++ (List.replicate len kdZ).drop k).map kdF).set k (kdF v)) (fun k => w.heap.size ≤ k) cur H:=h2;exact qqa38
  ·exact qqa22

theorem infovd : (Tryz.prog.info? 106).map (fun i => (i.zero,i.size,i.bytes)) = some (some (.agg #[.string ⟨#[]⟩,.int .i64 0,.string ⟨#[]⟩,.string ⟨#[]⟩,.bool false,.string ⟨#[]⟩,.bool false,.slice none 0 0]),8,112):=by kernel_rfl
def vdZ : Vd:=⟨⟨#[]⟩,0,⟨#[]⟩,⟨#[]⟩,false,⟨#[]⟩,false,[]⟩

theorem madevd {w : World} {g len : Nat} (h : w.heap[g]? = some (.cells (madeCells #[.string ⟨#[]⟩,.int .i64 0,.string ⟨#[]⟩,.string ⟨#[]⟩,.bool false,.string ⟨#[]⟩,.bool false,.slice none 0 0] (len * 8)) 106 (0,0))) (hl : len ≤ 1048576) (S : Nat → Prop) (hS : S g) :
  ROwn w (some ⟨g,0,none⟩) len len 8 106 ((List.replicate len vdZ).map vdF) S:=by
 refine ⟨by simp,Nat.le_refl _,by omega,.inr ⟨g,_,fun _ _ => 0,rfl,h,hS,?_,?_,?_⟩⟩
 ·exact qqa47
 ·intro j r hr i f hi;rw [List.getElem?_map] at hr;obtain ⟨x,hx,rfl⟩:=Option.map_eq_some_iff.1 hr;have hj : j < len:=by have:=(List.getElem?_eq_some_iff.1 hx).1;simpa using this
  obtain rfl : x = vdZ:=by
   exact qqa30
  have him : i < 8:=(List.getElem?_eq_some_iff.1 hi).1;have hlt : j * 8 + i < len * 8:=qqd1
  have hcell : (madeCells #[.string ⟨#[]⟩,.int .i64 0,.string ⟨#[]⟩,.string ⟨#[]⟩,.bool false,.string ⟨#[]⟩,.bool false,.slice none 0 0] (len * 8))[j * 8 + i]? = some (#[.string ⟨#[]⟩,.int .i64 0,.string ⟨#[]⟩,.string ⟨#[]⟩,.bool false,.string ⟨#[]⟩,.bool false,.slice none 0 0][i]!):=by
   unfold madeCells;rw [Array.getElem?_map,Array.getElem?_range];rw [if_pos hlt];have : (j * 8 + i) % 8 = i:=qqd1
   simp [this]
  refine ⟨_,hcell,?_⟩;rcases i with _ | _ | _ | _ | _ | _ | _ | _ | i
  ·cases hi;exact ⟨rfl,by decide⟩
  ·cases hi;exact rfl
  ·cases hi;exact ⟨rfl,by decide⟩
  ·cases hi;exact ⟨rfl,by decide⟩
  ·cases hi;exact rfl
  ·cases hi;exact ⟨rfl,by decide⟩
  ·cases hi;exact rfl
  ·cases hi;exact ⟨none,0,0,rfl,rfl,Nat.le_refl _,by decide,fun j x hx => by simp [vdZ] at hx,.inl rfl⟩
  ·omega
 ·intro j r i zs j' r' i' zs' hr hi hz;exfalso;rw [List.getElem?_map] at hr;obtain ⟨x,hx,rfl⟩:=Option.map_eq_some_iff.1 hr;obtain rfl : x = vdZ:=by
   exact qqa30
  have him : i < 8:=(List.getElem?_eq_some_iff.1 hi).1;rcases i with _ | _ | _ | _ | _ | _ | _ | _ | i
  ·cases hi
  ·cases hi
  ·cases hi
  ·cases hi
  ·cases hi
  ·cases hi
  ·cases hi
  ·cases hi;exact hz rfl
  ·omega

theorem tovd_any (a : Option Addr) (len cap : Nat) (xs : List Vd) (w : World) (hr : RRow w a len cap 8 (xs.map vdF)) (hl : len ≤ 1048576) (hf : ∀ (j : Nat) x,xs[j]? = some x → x.zs.length ≤ 1048576) :
  Calls Tryz.prog 27 #[.slice a len cap] w fun e w' => e = .returned (.slice (some ⟨w.heap.size,0,none⟩) len len) ∧ ROwn w' (some ⟨w.heap.size,0,none⟩) len len 8 106 (xs.map vdF) (fun k => w.heap.size ≤ k) ∧ Below w.heap.size w w':=by
 obtain ⟨HR,hvl⟩:=qqb88;have HF:=hidK hf;clear hr hf;obtain ⟨i0,hi,hz0,hz1,hz2⟩:=info_parts infovd;go_enter Tryz.func27,Tryz.ntmps27;go_wp2_with (at_make;refine wpList_make_full _ rfl _ _ 32 rfl w.heap.size 106 i0 (.agg #[.string ⟨#[]⟩,.int .i64 0,.string ⟨#[]⟩,.string ⟨#[]⟩,.bool false,.string ⟨#[]⟩,.bool false,.slice none 0 0]) 8 Tryz.underlying32 hi hz0 hz1 _ _ _ _ len rfl rfl qqd1 qqd1 qqd18 qqd9 (Nat.le_refl _) ?_);intro w1 hown hgrow;obtain ⟨hnx1,HB⟩:=qqb22;have hc1 : w1.heap[w.heap.size]? = some (.cells (madeCells #[.string ⟨#[]⟩,.int .i64 0,.string ⟨#[]⟩,.string ⟨#[]⟩,.bool false,.string ⟨#[]⟩,.bool false,.slice none 0 0] (len * 8)) 106 (0,0)):=by
  obtain ⟨h1,h2⟩:=hown;rcases h2 with ⟨h3,_⟩ | ⟨g',cap',cur,hv,hB,hh,_,_,hsz,htk⟩
  ·cases h3
  ·simp only [Value.slice.injEq,Option.some.injEq,Addr.mk.injEq] at hv;obtain ⟨⟨rfl,_,_⟩,_,rfl⟩:=hv;rw [List.take_of_length_le (by simp [hsz])] at htk;have : cur = madeCells #[.string ⟨#[]⟩,.int .i64 0,.string ⟨#[]⟩,.string ⟨#[]⟩,.bool false,.string ⟨#[]⟩,.bool false,.slice none 0 0] (len * 8):=by apply Array.ext';simpa using htk
   rw [this] at hh;simpa using hh
 have HP : Hid (ROwn w1 (some ⟨w.heap.size,0,none⟩) len len 8 106 ((xs.take 0 ++ (List.replicate len vdZ).drop 0).map vdF) (fun k => w.heap.size ≤ k)):=by
  have:=madevd hc1 hl (fun k => w.heap.size ≤ k) (Nat.le_refl _);simpa [Hid] using this
 have hZl : xs.length = (List.replicate len vdZ).length:=by simpa using hvl
 clear hown hgrow hi hz0 hz1 hz2 hnx1 hc1;go_wp2;go_loopw [4] (fun i wr => ∃ k : Nat,k ≤ len ∧ i = .int .i64 k ∧ Hid (ROwn wr (some ⟨w.heap.size,0,none⟩) len len 8 106 ((xs.take k ++ (List.replicate len vdZ).drop k).map vdF) (fun k => w.heap.size ≤ k)) ∧ Hid (Below w.heap.size w wr)) (fun i _ => len - (intOf i).toNat);case atStart => exact ⟨0,by omega,rfl,HP,HB⟩
 case round =>
  obtain ⟨k,hk,rfl,HP,HB⟩:=hrel;by_cases hlt : k < len
  ·obtain ⟨b,o,v,rfl,hb,hv,hat⟩:=vd_at (HR.out.below HB.out) hlt;obtain ⟨va,vl,vc,hvr,z0,z2,z3,z5,c0,c1,c2,c3,c4,c5,c6,c7⟩:=vd_cells hat;have HV:=hidK hv;have Hz0:=hidK z0;have Hz2:=hidK z2;have Hz3:=hidK z3;have Hz5:=hidK z5;obtain ⟨HT,hvl2,hvz,HVZ⟩:=qqb65;clear hvr hvz;clear hat hv z0 z2 z3 z5;have hzk : ((xs.take k ++ (List.replicate len vdZ).drop k).map vdF)[k]? = some (vdF vdZ):=by
    exact qqa124
   obtain ⟨g,hg,hs⟩:=HP.out.st (KeptS.refl _ _) hzk;cases hg;have HS:=hidK hs;clear hs hzk HP;go_wp2_with fail;refine (toVolume_any v.n v.c v.z v.k v.x v.m v.y va vl vc v.zs _ HT.out hvl2).mono ?_;rintro e w2 ⟨rfl,hG,hb2⟩;have HB2:=upB HB hb2;have h1 : StJ w.heap.size 8 106 (fun k => w.heap.size ≤ k) (fun k => wr.heap.size ≤ k) wr w2 ((xs.take k ++ (List.replicate len vdZ).drop k).map vdF) k [.s vdZ.n,.i vdZ.c,.s vdZ.z,.s vdZ.k,.b vdZ.x,.s vdZ.m,.b vdZ.y,.l vdZ.zs]:=HS.out.fresh hb2;have hL : LOwn w2 (wr.heap.size + 1 + 1 + 1) (fun k => w.heap.size ≤ k) w.heap.size v.zs (.slice (some ⟨wr.heap.size + 1 + 1 + 1,0,none⟩) vl vl):=by
    exact qqa120
   have HL:=hidK hL;clear hG hL;obtain ⟨q0,e0⟩:=h1.cell (i:=0) rfl;have f0:=h1.fro (k * 8);obtain ⟨q1,e1⟩:=h1.cell (i:=1) rfl;have f1:=h1.fro (k * 8 + 1);obtain ⟨q2,e2⟩:=h1.cell (i:=2) rfl;have f2:=h1.fro (k * 8 + 2);obtain ⟨q3,e3⟩:=h1.cell (i:=3) rfl;have f3:=h1.fro (k * 8 + 3);obtain ⟨q4,e4⟩:=h1.cell (i:=4) rfl;have f4:=h1.fro (k * 8 + 4);obtain ⟨q5,e5⟩:=h1.cell (i:=5) rfl;have f5:=h1.fro (k * 8 + 5);obtain ⟨q6,e6⟩:=h1.cell (i:=6) rfl;have f6:=h1.fro (k * 8 + 6);obtain ⟨q7,e7⟩:=h1.cell (i:=7) rfl;have f7:=h1.fro (k * 8 + 7);rw [Nat.add_zero] at e0;have HZ:=hidK (((((((((h1).setS (i:=0) rfl v.n Hz0.out).setI (i:=1) rfl v.c).setS (i:=2) rfl v.z Hz2.out).setS (i:=3) rfl v.k Hz3.out).setB (i:=4) rfl v.x).setS (i:=5) rfl v.m Hz5.out).setB (i:=6) rfl v.y).setL (i:=7) rfl v.zs (fun _ => by show wr.heap.size ≤ _;omega) (Fv.Own.set_cell (u:=.l v.zs) (Fv.Own.set_cell (u:=.l v.zs) (Fv.Own.set_cell (u:=.l v.zs) (Fv.Own.set_cell (u:=.l v.zs) (Fv.Own.set_cell (u:=.l v.zs) (Fv.Own.set_cell (u:=.l v.zs) (Fv.Own.set_cell (u:=.l v.zs) (HL.out)))))))));clear h1 hb2 c0 c1 c2 c3 c4 c5 c6 c7 hb;go_wp2_with fail;refine ⟨⟨k + 1,by omega,by go_num,?_,set_below (Nat.le_refl _) (set_below (Nat.le_refl _) (set_below (Nat.le_refl _) (set_below (Nat.le_refl _) (set_below (Nat.le_refl _) (set_below (Nat.le_refl _) (set_below (Nat.le_refl _) (set_below (Nat.le_refl _) (HB2.out))))))))⟩,by simp [intOf];omega⟩;obtain ⟨⟨cur,H,h2,-⟩,-,-⟩:=HZ.out;have h3 : (((xs.take k ++ (List.replicate len vdZ).drop k).map vdF).set k (vdF v)) = (xs.take (k + 1) ++ (List.replicate len vdZ).drop (k + 1)).map vdF:=by
    rw [← List.map_set,take_drop_set hZl HV.out]
   have h4 : ROwnAt _ w.heap.size 8 106 (((xs.take k ++ (List.replicate len vdZ).drop k).map vdF).set k (vdF v)) (fun k => w.heap.size ≤ k) cur H:=h2;exact qqa38
  ·exact qqa22

theorem infoxd : (Tryz.prog.info? 112).map (fun i => (i.zero,i.size,i.bytes)) = some (some (.agg #[.string ⟨#[]⟩,.int .i64 0,.string ⟨#[]⟩,.bool false,.string ⟨#[]⟩]),5,64):=by kernel_rfl
def xdZ : Xd:=⟨⟨#[]⟩,0,⟨#[]⟩,false,⟨#[]⟩⟩

theorem madexd {w : World} {g len : Nat} (h : w.heap[g]? = some (.cells (madeCells #[.string ⟨#[]⟩,.int .i64 0,.string ⟨#[]⟩,.bool false,.string ⟨#[]⟩] (len * 5)) 112 (0,0))) (hl : len ≤ 1048576) (S : Nat → Prop) (hS : S g) :
  ROwn w (some ⟨g,0,none⟩) len len 5 112 ((List.replicate len xdZ).map xdF) S:=by
 refine ⟨by simp,Nat.le_refl _,by omega,.inr ⟨g,_,fun _ _ => 0,rfl,h,hS,?_,?_,?_⟩⟩
 ·exact qqa47
 ·intro j r hr i f hi;rw [List.getElem?_map] at hr;obtain ⟨x,hx,rfl⟩:=Option.map_eq_some_iff.1 hr;have hj : j < len:=by have:=(List.getElem?_eq_some_iff.1 hx).1;simpa using this
  obtain rfl : x = xdZ:=by
   exact qqa30
  have him : i < 5:=(List.getElem?_eq_some_iff.1 hi).1;have hlt : j * 5 + i < len * 5:=qqd1
  have hcell : (madeCells #[.string ⟨#[]⟩,.int .i64 0,.string ⟨#[]⟩,.bool false,.string ⟨#[]⟩] (len * 5))[j * 5 + i]? = some (#[.string ⟨#[]⟩,.int .i64 0,.string ⟨#[]⟩,.bool false,.string ⟨#[]⟩][i]!):=by
   unfold madeCells;rw [Array.getElem?_map,Array.getElem?_range];rw [if_pos hlt];have : (j * 5 + i) % 5 = i:=qqd1
   simp [this]
  refine ⟨_,hcell,?_⟩;rcases i with _ | _ | _ | _ | _ | i
  ·cases hi;exact ⟨rfl,by decide⟩
  ·cases hi;exact rfl
  ·cases hi;exact ⟨rfl,by decide⟩
  ·cases hi;exact rfl
  ·cases hi;exact ⟨rfl,by decide⟩
  ·omega
 ·intro j r i zs j' r' i' zs' hr hi hz;exfalso;rw [List.getElem?_map] at hr;obtain ⟨x,hx,rfl⟩:=Option.map_eq_some_iff.1 hr;obtain rfl : x = xdZ:=by
   exact qqa30
  have him : i < 5:=(List.getElem?_eq_some_iff.1 hi).1;rcases i with _ | _ | _ | _ | _ | i
  ·cases hi
  ·cases hi
  ·cases hi
  ·cases hi
  ·cases hi
  ·omega

theorem toxd_any (a : Option Addr) (len cap : Nat) (xs : List Xd) (w : World) (hr : RRow w a len cap 5 (xs.map xdF)) (hl : len ≤ 1048576) :
  Calls Tryz.prog 28 #[.slice a len cap] w fun e w' => e = .returned (.slice (some ⟨w.heap.size,0,none⟩) len len) ∧ ROwn w' (some ⟨w.heap.size,0,none⟩) len len 5 112 (xs.map xdF) (fun k => w.heap.size ≤ k) ∧ Below w.heap.size w w':=by
 obtain ⟨HR,hvl⟩:=qqb88;skip;clear hr;obtain ⟨i0,hi,hz0,hz1,hz2⟩:=info_parts infoxd;go_enter Tryz.func28,Tryz.ntmps28;go_wp2_with (at_make;refine wpList_make_full _ rfl _ _ 33 rfl w.heap.size 112 i0 (.agg #[.string ⟨#[]⟩,.int .i64 0,.string ⟨#[]⟩,.bool false,.string ⟨#[]⟩]) 5 Tryz.underlying33 hi hz0 hz1 _ _ _ _ len rfl rfl qqd1 qqd1 qqd18 qqd9 (Nat.le_refl _) ?_);intro w1 hown hgrow;obtain ⟨hnx1,HB⟩:=qqb22;have hc1 : w1.heap[w.heap.size]? = some (.cells (madeCells #[.string ⟨#[]⟩,.int .i64 0,.string ⟨#[]⟩,.bool false,.string ⟨#[]⟩] (len * 5)) 112 (0,0)):=by
  obtain ⟨h1,h2⟩:=hown;rcases h2 with ⟨h3,_⟩ | ⟨g',cap',cur,hv,hB,hh,_,_,hsz,htk⟩
  ·cases h3
  ·simp only [Value.slice.injEq,Option.some.injEq,Addr.mk.injEq] at hv;obtain ⟨⟨rfl,_,_⟩,_,rfl⟩:=hv;rw [List.take_of_length_le (by simp [hsz])] at htk;have : cur = madeCells #[.string ⟨#[]⟩,.int .i64 0,.string ⟨#[]⟩,.bool false,.string ⟨#[]⟩] (len * 5):=by apply Array.ext';simpa using htk
   rw [this] at hh;simpa using hh
 have HP : Hid (ROwn w1 (some ⟨w.heap.size,0,none⟩) len len 5 112 ((xs.take 0 ++ (List.replicate len xdZ).drop 0).map xdF) (fun k => w.heap.size ≤ k)):=by
  have:=madexd hc1 hl (fun k => w.heap.size ≤ k) (Nat.le_refl _);simpa [Hid] using this
 have hZl : xs.length = (List.replicate len xdZ).length:=by simpa using hvl
 clear hown hgrow hi hz0 hz1 hz2 hnx1 hc1;go_wp2;go_loopw [4] (fun i wr => ∃ k : Nat,k ≤ len ∧ i = .int .i64 k ∧ Hid (ROwn wr (some ⟨w.heap.size,0,none⟩) len len 5 112 ((xs.take k ++ (List.replicate len xdZ).drop k).map xdF) (fun k => w.heap.size ≤ k)) ∧ Hid (Below w.heap.size w wr)) (fun i _ => len - (intOf i).toNat);case atStart => exact ⟨0,by omega,rfl,HP,HB⟩
 case round =>
  obtain ⟨k,hk,rfl,HP,HB⟩:=hrel;by_cases hlt : k < len
  ·obtain ⟨b,o,v,rfl,hb,hv,hat⟩:=xd_at (HR.out.below HB.out) hlt;obtain ⟨z0,z2,z4,c0,c1,c2,c3,c4⟩:=xd_cells hat;have HV:=hidK hv;have Hz0:=hidK z0;have Hz2:=hidK z2;have Hz4:=hidK z4;clear hat hv z0 z2 z4;have hzk : ((xs.take k ++ (List.replicate len xdZ).drop k).map xdF)[k]? = some (xdF xdZ):=by
    exact qqa124
   obtain ⟨g,hg,hs⟩:=HP.out.st (KeptS.refl _ _) hzk;cases hg;have HS:=hidK hs;clear hs hzk HP;go_wp2_with fail;refine (toClaim_any v.n v.z v.k v.x v.v _).mono ?_;rintro e w2 ⟨rfl,hb2⟩;have HB2:=upB HB hb2;have h1 : StJ w.heap.size 5 112 (fun k => w.heap.size ≤ k) (fun k => wr.heap.size ≤ k) wr w2 ((xs.take k ++ (List.replicate len xdZ).drop k).map xdF) k [.s xdZ.n,.i xdZ.z,.s xdZ.k,.b xdZ.x,.s xdZ.v]:=HS.out.fresh hb2;obtain ⟨q0,e0⟩:=h1.cell (i:=0) rfl;have f0:=h1.fro (k * 5);obtain ⟨q1,e1⟩:=h1.cell (i:=1) rfl;have f1:=h1.fro (k * 5 + 1);obtain ⟨q2,e2⟩:=h1.cell (i:=2) rfl;have f2:=h1.fro (k * 5 + 2);obtain ⟨q3,e3⟩:=h1.cell (i:=3) rfl;have f3:=h1.fro (k * 5 + 3);obtain ⟨q4,e4⟩:=h1.cell (i:=4) rfl;have f4:=h1.fro (k * 5 + 4);rw [Nat.add_zero] at e0;have HZ:=hidK ((((((h1).setS (i:=0) rfl v.n Hz0.out).setI (i:=1) rfl v.z).setS (i:=2) rfl v.k Hz2.out).setB (i:=3) rfl v.x).setS (i:=4) rfl v.v Hz4.out);clear h1 hb2 c0 c1 c2 c3 c4 hb;go_wp2_with fail;refine ⟨⟨k + 1,by omega,by go_num,?_,set_below (Nat.le_refl _) (set_below (Nat.le_refl _) (set_below (Nat.le_refl _) (set_below (Nat.le_refl _) (set_below (Nat.le_refl _) (HB2.out)))))⟩,by simp [intOf];omega⟩;obtain ⟨⟨cur,H,h2,-⟩,-,-⟩:=HZ.out;have h3 : (((xs.take k ++ (List.replicate len xdZ).drop k).map xdF).set k (xdF v)) = (xs.take (k + 1) ++ (List.replicate len xdZ).drop (k + 1)).map xdF:=by
    rw [← List.map_set,take_drop_set hZl HV.out]
   have h4 : ROwnAt _ w.heap.size 5 112 (((xs.take k ++ (List.replicate len xdZ).drop k).map xdF).set k (xdF v)) (fun k => w.heap.size ≤ k) cur H:=h2;exact qqa38
  ·exact qqa22

theorem infopd : (Tryz.prog.info? 69).map (fun i => (i.zero,i.size,i.bytes)) = some (some (.agg #[.string ⟨#[]⟩,.int .i64 0,.string ⟨#[]⟩,.slice none 0 0,.string ⟨#[]⟩,.int .i64 0]),6,88):=by kernel_rfl
def pdZ : Pd:=⟨⟨#[]⟩,0,⟨#[]⟩,[],⟨#[]⟩,0⟩

theorem madepd {w : World} {g len : Nat} (h : w.heap[g]? = some (.cells (madeCells #[.string ⟨#[]⟩,.int .i64 0,.string ⟨#[]⟩,.slice none 0 0,.string ⟨#[]⟩,.int .i64 0] (len * 6)) 69 (0,0))) (hl : len ≤ 1048576) (S : Nat → Prop) (hS : S g) :
  ROwn w (some ⟨g,0,none⟩) len len 6 69 ((List.replicate len pdZ).map pdF) S:=by
 refine ⟨by simp,Nat.le_refl _,by omega,.inr ⟨g,_,fun _ _ => 0,rfl,h,hS,?_,?_,?_⟩⟩
 ·exact qqa47
 ·intro j r hr i f hi;rw [List.getElem?_map] at hr;obtain ⟨x,hx,rfl⟩:=Option.map_eq_some_iff.1 hr;have hj : j < len:=by have:=(List.getElem?_eq_some_iff.1 hx).1;simpa using this
  obtain rfl : x = pdZ:=by
   exact qqa30
  have him : i < 6:=(List.getElem?_eq_some_iff.1 hi).1;have hlt : j * 6 + i < len * 6:=qqd1
  have hcell : (madeCells #[.string ⟨#[]⟩,.int .i64 0,.string ⟨#[]⟩,.slice none 0 0,.string ⟨#[]⟩,.int .i64 0] (len * 6))[j * 6 + i]? = some (#[.string ⟨#[]⟩,.int .i64 0,.string ⟨#[]⟩,.slice none 0 0,.string ⟨#[]⟩,.int .i64 0][i]!):=by
   unfold madeCells;rw [Array.getElem?_map,Array.getElem?_range];rw [if_pos hlt];have : (j * 6 + i) % 6 = i:=qqd1
   simp [this]
  refine ⟨_,hcell,?_⟩;rcases i with _ | _ | _ | _ | _ | _ | i
  ·cases hi;exact ⟨rfl,by decide⟩
  ·cases hi;exact rfl
  ·cases hi;exact ⟨rfl,by decide⟩
  ·cases hi;exact ⟨none,0,0,rfl,rfl,Nat.le_refl _,by decide,fun j x hx => by simp [pdZ] at hx,.inl rfl⟩
  ·cases hi;exact ⟨rfl,by decide⟩
  ·cases hi;exact rfl
  ·omega
 ·intro j r i zs j' r' i' zs' hr hi hz;exfalso;rw [List.getElem?_map] at hr;obtain ⟨x,hx,rfl⟩:=Option.map_eq_some_iff.1 hr;obtain rfl : x = pdZ:=by
   exact qqa30
  have him : i < 6:=(List.getElem?_eq_some_iff.1 hi).1;rcases i with _ | _ | _ | _ | _ | _ | i
  ·cases hi
  ·cases hi
  ·cases hi
  ·cases hi;exact hz rfl
  ·cases hi
  ·cases hi
  ·omega

theorem topd_any (a : Option Addr) (len cap : Nat) (xs : List Pd) (w : World) (hr : RRow w a len cap 6 (xs.map pdF)) (hl : len ≤ 1048576) (hf : ∀ (j : Nat) x,xs[j]? = some x → x.zs.length ≤ 1048576) :
  Calls Tryz.prog 29 #[.slice a len cap] w fun e w' => e = .returned (.slice (some ⟨w.heap.size,0,none⟩) len len) ∧ ROwn w' (some ⟨w.heap.size,0,none⟩) len len 6 69 (xs.map pdF) (fun k => w.heap.size ≤ k) ∧ Below w.heap.size w w':=by
 obtain ⟨HR,hvl⟩:=qqb88;have HF:=hidK hf;clear hr hf;obtain ⟨i0,hi,hz0,hz1,hz2⟩:=info_parts infopd;go_enter Tryz.func29,Tryz.ntmps29;go_wp2_with (at_make;refine wpList_make_full _ rfl _ _ 34 rfl w.heap.size 69 i0 (.agg #[.string ⟨#[]⟩,.int .i64 0,.string ⟨#[]⟩,.slice none 0 0,.string ⟨#[]⟩,.int .i64 0]) 6 Tryz.underlying34 hi hz0 hz1 _ _ _ _ len rfl rfl qqd1 qqd1 qqd18 qqd9 (Nat.le_refl _) ?_);intro w1 hown hgrow;obtain ⟨hnx1,HB⟩:=qqb22;have hc1 : w1.heap[w.heap.size]? = some (.cells (madeCells #[.string ⟨#[]⟩,.int .i64 0,.string ⟨#[]⟩,.slice none 0 0,.string ⟨#[]⟩,.int .i64 0] (len * 6)) 69 (0,0)):=by
  obtain ⟨h1,h2⟩:=hown;rcases h2 with ⟨h3,_⟩ | ⟨g',cap',cur,hv,hB,hh,_,_,hsz,htk⟩
  ·cases h3
  ·simp only [Value.slice.injEq,Option.some.injEq,Addr.mk.injEq] at hv;obtain ⟨⟨rfl,_,_⟩,_,rfl⟩:=hv;rw [List.take_of_length_le (by simp [hsz])] at htk;have : cur = madeCells #[.string ⟨#[]⟩,.int .i64 0,.string ⟨#[]⟩,.slice none 0 0,.string ⟨#[]⟩,.int .i64 0] (len * 6):=by apply Array.ext';simpa using htk
   rw [this] at hh;simpa using hh
 have HP : Hid (ROwn w1 (some ⟨w.heap.size,0,none⟩) len len 6 69 ((xs.take 0 ++ (List.replicate len pdZ).drop 0).map pdF) (fun k => w.heap.size ≤ k)):=by
  have:=madepd hc1 hl (fun k => w.heap.size ≤ k) (Nat.le_refl _);simpa [Hid] using this
 have hZl : xs.length = (List.replicate len pdZ).length:=by simpa using hvl
 clear hown hgrow hi hz0 hz1 hz2 hnx1 hc1;go_wp2;go_loopw [4] (fun i wr => ∃ k : Nat,k ≤ len ∧ i = .int .i64 k ∧ Hid (ROwn wr (some ⟨w.heap.size,0,none⟩) len len 6 69 ((xs.take k ++ (List.replicate len pdZ).drop k).map pdF) (fun k => w.heap.size ≤ k)) ∧ Hid (Below w.heap.size w wr)) (fun i _ => len - (intOf i).toNat);case atStart => exact ⟨0,by omega,rfl,HP,HB⟩
 case round =>
  obtain ⟨k,hk,rfl,HP,HB⟩:=hrel;by_cases hlt : k < len
  ·obtain ⟨b,o,v,rfl,hb,hv,hat⟩:=pd_at (HR.out.below HB.out) hlt;obtain ⟨va,vl,vc,hvr,z0,z2,z4,c0,c1,c2,c3,c4,c5⟩:=pd_cells hat;have HV:=hidK hv;have Hz0:=hidK z0;have Hz2:=hidK z2;have Hz4:=hidK z4;obtain ⟨HT,hvl2,hvz,HVZ⟩:=qqb65;clear hvr hvz;clear hat hv z0 z2 z4;have hzk : ((xs.take k ++ (List.replicate len pdZ).drop k).map pdF)[k]? = some (pdF pdZ):=by
    exact qqa124
   obtain ⟨g,hg,hs⟩:=HP.out.st (KeptS.refl _ _) hzk;cases hg;have HS:=hidK hs;clear hs hzk HP;go_wp2_with fail;refine (toPod_any v.n v.c v.z va vl vc v.zs v.d v.p _ HT.out hvl2).mono ?_;rintro e w2 ⟨rfl,hG,hb2⟩;have HB2:=upB HB hb2;have h1 : StJ w.heap.size 6 69 (fun k => w.heap.size ≤ k) (fun k => wr.heap.size ≤ k) wr w2 ((xs.take k ++ (List.replicate len pdZ).drop k).map pdF) k [.s pdZ.n,.i pdZ.c,.s pdZ.z,.l pdZ.zs,.s pdZ.d,.i pdZ.p]:=HS.out.fresh hb2;have hL : LOwn w2 (wr.heap.size + 1 + 1 + 1) (fun k => w.heap.size ≤ k) w.heap.size v.zs (.slice (some ⟨wr.heap.size + 1 + 1 + 1,0,none⟩) vl vl):=by
    exact qqa120
   have HL:=hidK hL;clear hG hL;obtain ⟨q0,e0⟩:=h1.cell (i:=0) rfl;have f0:=h1.fro (k * 6);obtain ⟨q1,e1⟩:=h1.cell (i:=1) rfl;have f1:=h1.fro (k * 6 + 1);obtain ⟨q2,e2⟩:=h1.cell (i:=2) rfl;have f2:=h1.fro (k * 6 + 2);obtain ⟨q3,e3⟩:=h1.cell (i:=3) rfl;have f3:=h1.fro (k * 6 + 3);obtain ⟨q4,e4⟩:=h1.cell (i:=4) rfl;have f4:=h1.fro (k * 6 + 4);obtain ⟨q5,e5⟩:=h1.cell (i:=5) rfl;have f5:=h1.fro (k * 6 + 5);rw [Nat.add_zero] at e0;have HZ:=hidK (((((((h1).setS (i:=0) rfl v.n Hz0.out).setI (i:=1) rfl v.c).setS (i:=2) rfl v.z Hz2.out).setL (i:=3) rfl v.zs (fun _ => by show wr.heap.size ≤ _;omega) (Fv.Own.set_cell (u:=.l v.zs) (Fv.Own.set_cell (u:=.l v.zs) (Fv.Own.set_cell (u:=.l v.zs) (HL.out))))).setS (i:=4) rfl v.d Hz4.out).setI (i:=5) rfl v.p);clear h1 hb2 c0 c1 c2 c3 c4 c5 hb;go_wp2_with fail;refine ⟨⟨k + 1,by omega,by go_num,?_,set_below (Nat.le_refl _) (set_below (Nat.le_refl _) (set_below (Nat.le_refl _) (set_below (Nat.le_refl _) (set_below (Nat.le_refl _) (set_below (Nat.le_refl _) (HB2.out))))))⟩,by simp [intOf];omega⟩;obtain ⟨⟨cur,H,h2,-⟩,-,-⟩:=HZ.out;have h3 : (((xs.take k ++ (List.replicate len pdZ).drop k).map pdF).set k (pdF v)) = (xs.take (k + 1) ++ (List.replicate len pdZ).drop (k + 1)).map pdF:=by
    rw [← List.map_set,take_drop_set hZl HV.out]
   have h4 : ROwnAt _ w.heap.size 6 69 (((xs.take k ++ (List.replicate len pdZ).drop k).map pdF).set k (pdF v)) (fun k => w.heap.size ≤ k) cur H:=h2;exact qqa38
  ·exact qqa22

structure ClFit (c : Cl) : Prop where
 l1 : c.ns.length ≤ 1048576
 f1 : ∀ (j : Nat) x,c.ns[j]? = some x → x.zs.length ≤ 1048576
 l2 : c.ks.length ≤ 1048576
 l3 : c.vs.length ≤ 1048576
 f3 : ∀ (j : Nat) x,c.vs[j]? = some x → x.zs.length ≤ 1048576
 l4 : c.xs.length ≤ 1048576
 l5 : c.ps.length ≤ 1048576
 f5 : ∀ (j : Nat) x,c.ps[j]? = some x → x.zs.length ≤ 1048576

theorem szCluster_any (d : Ad) (c : Cl) (w : World) (hr : ClRow w d c.raw) :
  Calls Tryz.prog 5 #[.agg #[.slice d.a1 d.l1 d.c1,.slice d.a2 d.l2 d.c2,.slice d.a3 d.l3 d.c3,.slice d.a4 d.l4 d.c4,.slice d.a5 d.l5 d.c5,.int .i64 c.now],.int .i64 1048576] w (SzB 1048576 (ClFit c) w):=by
 obtain ⟨HR,HB⟩:=qqb70;clear hr;go_enter Tryz.func5,Tryz.ntmps5;go_wp2_with fail;refine (sznd_any d.a1 d.l1 d.c1 c.ns 1048576 _ (HR.out.n.below (HB.out.trans ((below1 _ _).mono HB.out.size))) qqd1 qqd1).mono ?_;rintro e w1 ⟨r1,rfl,hi,hb⟩;obtain ⟨HA0,hbx⟩:=slots1 hb;have Bk:=hidK HA0;replace HB:=upB HB hbx;clear hb hbx HA0;rcases hi with rfl | ⟨hr10,hr11,hz1⟩
 ·obtain ⟨k0,k1,k2,k3,k4,k5⟩:=cs6 Bk.out;have ltk_1:=lt_of_some Bk.out;go_wp2;go_ret;exact ⟨-1,rfl,.inl rfl,HB.out⟩
 have HZ1:=hidK hz1;clear hz1;obtain ⟨k0,k1,k2,k3,k4,k5⟩:=cs6 Bk.out;have ltk_1:=lt_of_some Bk.out;go_wp2_with fail;refine (szkd_any d.a2 d.l2 d.c2 c.ks r1 _ (HR.out.k.below HB.out) qqd1 qqd1).mono ?_;rintro e w2 ⟨r2,rfl,hi,hb⟩;clear k0 k1 k2 k3 k4 k5 ltk_1;replace Bk:=upK Bk hb;replace HB:=upB HB hb;clear hb;rcases hi with rfl | ⟨hr20,hr21,hz2⟩
 ·obtain ⟨k0,k1,k2,k3,k4,k5⟩:=cs6 Bk.out;have ltk_2:=lt_of_some Bk.out;go_wp2;go_ret;exact ⟨-1,rfl,.inl rfl,HB.out⟩
 have HZ2:=hidK hz2;clear hz2;obtain ⟨k0,k1,k2,k3,k4,k5⟩:=cs6 Bk.out;have ltk_2:=lt_of_some Bk.out;go_wp2_with fail;refine (szvd_any d.a3 d.l3 d.c3 c.vs r2 _ (HR.out.v.below HB.out) qqd1 qqd1).mono ?_;rintro e w3 ⟨r3,rfl,hi,hb⟩;clear k0 k1 k2 k3 k4 k5 ltk_2;replace Bk:=upK Bk hb;replace HB:=upB HB hb;clear hb;rcases hi with rfl | ⟨hr30,hr31,hz3⟩
 ·obtain ⟨k0,k1,k2,k3,k4,k5⟩:=cs6 Bk.out;have ltk_3:=lt_of_some Bk.out;go_wp2;go_ret;exact ⟨-1,rfl,.inl rfl,HB.out⟩
 have HZ3:=hidK hz3;clear hz3;obtain ⟨k0,k1,k2,k3,k4,k5⟩:=cs6 Bk.out;have ltk_3:=lt_of_some Bk.out;go_wp2_with fail;refine (szxd_any d.a4 d.l4 d.c4 c.xs r3 _ (HR.out.x.below HB.out) qqd1 qqd1).mono ?_;rintro e w4 ⟨r4,rfl,hi,hb⟩;clear k0 k1 k2 k3 k4 k5 ltk_3;replace Bk:=upK Bk hb;replace HB:=upB HB hb;clear hb;rcases hi with rfl | ⟨hr40,hr41,hz4⟩
 ·obtain ⟨k0,k1,k2,k3,k4,k5⟩:=cs6 Bk.out;have ltk_4:=lt_of_some Bk.out;go_wp2;go_ret;exact ⟨-1,rfl,.inl rfl,HB.out⟩
 have HZ4:=hidK hz4;clear hz4;obtain ⟨k0,k1,k2,k3,k4,k5⟩:=cs6 Bk.out;have ltk_4:=lt_of_some Bk.out;go_wp2_with fail;refine (szpd_any d.a5 d.l5 d.c5 c.ps r4 _ (HR.out.p.below HB.out) qqd1 qqd1).mono ?_;rintro e w5 ⟨r5,rfl,hi,hb⟩;clear k0 k1 k2 k3 k4 k5 ltk_4;replace Bk:=upK Bk hb;replace HB:=upB HB hb;clear hb;rcases hi with rfl | ⟨hr50,hr51,hz5⟩
 ·obtain ⟨k0,k1,k2,k3,k4,k5⟩:=cs6 Bk.out;have ltk_5:=lt_of_some Bk.out;go_wp2;go_ret;exact ⟨-1,rfl,.inl rfl,HB.out⟩
 have HZ5:=hidK hz5;clear hz5;go_wp2;go_ret;refine ⟨r5,rfl,.inr ⟨by omega,by omega,?_⟩,HB.out⟩;have e1 : c.ns.length = d.l1:=by simpa using (show (c.ns.map ndF).length = d.l1 from HR.out.n.1)
 have e2 : c.ks.length = d.l2:=by simpa using (show (c.ks.map kdF).length = d.l2 from HR.out.k.1)
 have e3 : c.vs.length = d.l3:=by simpa using (show (c.vs.map vdF).length = d.l3 from HR.out.v.1)
 have e4 : c.xs.length = d.l4:=by simpa using (show (c.xs.map xdF).length = d.l4 from HR.out.x.1)
 have e5 : c.ps.length = d.l5:=by simpa using (show (c.ps.map pdF).length = d.l5 from HR.out.p.1)
 exact ⟨by rw [e1];exact HZ1.out.1,HZ1.out.2,by rw [e2];exact HZ2.out,by rw [e3];exact HZ3.out.1,HZ3.out.2,by rw [e4];exact HZ4.out,by rw [e5];exact HZ5.out.1,HZ5.out.2⟩

theorem toCluster_any (d : Ad) (c : Cl) (w : World) (hr : ClRow w d c.raw) (hf : ClFit c) :
  Calls Tryz.prog 7 #[.agg #[.slice d.a1 d.l1 d.c1,.slice d.a2 d.l2 d.c2,.slice d.a3 d.l3 d.c3,.slice d.a4 d.l4 d.c4,.slice d.a5 d.l5 d.c5,.int .i64 c.now]] w fun e w' => ∃ d' : Ad,e = .returned (.agg #[.slice d'.a1 d'.l1 d'.c1,.slice d'.a2 d'.l2 d'.c2,.slice d'.a3 d'.l3 d'.c3,.slice d'.a4 d'.l4 d'.c4,.slice d'.a5 d'.l5 d'.c5,.int .i64 c.now]) ∧ ClOwn w' d' c.raw (fun k => w.heap.size ≤ k) ∧ Below w.heap.size w w':=by
 have HR:=hidK hr;have HF:=hidK hf;have e1 : c.ns.length = d.l1:=by simpa using (show (c.ns.map ndF).length = d.l1 from hr.n.1)
 have hL1 : d.l1 ≤ 1048576:=by rw [← e1];exact hf.l1
 have e2 : c.ks.length = d.l2:=by simpa using (show (c.ks.map kdF).length = d.l2 from hr.k.1)
 have hL2 : d.l2 ≤ 1048576:=by rw [← e2];exact hf.l2
 have e3 : c.vs.length = d.l3:=by simpa using (show (c.vs.map vdF).length = d.l3 from hr.v.1)
 have hL3 : d.l3 ≤ 1048576:=by rw [← e3];exact hf.l3
 have e4 : c.xs.length = d.l4:=by simpa using (show (c.xs.map xdF).length = d.l4 from hr.x.1)
 have hL4 : d.l4 ≤ 1048576:=by rw [← e4];exact hf.l4
 have e5 : c.ps.length = d.l5:=by simpa using (show (c.ps.map pdF).length = d.l5 from hr.p.1)
 have hL5 : d.l5 ≤ 1048576:=by rw [← e5];exact hf.l5
 clear hr hf e1 e2 e3 e4 e5;obtain ⟨X0,hX0⟩ : ∃ X,X = ((w.alloc (.cells #[.slice d.a1 d.l1 d.c1,.slice d.a2 d.l2 d.c2,.slice d.a3 d.l3 d.c3,.slice d.a4 d.l4 d.c4,.slice d.a5 d.l5 d.c5,.int .i64 c.now] 28)).alloc (.cells #[.slice none 0 0,.slice none 0 0,.slice none 0 0,.slice none 0 0,.slice none 0 0,.int .i64 0] 36)).alloc (.cells #[.slice none 0 0,.slice none 0 0,.slice none 0 0,.slice none 0 0,.slice none 0 0,.int .i64 0] 36):=⟨_,rfl⟩;have B0 : Hid (Below w.heap.size w X0):=by rw [hX0];exact below3 _ _ _ _
 have bx0 : Hid (X0.heap[w.heap.size]? = some (.cells #[.slice d.a1 d.l1 d.c1,.slice d.a2 d.l2 d.c2,.slice d.a3 d.l3 d.c3,.slice d.a4 d.l4 d.c4,.slice d.a5 d.l5 d.c5,.int .i64 c.now] 28 (0,0))):=by rw [hX0];exact heap3_0 _ _ _ _
 have br0 : Hid (X0.heap[w.heap.size + 1]? = some (.cells #[.slice none 0 0,.slice none 0 0,.slice none 0 0,.slice none 0 0,.slice none 0 0,.int .i64 0] 36 (0,0))):=by rw [hX0];exact heap3_1 _ _ _ _
 have bl0 : Hid (X0.heap[w.heap.size + 1 + 1]? = some (.cells #[.slice none 0 0,.slice none 0 0,.slice none 0 0,.slice none 0 0,.slice none 0 0,.int .i64 0] 36 (0,0))):=by rw [hX0];exact heap3_2 _ _ _ _
 have hs0 : w.heap.size + 1 + 1 < X0.heap.size:=lt_of_some bl0.out;go_enter Tryz.func7,Tryz.ntmps7;go_wp2_with fail;rw [← hX0];clear hX0;refine (tond_any d.a1 d.l1 d.c1 c.ns _ (HR.out.n.below B0.out) hL1 HF.out.f1).mono ?_;rintro e w1 ⟨rfl,ho,hb⟩;have hsz1:=hb.size;have gx:=(hb.block _ (lt_of_some bx0.out)).trans bx0.out;have gr:=(hb.block _ (lt_of_some br0.out)).trans br0.out;have gl:=(hb.block _ (lt_of_some bl0.out)).trans bl0.out;have gB:=B0.out.trans (hb.mono B0.out.size);have P1:=hidK ho;clear ho hb bx0 br0 bl0 B0;have pl : w1.cell? ⟨w.heap.size + 1 + 1,0,none⟩ = some (.slice none 0 0):=cellK gl 0;have fl:=froK gl 0;have px : w1.cell? ⟨w.heap.size,1,none⟩ = some (.slice d.a2 d.l2 d.c2):=cellK gx 1;obtain ⟨X1,hX1⟩ : ∃ X,X = w1.setCell ⟨w.heap.size + 1 + 1,0,none⟩ (.slice (some ⟨X0.heap.size,0,none⟩) d.l1 d.l1):=⟨_,rfl⟩;have hxa1 : X1.heap.size ≤ w1.heap.size:=by rw [hX1];simp [World.setCell]
 have hxb1 : w1.heap.size ≤ X1.heap.size:=by rw [hX1];simp [World.setCell]
 have bx1 : Hid (X1.heap[w.heap.size]? = some (.cells #[.slice d.a1 d.l1 d.c1,.slice d.a2 d.l2 d.c2,.slice d.a3 d.l3 d.c3,.slice d.a4 d.l4 d.c4,.slice d.a5 d.l5 d.c5,.int .i64 c.now] 28 (0,0))):=by rw [hX1];exact set_keeps qqd1 gx
 have br1 : Hid (X1.heap[w.heap.size + 1]? = some (.cells #[.slice none 0 0,.slice none 0 0,.slice none 0 0,.slice none 0 0,.slice none 0 0,.int .i64 0] 36 (0,0))):=by rw [hX1];exact set_keeps qqd1 gr
 have bl1 : Hid (X1.heap[w.heap.size + 1 + 1]? = some (.cells #[.slice (some ⟨X0.heap.size,0,none⟩) d.l1 d.l1,.slice none 0 0,.slice none 0 0,.slice none 0 0,.slice none 0 0,.int .i64 0] 36 (0,0))):=by rw [hX1];have:=block_set (i:=0) gl (.slice (some ⟨X0.heap.size,0,none⟩) d.l1 d.l1);simpa [Hid] using this
 have B1 : Hid (Below w.heap.size w X1):=by rw [hX1];exact set_below qqd1 gB
 have O1:=hidK (P1.out.keep (w':=X1) (fun k hk s => by rw [hX1];exact Below.heap_setCell _ _ _ _ (show k ≠ w.heap.size + 1 + 1 by have h9 : X0.heap.size ≤ k:=s;omega)) (fun k hk s => (⟨s,hk⟩ : X0.heap.size ≤ k ∧ k < w1.heap.size)));clear gx gr gl gB P1;go_wp2_with fail;rw [← hX1];clear hX1;clear pl fl px;refine (tokd_any d.a2 d.l2 d.c2 c.ks _ (HR.out.k.below B1.out) hL2).mono ?_;rintro e w2 ⟨rfl,ho,hb⟩;have hsz2:=hb.size;have gx:=(hb.block _ (lt_of_some bx1.out)).trans bx1.out;have gr:=(hb.block _ (lt_of_some br1.out)).trans br1.out;have gl:=(hb.block _ (lt_of_some bl1.out)).trans bl1.out;have gB:=B1.out.trans (hb.mono B1.out.size);have P2:=hidK ho;have Q1:=hidK (O1.out.below hb);clear ho hb bx1 br1 bl1 B1 O1;have pl : w2.cell? ⟨w.heap.size + 1 + 1,1,none⟩ = some (.slice none 0 0):=cellK gl 1;have fl:=froK gl 1;have px : w2.cell? ⟨w.heap.size,2,none⟩ = some (.slice d.a3 d.l3 d.c3):=cellK gx 2;obtain ⟨X2,hX2⟩ : ∃ X,X = w2.setCell ⟨w.heap.size + 1 + 1,1,none⟩ (.slice (some ⟨X1.heap.size,0,none⟩) d.l2 d.l2):=⟨_,rfl⟩;have hxa2 : X2.heap.size ≤ w2.heap.size:=by rw [hX2];simp [World.setCell]
 have hxb2 : w2.heap.size ≤ X2.heap.size:=by rw [hX2];simp [World.setCell]
 have bx2 : Hid (X2.heap[w.heap.size]? = some (.cells #[.slice d.a1 d.l1 d.c1,.slice d.a2 d.l2 d.c2,.slice d.a3 d.l3 d.c3,.slice d.a4 d.l4 d.c4,.slice d.a5 d.l5 d.c5,.int .i64 c.now] 28 (0,0))):=by rw [hX2];exact set_keeps qqd1 gx
 have br2 : Hid (X2.heap[w.heap.size + 1]? = some (.cells #[.slice none 0 0,.slice none 0 0,.slice none 0 0,.slice none 0 0,.slice none 0 0,.int .i64 0] 36 (0,0))):=by rw [hX2];exact set_keeps qqd1 gr
 have bl2 : Hid (X2.heap[w.heap.size + 1 + 1]? = some (.cells #[.slice (some ⟨X0.heap.size,0,none⟩) d.l1 d.l1,.slice (some ⟨X1.heap.size,0,none⟩) d.l2 d.l2,.slice none 0 0,.slice none 0 0,.slice none 0 0,.int .i64 0] 36 (0,0))):=by rw [hX2];have:=block_set (i:=1) gl (.slice (some ⟨X1.heap.size,0,none⟩) d.l2 d.l2);simpa [Hid] using this
 have B2 : Hid (Below w.heap.size w X2):=by rw [hX2];exact set_below qqd1 gB
 have O1:=hidK (Q1.out.keep (w':=X2) (fun k hk s => by rw [hX2];exact Below.heap_setCell _ _ _ _ (show k ≠ w.heap.size + 1 + 1 by have h9 : X0.heap.size ≤ k:=s.1;omega)) (fun k hk s => s));have O2:=hidK (P2.out.keep (w':=X2) (fun k hk s => by rw [hX2];exact Below.heap_setCell _ _ _ _ (show k ≠ w.heap.size + 1 + 1 by have h9 : X1.heap.size ≤ k:=s;omega)) (fun k hk s => (⟨s,hk⟩ : X1.heap.size ≤ k ∧ k < w2.heap.size)));clear gx gr gl gB P2 Q1;go_wp2_with fail;rw [← hX2];clear hX2;clear pl fl px;refine (tovd_any d.a3 d.l3 d.c3 c.vs _ (HR.out.v.below B2.out) hL3 HF.out.f3).mono ?_;rintro e w3 ⟨rfl,ho,hb⟩;have hsz3:=hb.size;have gx:=(hb.block _ (lt_of_some bx2.out)).trans bx2.out;have gr:=(hb.block _ (lt_of_some br2.out)).trans br2.out;have gl:=(hb.block _ (lt_of_some bl2.out)).trans bl2.out;have gB:=B2.out.trans (hb.mono B2.out.size);have P3:=hidK ho;have Q1:=hidK (O1.out.below hb);have Q2:=hidK (O2.out.below hb);clear ho hb bx2 br2 bl2 B2 O1 O2;have pl : w3.cell? ⟨w.heap.size + 1 + 1,2,none⟩ = some (.slice none 0 0):=cellK gl 2;have fl:=froK gl 2;have px : w3.cell? ⟨w.heap.size,3,none⟩ = some (.slice d.a4 d.l4 d.c4):=cellK gx 3;obtain ⟨X3,hX3⟩ : ∃ X,X = w3.setCell ⟨w.heap.size + 1 + 1,2,none⟩ (.slice (some ⟨X2.heap.size,0,none⟩) d.l3 d.l3):=⟨_,rfl⟩;have hxa3 : X3.heap.size ≤ w3.heap.size:=by rw [hX3];simp [World.setCell]
 have hxb3 : w3.heap.size ≤ X3.heap.size:=by rw [hX3];simp [World.setCell]
 have bx3 : Hid (X3.heap[w.heap.size]? = some (.cells #[.slice d.a1 d.l1 d.c1,.slice d.a2 d.l2 d.c2,.slice d.a3 d.l3 d.c3,.slice d.a4 d.l4 d.c4,.slice d.a5 d.l5 d.c5,.int .i64 c.now] 28 (0,0))):=by rw [hX3];exact set_keeps qqd1 gx
 have br3 : Hid (X3.heap[w.heap.size + 1]? = some (.cells #[.slice none 0 0,.slice none 0 0,.slice none 0 0,.slice none 0 0,.slice none 0 0,.int .i64 0] 36 (0,0))):=by rw [hX3];exact set_keeps qqd1 gr
 have bl3 : Hid (X3.heap[w.heap.size + 1 + 1]? = some (.cells #[.slice (some ⟨X0.heap.size,0,none⟩) d.l1 d.l1,.slice (some ⟨X1.heap.size,0,none⟩) d.l2 d.l2,.slice (some ⟨X2.heap.size,0,none⟩) d.l3 d.l3,.slice none 0 0,.slice none 0 0,.int .i64 0] 36 (0,0))):=by rw [hX3];have:=block_set (i:=2) gl (.slice (some ⟨X2.heap.size,0,none⟩) d.l3 d.l3);simpa [Hid] using this
 have B3 : Hid (Below w.heap.size w X3):=by rw [hX3];exact set_below qqd1 gB
 have O1:=hidK (Q1.out.keep (w':=X3) (fun k hk s => by rw [hX3];exact Below.heap_setCell _ _ _ _ (show k ≠ w.heap.size + 1 + 1 by have h9 : X0.heap.size ≤ k:=s.1;omega)) (fun k hk s => s));have O2:=hidK (Q2.out.keep (w':=X3) (fun k hk s => by rw [hX3];exact Below.heap_setCell _ _ _ _ (show k ≠ w.heap.size + 1 + 1 by have h9 : X1.heap.size ≤ k:=s.1;omega)) (fun k hk s => s));have O3:=hidK (P3.out.keep (w':=X3) (fun k hk s => by rw [hX3];exact Below.heap_setCell _ _ _ _ (show k ≠ w.heap.size + 1 + 1 by have h9 : X2.heap.size ≤ k:=s;omega)) (fun k hk s => (⟨s,hk⟩ : X2.heap.size ≤ k ∧ k < w3.heap.size)));clear gx gr gl gB P3 Q1 Q2;go_wp2_with fail;rw [← hX3];clear hX3;clear pl fl px;refine (toxd_any d.a4 d.l4 d.c4 c.xs _ (HR.out.x.below B3.out) hL4).mono ?_;rintro e w4 ⟨rfl,ho,hb⟩;have hsz4:=hb.size;have gx:=(hb.block _ (lt_of_some bx3.out)).trans bx3.out;have gr:=(hb.block _ (lt_of_some br3.out)).trans br3.out;have gl:=(hb.block _ (lt_of_some bl3.out)).trans bl3.out;have gB:=B3.out.trans (hb.mono B3.out.size);have P4:=hidK ho;have Q1:=hidK (O1.out.below hb);have Q2:=hidK (O2.out.below hb);have Q3:=hidK (O3.out.below hb);clear ho hb bx3 br3 bl3 B3 O1 O2 O3;have pl : w4.cell? ⟨w.heap.size + 1 + 1,3,none⟩ = some (.slice none 0 0):=cellK gl 3;have fl:=froK gl 3;have px : w4.cell? ⟨w.heap.size,4,none⟩ = some (.slice d.a5 d.l5 d.c5):=cellK gx 4;obtain ⟨X4,hX4⟩ : ∃ X,X = w4.setCell ⟨w.heap.size + 1 + 1,3,none⟩ (.slice (some ⟨X3.heap.size,0,none⟩) d.l4 d.l4):=⟨_,rfl⟩;have hxa4 : X4.heap.size ≤ w4.heap.size:=by rw [hX4];simp [World.setCell]
 have hxb4 : w4.heap.size ≤ X4.heap.size:=by rw [hX4];simp [World.setCell]
 have bx4 : Hid (X4.heap[w.heap.size]? = some (.cells #[.slice d.a1 d.l1 d.c1,.slice d.a2 d.l2 d.c2,.slice d.a3 d.l3 d.c3,.slice d.a4 d.l4 d.c4,.slice d.a5 d.l5 d.c5,.int .i64 c.now] 28 (0,0))):=by rw [hX4];exact set_keeps qqd1 gx
 have br4 : Hid (X4.heap[w.heap.size + 1]? = some (.cells #[.slice none 0 0,.slice none 0 0,.slice none 0 0,.slice none 0 0,.slice none 0 0,.int .i64 0] 36 (0,0))):=by rw [hX4];exact set_keeps qqd1 gr
 have bl4 : Hid (X4.heap[w.heap.size + 1 + 1]? = some (.cells #[.slice (some ⟨X0.heap.size,0,none⟩) d.l1 d.l1,.slice (some ⟨X1.heap.size,0,none⟩) d.l2 d.l2,.slice (some ⟨X2.heap.size,0,none⟩) d.l3 d.l3,.slice (some ⟨X3.heap.size,0,none⟩) d.l4 d.l4,.slice none 0 0,.int .i64 0] 36 (0,0))):=by rw [hX4];have:=block_set (i:=3) gl (.slice (some ⟨X3.heap.size,0,none⟩) d.l4 d.l4);simpa [Hid] using this
 have B4 : Hid (Below w.heap.size w X4):=by rw [hX4];exact set_below qqd1 gB
 have O1:=hidK (Q1.out.keep (w':=X4) (fun k hk s => by rw [hX4];exact Below.heap_setCell _ _ _ _ (show k ≠ w.heap.size + 1 + 1 by have h9 : X0.heap.size ≤ k:=s.1;omega)) (fun k hk s => s));have O2:=hidK (Q2.out.keep (w':=X4) (fun k hk s => by rw [hX4];exact Below.heap_setCell _ _ _ _ (show k ≠ w.heap.size + 1 + 1 by have h9 : X1.heap.size ≤ k:=s.1;omega)) (fun k hk s => s));have O3:=hidK (Q3.out.keep (w':=X4) (fun k hk s => by rw [hX4];exact Below.heap_setCell _ _ _ _ (show k ≠ w.heap.size + 1 + 1 by have h9 : X2.heap.size ≤ k:=s.1;omega)) (fun k hk s => s));have O4:=hidK (P4.out.keep (w':=X4) (fun k hk s => by rw [hX4];exact Below.heap_setCell _ _ _ _ (show k ≠ w.heap.size + 1 + 1 by have h9 : X3.heap.size ≤ k:=s;omega)) (fun k hk s => (⟨s,hk⟩ : X3.heap.size ≤ k ∧ k < w4.heap.size)));clear gx gr gl gB P4 Q1 Q2 Q3;go_wp2_with fail;rw [← hX4];clear hX4;clear pl fl px;refine (topd_any d.a5 d.l5 d.c5 c.ps _ (HR.out.p.below B4.out) hL5 HF.out.f5).mono ?_;rintro e w5 ⟨rfl,ho,hb⟩;have hsz5:=hb.size;have gx:=(hb.block _ (lt_of_some bx4.out)).trans bx4.out;have gr:=(hb.block _ (lt_of_some br4.out)).trans br4.out;have gl:=(hb.block _ (lt_of_some bl4.out)).trans bl4.out;have gB:=B4.out.trans (hb.mono B4.out.size);have P5:=hidK ho;have Q1:=hidK (O1.out.below hb);have Q2:=hidK (O2.out.below hb);have Q3:=hidK (O3.out.below hb);have Q4:=hidK (O4.out.below hb);clear ho hb bx4 br4 bl4 B4 O1 O2 O3 O4;have l4 : w5.cell? ⟨w.heap.size + 1 + 1,4,none⟩ = some (.slice none 0 0):=cellK gl 4;have l5 : w5.cell? ⟨w.heap.size + 1 + 1,5,none⟩ = some (.int .i64 0):=cellK gl 5;have l0 : w5.cell? ⟨w.heap.size + 1 + 1,0,none⟩ = some (.slice (some ⟨X0.heap.size,0,none⟩) d.l1 d.l1):=cellK gl 0;have l1 : w5.cell? ⟨w.heap.size + 1 + 1,1,none⟩ = some (.slice (some ⟨X1.heap.size,0,none⟩) d.l2 d.l2):=cellK gl 1;have l2 : w5.cell? ⟨w.heap.size + 1 + 1,2,none⟩ = some (.slice (some ⟨X2.heap.size,0,none⟩) d.l3 d.l3):=cellK gl 2;have l3 : w5.cell? ⟨w.heap.size + 1 + 1,3,none⟩ = some (.slice (some ⟨X3.heap.size,0,none⟩) d.l4 d.l4):=cellK gl 3;have fl0:=froK gl 0;have r0 : w5.cell? ⟨w.heap.size + 1,0,none⟩ = some (.slice none 0 0):=cellK gr 0;have fr0:=froK gr 0;have fl1:=froK gl 1;have r1 : w5.cell? ⟨w.heap.size + 1,1,none⟩ = some (.slice none 0 0):=cellK gr 1;have fr1:=froK gr 1;have fl2:=froK gl 2;have r2 : w5.cell? ⟨w.heap.size + 1,2,none⟩ = some (.slice none 0 0):=cellK gr 2;have fr2:=froK gr 2;have fl3:=froK gl 3;have r3 : w5.cell? ⟨w.heap.size + 1,3,none⟩ = some (.slice none 0 0):=cellK gr 3;have fr3:=froK gr 3;have fl4:=froK gl 4;have r4 : w5.cell? ⟨w.heap.size + 1,4,none⟩ = some (.slice none 0 0):=cellK gr 4;have fr4:=froK gr 4;have fl5:=froK gl 5;have r5 : w5.cell? ⟨w.heap.size + 1,5,none⟩ = some (.int .i64 0):=cellK gr 5;have fr5:=froK gr 5;have px : w5.cell? ⟨w.heap.size,5,none⟩ = some (.int .i64 c.now):=cellK gx 5;have GB:=hidK gB;clear gx gr gl gB;go_wp2;refine bodyPost_ret (v:=.agg #[.slice (some ⟨X0.heap.size,0,none⟩) d.l1 d.l1,.slice (some ⟨X1.heap.size,0,none⟩) d.l2 d.l2,.slice (some ⟨X2.heap.size,0,none⟩) d.l3 d.l3,.slice (some ⟨X3.heap.size,0,none⟩) d.l4 d.l4,.slice (some ⟨X4.heap.size,0,none⟩) d.l5 d.l5,.int .i64 c.now]) (by simp [results,Tryz.results7,go_sem, *]) rfl ⟨⟨some ⟨X0.heap.size,0,none⟩,d.l1,d.l1,some ⟨X1.heap.size,0,none⟩,d.l2,d.l2,some ⟨X2.heap.size,0,none⟩,d.l3,d.l3,some ⟨X3.heap.size,0,none⟩,d.l4,d.l4,some ⟨X4.heap.size,0,none⟩,d.l5,d.l5⟩,rfl,?_,set_below (show w.heap.size ≤ w.heap.size + 1 by omega) (set_below (show w.heap.size ≤ w.heap.size + 1 by omega) (set_below (show w.heap.size ≤ w.heap.size + 1 by omega) (set_below (show w.heap.size ≤ w.heap.size + 1 by omega) (set_below (show w.heap.size ≤ w.heap.size + 1 by omega) (set_below (show w.heap.size ≤ w.heap.size + 1 by omega) (set_below (show w.heap.size ≤ w.heap.size + 1 + 1 by omega) (set_below (show w.heap.size ≤ w.heap.size + 1 + 1 by omega) (GB.out))))))))⟩
 have keep : ∀ k,w.heap.size + 1 + 1 < k → ∀ (W : World),True → (W.heap[k]? = W.heap[k]?):=fun _ _ _ _ => rfl;clear keep;have same : ∀ k,w.heap.size + 1 + 1 < k → ((((((((w5.setCell ⟨w.heap.size + 1 + 1,4,none⟩ (.slice (some ⟨X4.heap.size,0,none⟩) d.l5 d.l5)).setCell ⟨w.heap.size + 1 + 1,5,none⟩ (.int .i64 c.now)).setCell ⟨w.heap.size + 1,0,none⟩ (.slice (some ⟨X0.heap.size,0,none⟩) d.l1 d.l1)).setCell ⟨w.heap.size + 1,1,none⟩ (.slice (some ⟨X1.heap.size,0,none⟩) d.l2 d.l2)).setCell ⟨w.heap.size + 1,2,none⟩ (.slice (some ⟨X2.heap.size,0,none⟩) d.l3 d.l3)).setCell ⟨w.heap.size + 1,3,none⟩ (.slice (some ⟨X3.heap.size,0,none⟩) d.l4 d.l4)).setCell ⟨w.heap.size + 1,4,none⟩ (.slice (some ⟨X4.heap.size,0,none⟩) d.l5 d.l5)).setCell ⟨w.heap.size + 1,5,none⟩ (.int .i64 c.now)).heap[k]? = w5.heap[k]?:=fun k hk => by
  rw [Below.heap_setCell _ _ _ _ (show k ≠ w.heap.size + 1 by omega),Below.heap_setCell _ _ _ _ (show k ≠ w.heap.size + 1 by omega),Below.heap_setCell _ _ _ _ (show k ≠ w.heap.size + 1 by omega),Below.heap_setCell _ _ _ _ (show k ≠ w.heap.size + 1 by omega),Below.heap_setCell _ _ _ _ (show k ≠ w.heap.size + 1 by omega),Below.heap_setCell _ _ _ _ (show k ≠ w.heap.size + 1 by omega),Below.heap_setCell _ _ _ _ (show k ≠ w.heap.size + 1 + 1 by omega),Below.heap_setCell _ _ _ _ (show k ≠ w.heap.size + 1 + 1 by omega)]
 refine ⟨fun k => if k < w1.heap.size then 1 else if k < w2.heap.size then 2 else if k < w3.heap.size then 3 else if k < w4.heap.size then 4 else 5,?_,?_,?_,?_,?_⟩
 ·refine Q1.out.keep (fun k hk s => same k (by have h9 : X0.heap.size ≤ k:=s.1;omega)) (fun k hk s => ⟨?_,?_⟩)
  ·have h9 : X0.heap.size ≤ k:=s.1;show w.heap.size ≤ k;omega
  ·have h9 : X0.heap.size ≤ k:=s.1;have h8 : k < w1.heap.size:=s.2;show (if k < w1.heap.size then 1 else if k < w2.heap.size then 2 else if k < w3.heap.size then 3 else if k < w4.heap.size then 4 else 5) = 1;rw [if_pos h8]
 ·refine Q2.out.keep (fun k hk s => same k (by have h9 : X1.heap.size ≤ k:=s.1;omega)) (fun k hk s => ⟨?_,?_⟩)
  ·have h9 : X1.heap.size ≤ k:=s.1;show w.heap.size ≤ k;omega
  ·have h9 : X1.heap.size ≤ k:=s.1;have h8 : k < w2.heap.size:=s.2;show (if k < w1.heap.size then 1 else if k < w2.heap.size then 2 else if k < w3.heap.size then 3 else if k < w4.heap.size then 4 else 5) = 2;rw [if_neg qqd1];rw [if_pos h8]
 ·refine Q3.out.keep (fun k hk s => same k (by have h9 : X2.heap.size ≤ k:=s.1;omega)) (fun k hk s => ⟨?_,?_⟩)
  ·have h9 : X2.heap.size ≤ k:=s.1;show w.heap.size ≤ k;omega
  ·have h9 : X2.heap.size ≤ k:=s.1;have h8 : k < w3.heap.size:=s.2;show (if k < w1.heap.size then 1 else if k < w2.heap.size then 2 else if k < w3.heap.size then 3 else if k < w4.heap.size then 4 else 5) = 3;rw [if_neg qqd1];rw [if_neg qqd1];rw [if_pos h8]
 ·refine Q4.out.keep (fun k hk s => same k (by have h9 : X3.heap.size ≤ k:=s.1;omega)) (fun k hk s => ⟨?_,?_⟩)
  ·have h9 : X3.heap.size ≤ k:=s.1;show w.heap.size ≤ k;omega
  ·have h9 : X3.heap.size ≤ k:=s.1;have h8 : k < w4.heap.size:=s.2;show (if k < w1.heap.size then 1 else if k < w2.heap.size then 2 else if k < w3.heap.size then 3 else if k < w4.heap.size then 4 else 5) = 4;rw [if_neg qqd1];rw [if_neg qqd1];rw [if_neg qqd1];rw [if_pos h8]
 ·refine P5.out.keep (fun k hk s => same k (by have h9 : X4.heap.size ≤ k:=s;omega)) (fun k hk s => ⟨?_,?_⟩)
  ·have h9 : X4.heap.size ≤ k:=s;show w.heap.size ≤ k;omega
  ·have h9 : X4.heap.size ≤ k:=s;show (if k < w1.heap.size then 1 else if k < w2.heap.size then 2 else if k < w3.heap.size then 3 else if k < w4.heap.size then 4 else 5) = 5;rw [if_neg qqd1];rw [if_neg qqd1];rw [if_neg qqd1];rw [if_neg qqd1];skip

def LFr (w : World) (h : Nat) (S : Nat → Prop) (zs : List ByteArray) (v : Value) : Prop :=
 ∃ a len cap,v = .slice a len cap ∧ zs.length = len ∧ len ≤ cap ∧ cap ≤ 9223372036854775807 ∧ (∀ (j : Nat) x,zs[j]? = some x → x.size ≤ 9223372036854775807) ∧
  (zs = [] ∨ (a = some ⟨h,0,none⟩ ∧ S h ∧ ∃ cu,w.heap[h]? = some (.cells cu 9 (0,0)) ∧ ∀ (j : Nat) x,zs[j]? = some x → cu[j]? = some (.string x)))
theorem LFr.keep {w w' : World} {h : Nat} {S S' : Nat → Prop} {zs : List ByteArray} {v : Value} (k : LFr w h S zs v) (hk : ∀ cu,S h → w.heap[h]? = some (.cells cu 9 (0,0)) → w'.heap[h]? = w.heap[h]?) (hs : h < w.heap.size → S h → S' h) : LFr w' h S' zs v:=by
 obtain ⟨a',l',c',h1,h2,h3,h4,h5,h6⟩:=k;refine ⟨a',l',c',h1,h2,h3,h4,h5,h6.imp id ?_⟩;rintro ⟨q1,q2,cu,q4,q5⟩;exact ⟨q1,hs (lt_of_some q4) q2,cu,(hk cu q2 q4).trans q4,q5⟩
def Fv.Fr (w : World) (h : Nat) (S : Nat → Prop) : Fv → Value → Prop
 | .s t,v => v = .string t ∧ t.size ≤ 9223372036854775807
 | .i n,v => v = .int .i64 n
 | .b x,v => v = .bool x
 | .l zs,v => LFr w h S zs v
theorem Fv.Fr.keep {w w' : World} {h : Nat} {S S' : Nat → Prop} {f : Fv} {v : Value} (k : f.Fr w h S v) (hk : ∀ cu,S h → w.heap[h]? = some (.cells cu 9 (0,0)) → w'.heap[h]? = w.heap[h]?) (hs : h < w.heap.size → S h → S' h) : f.Fr w' h S' v:=by
 cases f with
 | l zs => exact LFr.keep k hk hs
 | _ => exact k
theorem Fv.Fr.own {w : World} {h g : Nat} {S : Nat → Prop} {f : Fv} {v : Value} {cur : Array Value} {T : TypeId} (k : f.Fr w h S v) (hg : w.heap[g]? = some (.cells cur T (0,0))) (hT : ¬ T = 9) : f.Own w h S g v:=by
 cases f with
 | l zs =>
  obtain ⟨a',l',c',h1,h2,h3,h4,h5,h6⟩:=k;refine ⟨a',l',c',h1,h2,h3,h4,h5,h6.imp id ?_⟩;rintro ⟨q1,q2,cu,q4,q5⟩;refine ⟨q1,q2,?_,cu,q4,q5⟩;rintro rfl;rw [hg] at q4
  cases q4
  exact hT rfl
 | _ => exact k
theorem Fv.Own.fr {w : World} {h g : Nat} {S : Nat → Prop} {f : Fv} {v : Value} (k : f.Own w h S g v) : f.Fr w h S v:=by
 cases f with
 | l zs =>
  obtain ⟨a',l',c',h1,h2,h3,h4,h5,h6⟩:=k;refine ⟨a',l',c',h1,h2,h3,h4,h5,h6.imp id ?_⟩;rintro ⟨q1,q2,q3,cu,q4,q5⟩;exact ⟨q1,q2,cu,q4,q5⟩
 | _ => exact k
theorem Fv.Fr.one {w : World} {h : Nat} {S : Nat → Prop} {f : Fv} {v : Value} (k : f.Fr w h S v) : v.oneCell' = true:=by
 cases f with
 | l zs => obtain ⟨a',l',c',rfl,_⟩:=k;rfl
 | s t => obtain ⟨rfl,_⟩:=k;rfl
 | i n => cases (show v = .int .i64 n from k);rfl
 | b x => cases (show v = .bool x from k);rfl

structure VRecs (w : World) (S : Nat → Prop) (m : Nat) (rs : List (List Fv)) (vss : List (List Value)) (H : Nat → Nat → Nat) : Prop where
 len : vss.length = rs.length
 all : ∀ (j : Nat) vs,vss[j]? = some vs → vs.length = m
 rl : ∀ (j : Nat) r,rs[j]? = some r → r.length = m
 cell : ∀ (j : Nat) r vs,rs[j]? = some r → vss[j]? = some vs → ∀ (i : Nat) f,r[i]? = some f → ∃ v,vs[i]? = some v ∧ f.Fr w (H j i) S v
 inj : ∀ (j : Nat) r (i : Nat) zs (j' : Nat) r' (i' : Nat) zs',rs[j]? = some r → r[i]? = some (.l zs) → zs ≠ [] → rs[j']? = some r' → r'[i']? = some (.l zs') → zs' ≠ [] → H j i = H j' i' → j = j' ∧ i = i'

section
variable {w w' : World} {S S' : Nat → Prop} {m : Nat} {rs : List (List Fv)} {vss : List (List Value)} {H : Nat → Nat → Nat}
theorem VRecs.nil (w : World) (S : Nat → Prop) (m : Nat) (H : Nat → Nat → Nat) : VRecs w S m [] [] H:=⟨rfl,fun j vs h => by simp at h,fun j r h => by simp at h,fun j r vs h => by simp at h,fun j r i zs j' r' i' zs' h => by simp at h⟩
theorem VRecs.keep (h : VRecs w S m rs vss H) (hk : ∀ k cu,S k → w.heap[k]? = some (.cells cu 9 (0,0)) → w'.heap[k]? = w.heap[k]?) (hs : ∀ k,k < w.heap.size → S k → S' k) : VRecs w' S' m rs vss H :=
 ⟨h.len,h.all,h.rl,fun j r vs h1 h2 i f h3 => by
  obtain ⟨v,h4,h5⟩:=h.cell j r vs h1 h2 i f h3;exact ⟨v,h4,h5.keep (hk _) (hs _)⟩,h.inj⟩
theorem VRecs.below (h : VRecs w S m rs vss H) (hb : Below w.heap.size w w') : VRecs w' S m rs vss H:=h.keep (fun k _ _ q => hb.block k (lt_of_some q)) (fun _ _ s => s)
theorem VRecs.grown (h : VRecs w S m rs vss H) {base n : Nat} {T : TypeId} {v : Value} {xs : List Value} (ho : w.ownsRow base T m v n xs) (hT : ¬ T = 9) (hg : w.grownBy w' v.ownBlock) : VRecs w' S m rs vss H:=by
 refine h.keep (fun k cu _ q => hg.block k (lt_of_some q) (fun e => ?_)) (fun _ _ s => s);rcases ho.2 with ⟨rfl,_⟩ | ⟨g,cap,cur,rfl,_,hgg,_⟩
 ·cases e
 ·cases e;simp only [] at q;rw [hgg] at q;cases q;exact hT rfl
theorem VRecs.lt (h : VRecs w S m rs vss H) {j : Nat} {r : List Fv} {i : Nat} {zs : List ByteArray} (h1 : rs[j]? = some r) (h2 : r[i]? = some (.l zs)) (h3 : zs ≠ []) : H j i < w.heap.size:=by
 have hj : j < vss.length:=by rw [h.len];exact (List.getElem?_eq_some_iff.1 h1).1
 obtain ⟨v,_,a,len,cap,_,_,_,_,_,h9⟩:=h.cell j r _ h1 (List.getElem?_eq_getElem hj) i _ h2;rcases h9 with h9 | ⟨_,_,cu,q4,_⟩
 ·exact absurd h9 h3
 ·exact lt_of_some q4
theorem VRecs.sel (h : VRecs w S m rs vss H) {rs' : List (List Fv)} {vss' : List (List Value)} (f : Nat → Nat) (hl : vss'.length = rs'.length) (hr : ∀ j,j < rs'.length → rs'[j]? = rs[f j]?) (hv : ∀ j,j < rs'.length → vss'[j]? = vss[f j]?)
  (hf : ∀ j j',j < rs'.length → j' < rs'.length → f j = f j' → j = j') : VRecs w S m rs' vss' (fun j => H (f j)):=by
 have lt1 : ∀ {j : Nat} {r},rs'[j]? = some r → j < rs'.length:=fun h => (List.getElem?_eq_some_iff.1 h).1;have lt2 : ∀ {j : Nat} {r},vss'[j]? = some r → j < rs'.length:=fun h => by rw [← hl];exact (List.getElem?_eq_some_iff.1 h).1
 refine ⟨hl,fun j vs h1 => h.all (f j) vs (by rw [← hv j (lt2 h1)];exact h1),fun j r h1 => h.rl (f j) r (by rw [← hr j (lt1 h1)];exact h1),fun j r vs h1 h2 => h.cell (f j) r vs (by rw [← hr j (lt1 h1)];exact h1) (by rw [← hv j (lt1 h1)];exact h2),?_⟩;intro j r i zs j' r' i' zs' h1 h2 h3 h4 h5 h6 h7;obtain ⟨e1,e2⟩:=h.inj (f j) r i zs (f j') r' i' zs' (by rw [← hr j (lt1 h1)];exact h1) h2 h3 (by rw [← hr j' (lt1 h4)];exact h4) h5 h6 h7;exact ⟨hf j j' (lt1 h1) (lt1 h4) e1,e2⟩
theorem VRecs.push (h : VRecs w S m rs vss H) {r : List Fv} {vs : List Value} {hh : Nat → Nat} (hr : r.length = m) (hvs : vs.length = m) (hc : ∀ (i : Nat) f,r[i]? = some f → ∃ v,vs[i]? = some v ∧ f.Fr w (hh i) S v)
  (hn : ∀ (i : Nat) zs,r[i]? = some (.l zs) → zs ≠ [] → ∀ (j : Nat) r' (i' : Nat) zs',rs[j]? = some r' → r'[i']? = some (.l zs') → zs' ≠ [] → ¬ H j i' = hh i)
  (h1 : ∀ (i i' : Nat) zs zs',r[i]? = some (.l zs) → zs ≠ [] → r[i']? = some (.l zs') → zs' ≠ [] → i = i') :
  VRecs w S m (rs ++ [r]) (vss ++ [vs]) (fun j => if j = rs.length then hh else H j):=by
 have at1 : ∀ {α : Type} {l : List α} {x y : α} {j : Nat},(l ++ [x])[j]? = some y → (j = l.length ∧ y = x) ∨ (j < l.length ∧ l[j]? = some y):=by
  intro α l x y j hj;by_cases e : j < l.length
  ·rw [List.getElem?_append_left e] at hj;exact .inr ⟨e,hj⟩
  ·rw [List.getElem?_append_right qqd1] at hj;rcases Nat.eq_zero_or_pos (j - l.length) with e0 | e0
   ·rw [e0] at hj;exact .inl ⟨by omega,by simpa using hj.symm⟩
   ·exact qqa55
 refine ⟨by simp [h.len],fun j v hv => ?_,fun j r' hj => ?_,fun j r' v hj hv i f hf => ?_,fun j r1 i zs j' r2 i' zs' a1 a2 a3 b1 b2 b3 e => ?_⟩
 ·rcases at1 hv with ⟨_,rfl⟩ | ⟨_,hv⟩
  ·exact hvs
  ·exact h.all j v hv
 ·rcases at1 hj with ⟨_,rfl⟩ | ⟨_,hj⟩
  ·exact hr
  ·exact h.rl j r' hj
 ·rcases at1 hj with ⟨e1,rfl⟩ | ⟨e1,hj⟩
  ·rcases at1 hv with ⟨_,rfl⟩ | ⟨e2,hv⟩
   ·simp only [e1,if_true];exact hc i f hf
   ·have:=h.len;omega
  ·rcases at1 hv with ⟨e2,rfl⟩ | ⟨e2,hv⟩
   ·have:=h.len;omega
   ·simp only [if_neg (show ¬ j = rs.length by omega)];exact h.cell j r' v hj hv i f hf
 ·rcases at1 a1 with ⟨e1,rfl⟩ | ⟨e1,a4⟩ <;> rcases at1 b1 with ⟨e2,rfl⟩ | ⟨e2,b4⟩
  ·exact ⟨by omega,h1 _ _ _ _ a2 a3 b2 b3⟩
  ·simp only [e1,if_true,if_neg (show ¬ j' = rs.length by omega)] at e;exact absurd e.symm (hn i zs a2 a3 j' r2 i' zs' b4 b2 b3)
  ·simp only [e2,if_true,if_neg (show ¬ j = rs.length by omega)] at e;exact absurd e (hn i' zs' b2 b3 j r1 i zs a4 a2 a3)
  ·simp only [if_neg (show ¬ j = rs.length by omega),if_neg (show ¬ j' = rs.length by omega)] at e;exact h.inj j r1 i zs j' r2 i' zs' a4 a2 a3 b4 b2 b3 e
end

theorem flat_at {α : Type} {m : Nat} : ∀ {vss : List (List α)},(∀ (j : Nat) vs,vss[j]? = some vs → vs.length = m) → ∀ {j : Nat} {vs : List α} {i : Nat} {u : α},vss[j]? = some vs → vs[i]? = some u → vss.flatten[j * m + i]? = some u
 | [],_,j,vs,i,u,h,_ => by simp at h
 | x :: vss,hl,0,vs,i,u,h,hu => by
  obtain rfl : x = vs:=by simpa using h
  have hx:=hl 0 x rfl;have hi:=(List.getElem?_eq_some_iff.1 hu).1;rw [List.flatten_cons,List.getElem?_append_left qqd1,Nat.zero_mul,Nat.zero_add];exact hu
 | x :: vss,hl,j + 1,vs,i,u,h,hu => by
  have hx:=hl 0 x rfl;rw [List.flatten_cons,List.getElem?_append_right (by rw [hx,Nat.succ_mul];omega),hx,show (j + 1) * m + i - m = j * m + i by rw [Nat.succ_mul];omega];exact flat_at (fun j' vs' h' => hl (j' + 1) vs' (by simpa using h')) (by simpa using h) hu
theorem flat_inv {α : Type} {m : Nat} : ∀ {vss : List (List α)},(∀ (j : Nat) vs,vss[j]? = some vs → vs.length = m) → ∀ {k : Nat} {u : α},vss.flatten[k]? = some u → ∃ (j i : Nat) (vs : List α),vss[j]? = some vs ∧ vs[i]? = some u ∧ k = j * m + i
 | [],_,k,u,h => by simp at h
 | x :: vss,hl,k,u,h => by
  have hx:=hl 0 x rfl;rw [List.flatten_cons] at h;by_cases e : k < m
  ·rw [List.getElem?_append_left qqd1] at h;exact ⟨0,k,x,rfl,h,by omega⟩
  ·rw [List.getElem?_append_right qqd1,hx] at h;obtain ⟨j,i,vs,h1,h2,h3⟩:=flat_inv (fun j' vs' h' => hl (j' + 1) vs' (by simpa using h')) h;exact ⟨j + 1,i,vs,by simpa using h1,h2,by rw [Nat.succ_mul];omega⟩
theorem flat_len {α : Type} {m : Nat} : ∀ {vss : List (List α)},(∀ (j : Nat) vs,vss[j]? = some vs → vs.length = m) → vss.flatten.length = vss.length * m
 | [],_ => by simp
 | x :: vss,hl => by
  have hx:=hl 0 x rfl;rw [List.flatten_cons,List.length_append,flat_len (fun j' vs' h' => hl (j' + 1) vs' (by simpa using h')),hx,List.length_cons,Nat.succ_mul];omega
theorem VRecs.one {w : World} {S : Nat → Prop} {m : Nat} {rs : List (List Fv)} {vss : List (List Value)} {H : Nat → Nat → Nat} (h : VRecs w S m rs vss H) : ∀ u ∈ vss.flatten,u.oneCell' = true:=by
 intro u hu;obtain ⟨k,hk,rfl⟩:=List.mem_iff_getElem.1 hu;obtain ⟨j,i,vs,h1,h2,_⟩:=flat_inv h.all (List.getElem?_eq_getElem hk);have hj : j < rs.length:=by rw [← h.len];exact (List.getElem?_eq_some_iff.1 h1).1
 have hr:=List.getElem?_eq_getElem hj;have hi : i < (rs[j]).length:=by rw [h.rl j _ hr,← h.all j vs h1];exact (List.getElem?_eq_some_iff.1 h2).1
 obtain ⟨v,h3,h4⟩:=h.cell j _ vs hr h1 i _ (List.getElem?_eq_getElem hi);rw [h2] at h3;cases h3;exact h4.one

theorem VRecs.own {w : World} {S : Nat → Prop} {m : Nat} {T : TypeId} {rs : List (List Fv)} {vss : List (List Value)} {H : Nat → Nat → Nat} (h : VRecs w S m rs vss H) {base n : Nat} {v : Value} (ho : w.ownsRow base T m v n vss.flatten) (hn : n = rs.length) (hT : ¬ T = 9) (hS : ∀ g,v.ownBlock = some g → S g) :
  ∃ a cap,v = .slice a rs.length cap ∧ ROwn w a rs.length cap m T rs S:=by
 subst hn;rcases ho.2 with ⟨rfl,h0⟩ | ⟨g,cap,cur,rfl,_,hgg,h1,h2,h3,h4⟩
 ·obtain rfl : rs = []:=List.eq_nil_of_length_eq_zero h0;exact ⟨none,0,rfl,ROwn.nil _ _ _ _ _ qqd1⟩
 ·refine ⟨_,cap,rfl,rfl,h1,by unfold maxLen at h2;omega,.inr ⟨g,cur,H,rfl,hgg,hS g rfl,h.rl,fun j r hj i f hi => ?_,h.inj⟩⟩;have hjl : j < vss.length:=by rw [h.len];exact (List.getElem?_eq_some_iff.1 hj).1
  have hv:=List.getElem?_eq_getElem hjl;obtain ⟨u,h5,h6⟩:=h.cell j r _ hj hv i f hi;have h7:=flat_at h.all hv h5;rw [← h4,List.getElem?_take] at h7;split at h7
  ·exact ⟨u,by simpa using h7,h6.own hgg hT⟩
  ·cases h7
theorem ROwn.recs {w : World} {S : Nat → Prop} {m : Nat} {T : TypeId} {a : Option Addr} {len cap : Nat} {rs : List (List Fv)} (h : ROwn w a len cap m T rs S) :
  ∃ vss H,VRecs w S m rs vss H ∧ ∀ (k : Nat) u,vss.flatten[k]? = some u → ∃ g,a = some ⟨g,0,none⟩ ∧ S g ∧ w.cell? ⟨g,k,none⟩ = some u:=by
 obtain ⟨h1,h2,h3,h4⟩:=h;rcases h4 with rfl | ⟨g,cur,H,rfl,h5⟩
 ·exact ⟨[],fun _ _ => 0,VRecs.nil _ _ _ _,fun k u hu => by simp at hu⟩
 ·have hget : ∀ (j i : Nat),((List.range rs.length).map fun j => (List.range m).map fun i => cur.getD (j * m + i) undef)[j]? = if j < rs.length then some ((List.range m).map fun i => cur.getD (j * m + i) undef) else none:=by
   intro j _;rw [List.getElem?_map];split
   ·next e => rw [List.getElem?_range e];rfl
   ·next e => rw [List.getElem?_eq_none (by simpa using e)];rfl
  have hval : ∀ (j : Nat) r,rs[j]? = some r → ∀ (i : Nat),i < m → ∃ f v,r[i]? = some f ∧ cur[j * m + i]? = some v ∧ f.Own w (H j i) S g v ∧ ((List.range m).map fun i => cur.getD (j * m + i) undef)[i]? = some v:=by
   intro j r hr i hi;have hl:=h5.len j r hr;have hf:=List.getElem?_eq_getElem (l:=r) (i:=i) qqd1;obtain ⟨v,q1,q2⟩:=h5.cell j r hr i _ hf;refine ⟨_,v,hf,q1,q2,?_⟩;rw [List.getElem?_map,List.getElem?_range hi];simp [Array.getD_eq_getD_getElem?,q1]
  have hvrecs : VRecs w S m rs ((List.range rs.length).map fun j => (List.range m).map fun i => cur.getD (j * m + i) undef) H:=by
   refine ⟨by simp,fun j vs hv => ?_,h5.len,fun j r vs hr hv i f hf => ?_,h5.inj⟩
   ·rw [hget j 0] at hv;split at hv
    ·cases hv;simp
    ·cases hv
   ·rw [hget j 0,if_pos (List.getElem?_eq_some_iff.1 hr).1] at hv;cases hv;have hi : i < m:=by rw [← h5.len j r hr];exact (List.getElem?_eq_some_iff.1 hf).1
    obtain ⟨f',v,q1,q2,q3,q4⟩:=hval j r hr i hi;rw [hf] at q1;cases q1;exact ⟨v,q4,q3.fr⟩
  refine ⟨_,H,hvrecs,fun k u hu => ⟨g,rfl,h5.inS,?_⟩⟩;obtain ⟨j,i,vs,e1,e2,rfl⟩:=flat_inv hvrecs.all hu;rw [hget j 0] at e1;split at e1
  ·next e =>
   cases e1;have hi : i < m:=by have:=(List.getElem?_eq_some_iff.1 e2).1;simpa using this
   obtain ⟨f',v,q1,q2,q3,q4⟩:=hval j _ (List.getElem?_eq_getElem e) i hi;rw [e2] at q4;cases q4;exact (cellK h5.blk _).trans q2
  ·cases e1

def Bw (y W : World) : Prop:=Below y.heap.size y W
theorem Bw.refl (y : World) : Bw y y:=Below.refl _ _
theorem Bw.below {y W W' : World} (h : Bw y W) (hb : Below W.heap.size W W') : Bw y W':=Below.trans h (hb.mono (Below.size h))
theorem Bw.kept {y W W' : World} {S : Nat → Prop} (h : Bw y W) (hk : KeptS S W W') (hs : ∀ k,S k → y.heap.size ≤ k) : Bw y W':=Below.trans h (hk.low (Below.size h) hs)
theorem Bw.out {y W : World} (h : Bw y W) : Below y.heap.size y W:=h
theorem Bw.le {y W : World} (h : Bw y W) : y.heap.size ≤ W.heap.size:=Below.size h

def TOwn (w : World) (a : Option Addr) (l c : Nat) (zs : List ByteArray) (S : Nat → Prop) : Prop :=
 TxRow w a l c zs ∧ (zs = [] ∨ ∃ g cur,a = some ⟨g,0,none⟩ ∧ S g ∧ w.heap[g]? = some (.cells cur 9 (0,0)))
theorem TOwn.keep {w w' : World} {a : Option Addr} {l c : Nat} {zs : List ByteArray} {S S' : Nat → Prop} (h : TOwn w a l c zs S) (hk : ∀ k,k < w.heap.size → S k → w'.heap[k]? = w.heap[k]?) (hs : ∀ k,k < w.heap.size → S k → S' k) : TOwn w' a l c zs S':=by
 obtain ⟨⟨h1,h2,h3,h4,h5⟩,h6⟩:=h;rcases h6 with rfl | ⟨g,cur,rfl,hS,hg⟩
 ·exact ⟨⟨h1,h2,h3,h4,.inl rfl⟩,.inl rfl⟩
 ·have hg':=(hk g (lt_of_some hg) hS).trans hg;refine ⟨⟨h1,h2,h3,h4,h5.imp id ?_⟩,.inr ⟨g,cur,rfl,hs g (lt_of_some hg) hS,hg'⟩⟩;rintro ⟨b,o,e,hlt,hc⟩;cases e;exact ⟨g,0,rfl,lt_of_some hg',fun j x hx => by have:=hc j x hx;rw [cellK hg] at this;rw [cellK hg'];exact this⟩
theorem TOwn.below {w w' : World} {a : Option Addr} {l c : Nat} {zs : List ByteArray} {S : Nat → Prop} (h : TOwn w a l c zs S) (hb : Below w.heap.size w w') : TOwn w' a l c zs S:=h.keep (fun k hk _ => hb.block k hk) (fun _ _ s => s)
theorem TOwn.into {w : World} {a : Option Addr} {l c : Nat} {zs : List ByteArray} {S S' : Nat → Prop} (h : TOwn w a l c zs S) (hs : ∀ k,k < w.heap.size → S k → S' k) : TOwn w a l c zs S':=h.keep (fun _ _ _ => rfl) hs
theorem TOwn.of_row {w : World} {base n : Nat} {v : Value} {zs : List ByteArray} (h : w.ownsRow base 9 1 v n (zs.map Value.string)) (hs : ∀ (j : Nat) x,zs[j]? = some x → x.size ≤ 9223372036854775807) : ∃ a c,v = .slice a n c ∧ TOwn w a n c zs (fun k => base ≤ k):=by
 obtain ⟨hl,h⟩:=h;have hl' : zs.length = n:=by simpa using hl
 rcases h with ⟨rfl,rfl⟩ | ⟨g,cap,cur,rfl,hbg,hg,hnc,hcm,hsz,htk⟩
 ·obtain rfl : zs = []:=List.eq_nil_of_length_eq_zero hl';exact ⟨none,0,rfl,⟨rfl,Nat.le_refl _,by omega,fun j x hx => by simp at hx,.inl rfl⟩,.inl rfl⟩
 ·refine ⟨some ⟨g,0,none⟩,cap,rfl,⟨hl',hnc,by unfold maxLen at hcm;omega,hs,.inr ⟨g,0,rfl,lt_of_some hg,fun j x hx => ?_⟩⟩,.inr ⟨g,cur,rfl,hbg,hg⟩⟩;exact qqa67
theorem owns_below {w w' : World} {base n m : Nat} {T : TypeId} {v : Value} {xs : List Value} (h : w.ownsRow base T m v n xs) (hb : Below w.heap.size w w') : w'.ownsRow base T m v n xs:=by
 refine ⟨h.1,h.2.imp id ?_⟩;rintro ⟨g,cap,cur,h1,h2,h3,h4⟩;exact ⟨g,cap,cur,h1,h2,(hb.block _ (lt_of_some h3)).trans h3,h4⟩

theorem mkN_up : ∀ (r : List Fv) (k : Int),(∀ (i : Nat) zs,r[i]? = some (.l zs) → zs.length ≤ 1048576) → mkN k r ≤ k + r.length * 1048577
 | [],k,_ => by simp [mkN]
 | f :: r,k,h => by
  have h1:=mkN_up r (mkN1 k f) (fun i zs hi => h (i + 1) zs (by simpa using hi));have h2 : mkN1 k f ≤ k + 1048577:=by
   cases f with
   | l zs => have:=h 0 zs rfl;simp only [mkN1];omega
   | _ => simp only [mkN1];omega
  simp only [mkN,List.length_cons];omega
theorem mkNs_up {m : Nat} : ∀ (rs : List (List Fv)) (k : Int),(∀ (j : Nat) r,rs[j]? = some r → r.length ≤ m ∧ ∀ (i : Nat) zs,r[i]? = some (.l zs) → zs.length ≤ 1048576) → mkNs k rs ≤ k + rs.length * (m * 1048577)
 | [],k,_ => by simp [mkNs]
 | r :: rs,k,h => by
  have h1:=mkNs_up rs (mkN k r) (fun j r' hj => h (j + 1) r' (by simpa using hj));obtain ⟨h2,h3⟩:=h 0 r rfl;have h4:=mkN_up r k h3;have h5 : r.length * 1048577 ≤ m * 1048577:=Nat.mul_le_mul_right _ h2;have h6 : ((rs.length + 1 : Nat) : Int) * (m * 1048577) = rs.length * (m * 1048577) + m * 1048577:=by
   rw [Int.natCast_add];simp [Int.add_mul]
  simp only [mkNs,List.length_cons];rw [h6];omega
theorem flat_fit {α : Type} {F : α → List Fv} {xs : List α} {m : Nat} (hm : ∀ x,(F x).length ≤ m) (hl : ∀ (j : Nat) x,xs[j]? = some x → ∀ (i : Nat) zs,(F x)[i]? = some (.l zs) → zs.length ≤ 1048576) (hx : xs.length ≤ 1048576) (hm8 : m ≤ 8) (k : Int) : mkNs k (xs.map F) ≤ k + 8796101410816:=by
 have h:=mkNs_up (m:=m) (xs.map F) k (fun j r hj => by
  rw [List.getElem?_map] at hj;obtain ⟨x,h1,rfl⟩:=Option.map_eq_some_iff.1 hj;exact ⟨hm x,hl j x h1⟩)
 rw [List.length_map] at h;have h2 : xs.length * (m * 1048577) ≤ 1048576 * (8 * 1048577):=Nat.mul_le_mul hx (Nat.mul_le_mul_right _ hm8);have h3 : ((xs.length * (m * 1048577) : Nat) : Int) = (xs.length : Int) * ((m : Int) * 1048577):=by rw [Int.natCast_mul,Int.natCast_mul];rfl
 rw [← h3] at h;omega
theorem ClFit.marks2 {c : Cl} (h : ClFit c) : mkCn 1 c.raw ≤ 1000000000000000:=by
 have one : ∀ {zs zs' : List ByteArray},zs.length ≤ 1048576 → some (Fv.l zs) = some (.l zs') → zs'.length ≤ 1048576:=fun h e => by cases e;exact h
 have a1:=fun k => flat_fit (F:=ndF) (m:=7) (xs:=c.ns) (fun _ => Nat.le_refl _) (fun j x hx i zs hi => by
  rcases i with _ | _ | _ | _ | _ | _ | _ | i <;> first | (simp [ndF] at hi;done) | exact one (h.f1 j x hx) hi) h.l1 qqd3 k
 have a2:=fun k => flat_fit (F:=kdF) (m:=4) (xs:=c.ks) (fun _ => Nat.le_refl _) (fun j x hx i zs hi => by
  rcases i with _ | _ | _ | _ | i <;> (simp [kdF] at hi)) h.l2 qqd3 k
 have a3:=fun k => flat_fit (F:=vdF) (m:=8) (xs:=c.vs) (fun _ => Nat.le_refl _) (fun j x hx i zs hi => by
  rcases i with _ | _ | _ | _ | _ | _ | _ | _ | i <;> first | (simp [vdF] at hi;done) | exact one (h.f3 j x hx) hi) h.l3 qqd3 k
 have a4:=fun k => flat_fit (F:=xdF) (m:=5) (xs:=c.xs) (fun _ => Nat.le_refl _) (fun j x hx i zs hi => by
  rcases i with _ | _ | _ | _ | _ | i <;> (simp [xdF] at hi)) h.l4 qqd3 k
 have a5:=fun k => flat_fit (F:=pdF) (m:=6) (xs:=c.ps) (fun _ => Nat.le_refl _) (fun j x hx i zs hi => by
  rcases i with _ | _ | _ | _ | _ | _ | i <;> first | (simp [pdF] at hi;done) | exact one (h.f5 j x hx) hi) h.l5 qqd3 k
 unfold mkCn Cl.raw;have b1:=a1 1;have b2:=a2 (mkNs 1 (c.ns.map ndF));have b3:=a3 (mkNs (mkNs 1 (c.ns.map ndF)) (c.ks.map kdF));have b4:=a4 (mkNs (mkNs (mkNs 1 (c.ns.map ndF)) (c.ks.map kdF)) (c.vs.map vdF));have b5:=a5 (mkNs (mkNs (mkNs (mkNs 1 (c.ns.map ndF)) (c.ks.map kdF)) (c.vs.map vdF)) (c.xs.map xdF));simp only [];omega
theorem ClFit.marks {c : Cl} (h : ClFit c) : mkCn 1 c.raw ≤ 1152921504606846976:=Int.le_trans h.marks2 (by decide)

end Rc
end Go.Proofs.YtpibkpofdbjdaaaGreatDoor

namespace Go.Proofs.YtpibkpofdbjdaaaGreatDoor
open Go.RowKit
namespace Ap

def OwnAns (zs : List ByteArray) (w : World) (a : Option Addr) (len cap : Nat) (w' : World) : Prop :=
 TxRow w' a len cap zs ∧ (zs = [] ∨ ∃ g cur,a = some ⟨g,0,none⟩ ∧ w.heap.size ≤ g ∧ w'.heap[g]? = some (.cells cur 9 (0,0))) ∧ Below w.heap.size w w'
theorem own_of {w w0 : World} {base n : Nat} {v : Value} {zs : List ByteArray} (h : w.ownsRow base 9 1 v n (zs.map Value.string)) (hb : Below base w0 w) (hB : base = w0.heap.size) (hs : ∀ (j : Nat) x,zs[j]? = some x → x.size ≤ 9223372036854775807) :
  ∃ a l c,v = .slice a l c ∧ OwnAns zs w0 a l c w:=by
 subst hB;obtain ⟨hl,h⟩:=h;have hl' : zs.length = n:=by simpa using hl
 rcases h with ⟨rfl,rfl⟩ | ⟨g,cap,cur,rfl,hbg,hg,hnc,hcm,hsz,htk⟩
 ·obtain rfl : zs = []:=List.eq_nil_of_length_eq_zero hl';exact ⟨none,0,0,rfl,⟨rfl,Nat.le_refl _,by omega,fun j x hx => by simp at hx,.inl rfl⟩,.inl rfl,hb⟩
 ·refine ⟨some ⟨g,0,none⟩,n,cap,rfl,⟨hl',hnc,by unfold maxLen at hcm;omega,hs,.inr ⟨g,0,rfl,lt_of_some hg,fun j x hx => ?_⟩⟩,.inr ⟨g,cur,rfl,hbg,hg⟩,hb⟩;exact qqa67
theorem news_of {w : World} {ad : Addr} {len cap : Nat} {zs : List ByteArray} (h : TxRow w (some ad) len cap zs) : ∀ j u,(zs.map Value.string)[j]? = some u → w.cell? (ad.add j) = some u:=by
 intro j u hu;rw [List.getElem?_map] at hu;obtain ⟨x,hx,rfl⟩:=Option.map_eq_some_iff.1 hu;rcases h.2.2.2.2 with h | ⟨b,o,e,_,hc⟩
 ·subst h;simp at hx
 ·cases e;rw [Addr.add_lit];exact hc j x hx

theorem ownNames_any (a : Option Addr) (len cap : Nat) (zs : List ByteArray) (w : World) (hr : TxRow w a len cap zs) (hl : len ≤ 8001) :
  Calls Tryz.prog 105 #[.slice a len cap] w fun e w' => ∃ a' l c,e = .returned (.slice a' l c) ∧ OwnAns zs w a' l c w':=by
 cases a with
 | none =>
  obtain rfl : zs = []:=by
   rcases hr.2.2.2.2 with h | ⟨b,o,e,_⟩
   ·exact h
   ·cases e
  obtain rfl : len = 0:=by have:=hr.1;simpa using this.symm
  clear hr
  go_enter Tryz.func105,Tryz.ntmps105
  go_wp2
  go_ret;exact ⟨_,_,_,rfl,⟨rfl,Nat.le_refl _,by omega,fun j x hx => by simp at hx,.inl rfl⟩,.inl rfl,Below.refl _ _⟩
 | some ad =>
  have HN:=hidK (news_of hr);have HZ:=hidK hr.2.2.2.1;have hzl : zs.length = len:=hr.1;clear hr;obtain ⟨i0,hi,hz0,hz1,hz2⟩:=info_parts infoStr
  go_enter Tryz.func105,Tryz.ntmps105
  go_wp2_with (first | (at_builtin;refine wpList_append_own _ rfl _ _ 67 rfl w.heap.size 9 i0 (.string ⟨#[]⟩) 1 16 Tryz.underlying67 hi hz0 hz1 hz2 rfl qqd3 _ 0 _ rfl (World.ownsRow_nil w w.heap.size 9 1) ad len cap (zs.map Value.string) rfl ?c1 HN.out ?c3 ?c4 ?c5 (Nat.le_refl _) ?_))
  case c1 => simpa using hzl
  case c3 => intro u hu;obtain ⟨x,_,rfl⟩:=List.mem_map.1 hu;rfl
  case c4 => unfold maxLen;omega
  case c5 => omega
  intro v' w3 hown3 hgrow hv;have HB3:=hidK ((Below.refl w.heap.size w).grown hgrow (Nat.le_refl _) (fun k hk => by cases hk));have HO:=hidK hown3;clear hown3 hgrow hv
  go_wp2
  go_ret;obtain ⟨a',l,c,rfl,h2⟩:=own_of HO.out HB3.out rfl HZ.out;exact ⟨a',l,c,rfl,h2⟩

theorem OwnAns.set {zs : List ByteArray} {w w' : World} {a : Option Addr} {l p b i X : Nat} {v : Value} (h : TxRow w' a l p zs ∧ (zs = [] ∨ ∃ g cur,a = some ⟨g,0,none⟩ ∧ X ≤ g ∧ w'.heap[g]? = some (.cells cur 9 (0,0))) ∧ Below w.heap.size w w') (hb : w.heap.size ≤ b) (hX : b < X) :
  TxRow (w'.setCell ⟨b,i,none⟩ v) a l p zs ∧ (zs = [] ∨ ∃ g cur,a = some ⟨g,0,none⟩ ∧ X ≤ g ∧ (w'.setCell ⟨b,i,none⟩ v).heap[g]? = some (.cells cur 9 (0,0))) ∧ Below w.heap.size w (w'.setCell ⟨b,i,none⟩ v):=by
 obtain ⟨⟨h1,h2,h3,h4,h5⟩,h6,h7⟩:=h;refine ⟨⟨h1,h2,h3,h4,?_⟩,?_,h7.setCell hb v⟩
 ·rcases h6 with h6 | ⟨g,cur,rfl,hg,hh⟩
  ·exact .inl h6
  ·rcases h5 with h5 | ⟨g',o,e,hl,hc⟩
   ·exact .inl h5
   ·cases e;have hs : (w'.setCell ⟨b,i,none⟩ v).heap[g]? = w'.heap[g]?:=Below.heap_setCell _ _ _ _ (show g ≠ b by omega);exact .inr ⟨g,0,rfl,by simpa [World.setCell] using hl,fun j x hx => by have:=hc j x hx;simp only [World.cell?,hs] at this ⊢;exact this⟩
 ·rcases h6 with h6 | ⟨g,cur,rfl,hg,hh⟩
  ·exact .inl h6
  ·exact .inr ⟨g,cur,rfl,hg,(Below.heap_setCell _ _ _ _ (show g ≠ b by omega)).trans hh⟩

theorem scopy_any (n : ByteArray) (c : Int) (z : ByteArray) (k : ByteArray) (x : Bool) (m : ByteArray) (y : Bool) (a : Option Addr) (len cap : Nat) (zs : List ByteArray) (w : World) (hr : TxRow w a len cap zs) (hl : len ≤ 8001) :
  Calls Tryz.prog 59 #[.agg #[.string n,.int .i64 c,.string z,.string k,.bool x,.string m,.bool y,.slice a len cap]] w fun e w' => ∃ a' l p,e = .returned (.agg #[.string n,.int .i64 c,.string z,.string k,.bool x,.string m,.bool y,.slice a' l p]) ∧ OwnAns zs w a' l p w':=by
 have hown : (((w.alloc (.cells #[.string n,.int .i64 c,.string z,.string k,.bool x,.string m,.bool y,.slice a len cap] 106)).alloc (.cells #[.string ⟨#[]⟩,.int .i64 0,.string ⟨#[]⟩,.string ⟨#[]⟩,.bool false,.string ⟨#[]⟩,.bool false,.slice none 0 0] 106)).alloc (.cells #[] 9)).ownsRow (w.heap.size + 1 + 1) 9 1 (.slice (some ⟨w.heap.size + 1 + 1,0,none⟩) 0 0) 0 []:=⟨rfl,.inr ⟨w.heap.size + 1 + 1,0,#[],rfl,Nat.le_refl _,heap3_2 _ _ _ _,Nat.le_refl _,by unfold maxLen;omega,rfl,rfl⟩⟩;have HOW:=hidK hown;have hr3:=hr.below (below3 w (.cells #[.string n,.int .i64 c,.string z,.string k,.bool x,.string m,.bool y,.slice a len cap] 106) (.cells #[.string ⟨#[]⟩,.int .i64 0,.string ⟨#[]⟩,.string ⟨#[]⟩,.bool false,.string ⟨#[]⟩,.bool false,.slice none 0 0] 106) (.cells #[] 9));have HZ:=hidK hr.2.2.2.1;have hzl : zs.length = len:=hr.1;have HR3:=hidK hr3;clear hown hr3;obtain ⟨i0,hi,hz0,hz1,hz2⟩:=info_parts infoStr;cases a with
 | none =>
  obtain rfl : zs = []:=by
   rcases hr.2.2.2.2 with h | ⟨b,o,e,_⟩
   ·exact h
   ·cases e
  obtain rfl : len = 0:=by simpa using hzl.symm
  clear hr HOW HR3 hi hz0 hz1 hz2
  go_enter Tryz.func59,Tryz.ntmps59
  go_wp2
  exact bodyPost_ret (v:=.agg #[.string n,.int .i64 c,.string z,.string k,.bool x,.string m,.bool y,.slice (some ⟨w.heap.size + 1 + 1,0,none⟩) 0 0]) (by simp [results,Tryz.results59,go_sem]) rfl ⟨_,_,_,rfl,⟨rfl,Nat.le_refl _,by omega,fun j x hx => by simp at hx,.inl rfl⟩,.inl rfl,below3 _ _ _ _⟩
 | some ad =>
  have HN:=hidK (news_of HR3.out);clear hr
  go_enter Tryz.func59,Tryz.ntmps59
  go_wp2_with (first | (at_builtin;refine wpList_append_own _ rfl _ _ 67 rfl (w.heap.size + 1 + 1) 9 i0 (.string ⟨#[]⟩) 1 16 Tryz.underlying67 hi hz0 hz1 hz2 rfl qqd3 _ 0 _ rfl HOW.out ad len cap (zs.map Value.string) rfl ?c1 HN.out ?c3 ?c4 ?c5 qqd6 ?_))
  case c1 => simpa using hzl
  case c3 => intro u hu;obtain ⟨x,_,rfl⟩:=List.mem_map.1 hu;rfl
  case c4 => unfold maxLen;omega
  case c5 => omega
  intro v' w3 hown3 hgrow hv;have hb3:=(Below.refl (w.heap.size + 1 + 1) _).grown hgrow qqd6 (fun k hk => by simp [Value.ownBlock] at hk;omega);have g0:=(hb3.block w.heap.size qqd1).trans (heap3_0 _ _ _ _);have g1:=(hb3.block (w.heap.size + 1) qqd1).trans (heap3_1 _ _ _ _)
  obtain ⟨a',l,p,rfl,hq⟩ : ∃ a' l p,v' = .slice a' l p ∧ (TxRow w3 a' l p zs ∧ (zs = [] ∨ ∃ g cur,a' = some ⟨g,0,none⟩ ∧ w.heap.size + 1 + 1 ≤ g ∧ w3.heap[g]? = some (.cells cur 9 (0,0))) ∧ Below w.heap.size w w3):=by
   have hbw : Below w.heap.size w w3:=(below3 w _ _ _).trans (hb3.mono qqd1);have ho:=hown3;obtain ⟨hl1,h⟩:=ho;have hl' : zs.length = len:=hzl
   rcases h with ⟨rfl,h0⟩ | ⟨g,cp,cur,rfl,hbg,hg,hnc,hcm,hsz,htk⟩
   ·obtain rfl : zs = []:=List.eq_nil_of_length_eq_zero qqd1;exact ⟨none,0,0,rfl,⟨rfl,Nat.le_refl _,by omega,fun j x hx => by simp at hx,.inl rfl⟩,.inl rfl,hbw⟩
   ·refine ⟨some ⟨g,0,none⟩,len,cp,rfl,⟨hl',hnc,by unfold maxLen at hcm;omega,HZ.out,.inr ⟨g,0,rfl,lt_of_some hg,fun j x hx => ?_⟩⟩,.inr ⟨g,cur,rfl,hbg,hg⟩,hbw⟩;rw [Nat.zero_add,cellK hg]
    have hj : j < len:=by have:=(List.getElem?_eq_some_iff.1 hx).1;omega
    have e1 : (cur.toList.take (len * 1))[j]? = some (.string x):=by rw [htk];simp [hx]
    rw [List.getElem?_take,if_pos qqd1] at e1
    simpa using e1
  have HQ:=hidK hq;have d0 : w3.cell? ⟨w.heap.size,0,none⟩ = some (.string n):=cellK g0 0;have df0:=froK g0 0;have d1 : w3.cell? ⟨w.heap.size,1,none⟩ = some (.int .i64 c):=cellK g0 1;have df1:=froK g0 1;have d2 : w3.cell? ⟨w.heap.size,2,none⟩ = some (.string z):=cellK g0 2;have df2:=froK g0 2;have d3 : w3.cell? ⟨w.heap.size,3,none⟩ = some (.string k):=cellK g0 3;have df3:=froK g0 3;have d4 : w3.cell? ⟨w.heap.size,4,none⟩ = some (.bool x):=cellK g0 4;have df4:=froK g0 4;have d5 : w3.cell? ⟨w.heap.size,5,none⟩ = some (.string m):=cellK g0 5;have df5:=froK g0 5;have d6 : w3.cell? ⟨w.heap.size,6,none⟩ = some (.bool y):=cellK g0 6;have df6:=froK g0 6;have d7 : w3.cell? ⟨w.heap.size,7,none⟩ = some (.slice (some ad) len cap):=cellK g0 7;have df7:=froK g0 7;have e0 : w3.cell? ⟨w.heap.size + 1,0,none⟩ = some (.string ⟨#[]⟩):=cellK g1 0;have ef0:=froK g1 0;have e1 : w3.cell? ⟨w.heap.size + 1,1,none⟩ = some (.int .i64 0):=cellK g1 1;have ef1:=froK g1 1;have e2 : w3.cell? ⟨w.heap.size + 1,2,none⟩ = some (.string ⟨#[]⟩):=cellK g1 2;have ef2:=froK g1 2;have e3 : w3.cell? ⟨w.heap.size + 1,3,none⟩ = some (.string ⟨#[]⟩):=cellK g1 3;have ef3:=froK g1 3;have e4 : w3.cell? ⟨w.heap.size + 1,4,none⟩ = some (.bool false):=cellK g1 4;have ef4:=froK g1 4;have e5 : w3.cell? ⟨w.heap.size + 1,5,none⟩ = some (.string ⟨#[]⟩):=cellK g1 5;have ef5:=froK g1 5;have e6 : w3.cell? ⟨w.heap.size + 1,6,none⟩ = some (.bool false):=cellK g1 6;have ef6:=froK g1 6;have e7 : w3.cell? ⟨w.heap.size + 1,7,none⟩ = some (.slice none 0 0):=cellK g1 7;have ef7:=froK g1 7
  have HQ2:=hidK (OwnAns.set (OwnAns.set (OwnAns.set (OwnAns.set (OwnAns.set (OwnAns.set (OwnAns.set (OwnAns.set (OwnAns.set HQ.out (b:=w.heap.size) (i:=7) qqd1 qqd1 (v:=.slice a' l p)) (b:=w.heap.size + 1) (i:=0) qqd1 qqd1 (v:=(.string n))) (b:=w.heap.size + 1) (i:=1) qqd1 qqd1 (v:=(.int .i64 c))) (b:=w.heap.size + 1) (i:=2) qqd1 qqd1 (v:=(.string z))) (b:=w.heap.size + 1) (i:=3) qqd1 qqd1 (v:=(.string k))) (b:=w.heap.size + 1) (i:=4) qqd1 qqd1 (v:=(.bool x))) (b:=w.heap.size + 1) (i:=5) qqd1 qqd1 (v:=(.string m))) (b:=w.heap.size + 1) (i:=6) qqd1 qqd1 (v:=(.bool y))) (b:=w.heap.size + 1) (i:=7) qqd1 qqd1 (v:=(.slice a' l p)));clear hown3 hgrow hv hb3 g0 g1 hq;go_wp2_with fail;refine bodyPost_ret (v:=.agg #[.string n,.int .i64 c,.string z,.string k,.bool x,.string m,.bool y,.slice a' l p]) (by simp [results,Tryz.results59,go_sem, *]) rfl ⟨a',l,p,rfl,HQ2.out.1,?_,HQ2.out.2.2⟩
  rcases HQ2.out.2.1 with h | ⟨g,cur,h1,h2,h3⟩
  ·exact .inl h
  ·exact .inr ⟨g,cur,h1,by omega,h3⟩

theorem iown_any (n : ByteArray) (c : Int) (z : ByteArray) (k : ByteArray) (x : Bool) (m : ByteArray) (y : Bool) (a : Option Addr) (len cap : Nat) (zs : List ByteArray) (w : World) (hr : TxRow w a len cap zs) (hl : len ≤ 8001) :
  Calls Tryz.prog 72 #[.agg #[.string n,.int .i64 c,.string z,.string k,.bool x,.string m,.bool y,.slice a len cap]] w fun e w' => ∃ a' l p,e = .returned (.agg #[.string n,.int .i64 c,.string z,.string k,.bool x,.string m,.bool y,.slice a' l p]) ∧ OwnAns zs w a' l p w':=by
 have HR:=hidK (hr.below (below2 w (.cells #[.string n,.int .i64 c,.string z,.string k,.bool x,.string m,.bool y,.slice a len cap] 106) (.cells #[.string ⟨#[]⟩,.int .i64 0,.string ⟨#[]⟩,.string ⟨#[]⟩,.bool false,.string ⟨#[]⟩,.bool false,.slice none 0 0] 106)));clear hr;go_enter Tryz.func72,Tryz.ntmps72;go_wp2_with fail;refine (ownNames_any a len cap zs _ HR.out hl).mono ?_;rintro e w3 ⟨a',l,p,rfl,h1,h2,hb⟩;have g0:=(hb.block w.heap.size qqd7).trans (heap2_0 _ _ _);have g1:=(hb.block (w.heap.size + 1) qqd6).trans (heap2_1 _ _ _);have HQ : Hid (TxRow w3 a' l p zs ∧ (zs = [] ∨ ∃ g cur,a' = some ⟨g,0,none⟩ ∧ w.heap.size + 1 + 1 ≤ g ∧ w3.heap[g]? = some (.cells cur 9 (0,0))) ∧ Below w.heap.size w w3):=⟨h1,by simpa using h2,(below2 w _ _).trans (hb.mono qqd7)⟩;have d0 : w3.cell? ⟨w.heap.size,0,none⟩ = some (.string n):=cellK g0 0;have df0:=froK g0 0;have d1 : w3.cell? ⟨w.heap.size,1,none⟩ = some (.int .i64 c):=cellK g0 1;have df1:=froK g0 1;have d2 : w3.cell? ⟨w.heap.size,2,none⟩ = some (.string z):=cellK g0 2;have df2:=froK g0 2;have d3 : w3.cell? ⟨w.heap.size,3,none⟩ = some (.string k):=cellK g0 3;have df3:=froK g0 3;have d4 : w3.cell? ⟨w.heap.size,4,none⟩ = some (.bool x):=cellK g0 4;have df4:=froK g0 4;have d5 : w3.cell? ⟨w.heap.size,5,none⟩ = some (.string m):=cellK g0 5;have df5:=froK g0 5;have d6 : w3.cell? ⟨w.heap.size,6,none⟩ = some (.bool y):=cellK g0 6;have df6:=froK g0 6;have d7 : w3.cell? ⟨w.heap.size,7,none⟩ = some (.slice a len cap):=cellK g0 7;have df7:=froK g0 7;have e0 : w3.cell? ⟨w.heap.size + 1,0,none⟩ = some (.string ⟨#[]⟩):=cellK g1 0;have ef0:=froK g1 0;have e1 : w3.cell? ⟨w.heap.size + 1,1,none⟩ = some (.int .i64 0):=cellK g1 1;have ef1:=froK g1 1;have e2 : w3.cell? ⟨w.heap.size + 1,2,none⟩ = some (.string ⟨#[]⟩):=cellK g1 2;have ef2:=froK g1 2;have e3 : w3.cell? ⟨w.heap.size + 1,3,none⟩ = some (.string ⟨#[]⟩):=cellK g1 3;have ef3:=froK g1 3;have e4 : w3.cell? ⟨w.heap.size + 1,4,none⟩ = some (.bool false):=cellK g1 4;have ef4:=froK g1 4;have e5 : w3.cell? ⟨w.heap.size + 1,5,none⟩ = some (.string ⟨#[]⟩):=cellK g1 5;have ef5:=froK g1 5;have e6 : w3.cell? ⟨w.heap.size + 1,6,none⟩ = some (.bool false):=cellK g1 6;have ef6:=froK g1 6;have e7 : w3.cell? ⟨w.heap.size + 1,7,none⟩ = some (.slice none 0 0):=cellK g1 7;have ef7:=froK g1 7;have HQ2:=hidK (OwnAns.set (OwnAns.set (OwnAns.set (OwnAns.set (OwnAns.set (OwnAns.set (OwnAns.set (OwnAns.set (OwnAns.set HQ.out (b:=w.heap.size) (i:=7) qqd1 qqd1 (v:=.slice a' l p)) (b:=w.heap.size + 1) (i:=0) qqd1 qqd1 (v:=.string n)) (b:=w.heap.size + 1) (i:=1) qqd1 qqd1 (v:=.int .i64 c)) (b:=w.heap.size + 1) (i:=2) qqd1 qqd1 (v:=.string z)) (b:=w.heap.size + 1) (i:=3) qqd1 qqd1 (v:=.string k)) (b:=w.heap.size + 1) (i:=4) qqd1 qqd1 (v:=.bool x)) (b:=w.heap.size + 1) (i:=5) qqd1 qqd1 (v:=.string m)) (b:=w.heap.size + 1) (i:=6) qqd1 qqd1 (v:=.bool y)) (b:=w.heap.size + 1) (i:=7) qqd1 qqd1 (v:=.slice a' l p))
 clear h1 h2 hb g0 g1;go_wp2_with fail;refine bodyPost_ret (v:=.agg #[.string n,.int .i64 c,.string z,.string k,.bool x,.string m,.bool y,.slice a' l p]) (by simp [results,Tryz.results72,go_sem, *]) rfl ⟨a',l,p,rfl,HQ2.out.1,?_,HQ2.out.2.2⟩;rcases HQ2.out.2.1 with h | ⟨g,cur,h1,h2,h3⟩
 ·exact .inl h
 ·exact .inr ⟨g,cur,h1,by omega,h3⟩

end Ap
end Go.Proofs.YtpibkpofdbjdaaaGreatDoor

namespace Go.Proofs.YtpibkpofdbjdaaaGreatDoor
open Go.RowKit
namespace Rc
open Mk

theorem TOwn.fr {w : World} {a : Option Addr} {l c : Nat} {zs : List ByteArray} {S : Nat → Prop} (h : TOwn w a l c zs S) : ∃ g,LFr w g S zs (.slice a l c):=by
 obtain ⟨⟨h1,h2,h3,h4,h5⟩,h6⟩:=h;rcases h6 with rfl | ⟨g,cur,rfl,hS,hg⟩
 ·exact ⟨0,_,_,_,rfl,h1,h2,h3,h4,.inl rfl⟩
 ·refine ⟨g,_,_,_,rfl,h1,h2,h3,h4,h5.imp id ?_⟩;rintro ⟨b,o,e,hlt,hc⟩;cases e;exact ⟨rfl,hS,cur,hg,fun j x hx => by have:=hc j x hx;rw [cellK hg,Nat.zero_add] at this;exact this⟩
theorem LFr.lt {w : World} {h : Nat} {S : Nat → Prop} {zs : List ByteArray} {v : Value} (k : LFr w h S zs v) (hz : zs ≠ []) : S h ∧ h < w.heap.size:=by
 obtain ⟨a',l',c',h1,h2,h3,h4,h5,h6⟩:=k;rcases h6 with h6 | ⟨_,q2,cu,q4,_⟩
 ·exact absurd h6 hz
 ·exact ⟨q2,lt_of_some q4⟩
theorem news_alloc (w : World) (vs : List Value) (T : TypeId) : ∀ (j : Nat) u,vs[j]? = some u → (w.alloc (.cells vs.toArray T)).cell? ((⟨w.heap.size,0,none⟩ : Addr).add j) = some u:=by
 intro j u hu;rw [Addr.add_lit,cellK (heap_alloc_new w _),Nat.zero_add];simpa using hu
theorem VRecs.app {w W w' : World} {S : Nat → Prop} {m : Nat} {rs : List (List Fv)} {vss : List (List Value)} {H : Nat → Nat → Nat} {base n : Nat} {T : TypeId} {v : Value} {xs : List Value} (h : VRecs w S m rs vss H) (hb : Below w.heap.size w W) (ho : W.ownsRow base T m v n xs) (hT : ¬ T = 9) (hg : W.grownBy w' v.ownBlock)
  {r : List Fv} {vs : List Value} {hh : Nat} (hr : r.length = m) (hvs : vs.length = m) (hc : ∀ (i : Nat) f,r[i]? = some f → ∃ v,vs[i]? = some v ∧ f.Fr W hh S v) (hfr : ∀ (i : Nat) zs,r[i]? = some (.l zs) → zs ≠ [] → w.heap.size ≤ hh)
  (h1 : ∀ (i i' : Nat) zs zs',r[i]? = some (.l zs) → zs ≠ [] → r[i']? = some (.l zs') → zs' ≠ [] → i = i') : VRecs w' S m (rs ++ [r]) (vss ++ [vs]) (fun j => if j = rs.length then fun _ => hh else H j) :=
 ((h.below hb).push hr hvs hc (fun i zs a b j r' i' zs' c d e q => by have q1:=h.lt c d e;have q2:=hfr i zs a b;omega) h1).grown ho hT hg

theorem nd_l {x : Nd} {i : Nat} {zs : List ByteArray} (h : (ndF x)[i]? = some (.l zs)) : i = 6 ∧ zs = x.zs:=by
 rcases i with _ | _ | _ | _ | _ | _ | _ | i
 ·cases h
 ·cases h
 ·cases h
 ·cases h
 ·cases h
 ·cases h
 ·cases h;exact ⟨rfl,rfl⟩
 ·simp [ndF] at h
theorem nd_fr {w : World} {x : Nd} {g : Nat} {Q : Nat → Prop} {a : Option Addr} {l c : Nat} (hn : x.n.size ≤ 9223372036854775807) (hz : x.z.size ≤ 9223372036854775807) (hl : LFr w g Q x.zs (.slice a l c)) : ∀ (i : Nat) f,(ndF x)[i]? = some f → ∃ v,[.string x.n,.string x.z,.int .i64 x.c,.int .i64 x.s,.int .i64 x.u,.bool x.d,.slice a l c][i]? = some v ∧ f.Fr w g Q v:=by
 intro i f h;rcases i with _ | _ | _ | _ | _ | _ | _ | i
 ·cases h;exact ⟨_,rfl,rfl,hn⟩
 ·cases h;exact ⟨_,rfl,rfl,hz⟩
 ·cases h;exact ⟨_,rfl,rfl⟩
 ·cases h;exact ⟨_,rfl,rfl⟩
 ·cases h;exact ⟨_,rfl,rfl⟩
 ·cases h;exact ⟨_,rfl,rfl⟩
 ·cases h;exact ⟨_,rfl,hl⟩
 ·simp [ndF] at h

theorem iownnd_any (x : Nd) (va : Option Addr) (vl vc : Nat) (w : World) (hr : TxRow w va vl vc x.zs) (hl : vl ≤ 8001) :
  Calls Tryz.prog 70 #[.agg #[.string x.n,.string x.z,.int .i64 x.c,.int .i64 x.s,.int .i64 x.u,.bool x.d,.slice va vl vc]] w fun e w' => ∃ a' l' c',e = .returned (.agg #[.string x.n,.string x.z,.int .i64 x.c,.int .i64 x.s,.int .i64 x.u,.bool x.d,.slice a' l' c']) ∧ TOwn w' a' l' c' x.zs (fun k => w.heap.size ≤ k) ∧ Below w.heap.size w w':=by
 obtain ⟨HR,HB⟩:=qqb70;clear hr;go_enter Tryz.func70,Tryz.ntmps70;go_wp2_with fail;refine (Ap.ownNames_any va vl vc x.zs _ (HR.out.below (HB.out.trans ((below2 _ _ _).mono HB.out.size))) hl).mono ?_;rintro e w1 ⟨a',l',c',rfl,h1,h2,hb⟩;obtain ⟨HA0,HA1,hbx⟩:=slots2 hb;have Bp:=hidK HA0;have Br:=hidK HA1;replace HB:=upB HB hbx;clear hb hbx HA0 HA1;have HO : Hid (TOwn w1 a' l' c' x.zs (fun k => w.heap.size + 1 + 1 ≤ k)):=⟨h1,h2.imp id fun ⟨g,cur,e1,e2,e3⟩ => ⟨g,cur,e1,by simpa using e2,e3⟩⟩;clear h1 h2;obtain ⟨p0,p1,p2,p3,p4,p5,p6⟩:=cs7 Bp.out;have ltp_1:=lt_of_some Bp.out;obtain ⟨r0,r1,r2,r3,r4,r5,r6⟩:=cs7 Br.out;have ltr_1:=lt_of_some Br.out;have fp0:=froK Bp.out 0;have fr0:=froK Br.out 0;have fp1:=froK Bp.out 1;have fr1:=froK Br.out 1;have fp2:=froK Bp.out 2;have fr2:=froK Br.out 2;have fp3:=froK Bp.out 3;have fr3:=froK Br.out 3;have fp4:=froK Bp.out 4;have fr4:=froK Br.out 4;have fp5:=froK Bp.out 5;have fr5:=froK Br.out 5;have fp6:=froK Bp.out 6;have fr6:=froK Br.out 6;go_wp2_with fail;refine bodyPost_ret (v:=.agg #[.string x.n,.string x.z,.int .i64 x.c,.int .i64 x.s,.int .i64 x.u,.bool x.d,.slice a' l' c']) (by simp [results,Tryz.results70,go_sem, *]) rfl ⟨a',l',c',rfl,HO.out.keep (fun k _ s => by have s1 : w.heap.size + 1 + 1 ≤ k:=s;rw [Below.heap_setCell _ _ _ _ (show k ≠ w.heap.size + 1 by omega),Below.heap_setCell _ _ _ _ (show k ≠ w.heap.size + 1 by omega),Below.heap_setCell _ _ _ _ (show k ≠ w.heap.size + 1 by omega),Below.heap_setCell _ _ _ _ (show k ≠ w.heap.size + 1 by omega),Below.heap_setCell _ _ _ _ (show k ≠ w.heap.size + 1 by omega),Below.heap_setCell _ _ _ _ (show k ≠ w.heap.size + 1 by omega),Below.heap_setCell _ _ _ _ (show k ≠ w.heap.size + 1 by omega),Below.heap_setCell _ _ _ _ (show k ≠ w.heap.size by omega)]) (fun k _ s => by have s1 : w.heap.size + 1 + 1 ≤ k:=s;show w.heap.size ≤ k;omega),set_below (show w.heap.size ≤ w.heap.size + 1 by omega) (set_below (show w.heap.size ≤ w.heap.size + 1 by omega) (set_below (show w.heap.size ≤ w.heap.size + 1 by omega) (set_below (show w.heap.size ≤ w.heap.size + 1 by omega) (set_below (show w.heap.size ≤ w.heap.size + 1 by omega) (set_below (show w.heap.size ≤ w.heap.size + 1 by omega) (set_below (show w.heap.size ≤ w.heap.size + 1 by omega) (set_below (Nat.le_refl _) (HB.out))))))))⟩

theorem iownednd_any (a : Option Addr) (len cap : Nat) (xs : List Nd) (w : World) (hr : RRow w a len cap 7 (xs.map ndF)) (hl : len ≤ 8) (hs : ∀ (j : Nat) x,xs[j]? = some x → x.zs.length ≤ 8001) :
  Calls Tryz.prog 69 #[.slice a len cap,.func (.func 70) #[] #[]] w fun e w' => ∃ a' c',e = .returned (.slice a' len c') ∧ ROwn w' a' len c' 7 82 (xs.map ndF) (fun k => w.heap.size ≤ k) ∧ Below w.heap.size w w':=by
 have HR:=hidK hr;have HS:=hidK hs;have hxl : xs.length = len:=qqd8
 clear hr hs;obtain ⟨i0,hi,hz0,hz1,hz2⟩:=info_parts infond;have HI0:=hidK (And.intro hi (And.intro hz0 (And.intro hz1 hz2)));clear hi hz0 hz1 hz2;go_enter Tryz.func69,Tryz.ntmps69;go_wp2;go_loopw [5,10] (fun vo vi wr => ∃ (k : Nat) (vss : List (List Value)) (H : Nat → Nat → Nat),k ≤ len ∧ vi = .int .i64 k ∧ Hid (wr.ownsRow w.heap.size 82 7 vo k vss.flatten) ∧ Hid (VRecs wr (fun k => w.heap.size ≤ k) 7 ((xs.take k).map ndF) vss H) ∧ Hid (Below w.heap.size w wr)) (fun _ vi _ => len - (intOf vi).toNat);case atStart => exact ⟨0,[],fun _ _ => 0,by omega,rfl,World.ownsRow_nil _ _ _ _,VRecs.nil _ _ _ _,Below.refl _ _⟩
 case round =>
  obtain ⟨k,vss,H,hk,rfl,HO,HV,HB⟩:=hrel;have hBs:=HB.out.size;by_cases hlt : k < len
  ·obtain ⟨b,o,x,rfl,hb,hx,hat⟩:=nd_at (HR.out.below HB.out) hlt;obtain ⟨va,vl,vc,hvr,z0,z1,c0,c1,c2,c3,c4,c5,c6⟩:=nd_cells hat;obtain ⟨hz8,HX,HT,HZz0⟩:=qqb85;have HZz1:=hidK z1;clear hat hx hvr z0 z1;go_wp2_with fail;refine (iownnd_any x va vl vc _ (HT.out.below (below1 _ _)) hz8).mono ?_;rintro e w2 ⟨a',l',c',rfl,ho,hb2⟩;obtain ⟨-,hbx⟩:=slots1 hb2;rw [size1] at ho;obtain ⟨g,hg⟩:=ho.fr;obtain ⟨HG,HX2,HO2,hs2⟩:=qqb58;clear ho hb2 hbx hg hb c0 c1 c2 c3 c4 c5 c6;go_wp2_with (first | (at_builtin;refine wpList_append_own _ rfl _ _ 30 rfl w.heap.size 82 i0 (.agg #[.string ⟨#[]⟩,.string ⟨#[]⟩,.int .i64 0,.int .i64 0,.int .i64 0,.bool false,.slice none 0 0]) 7 88 Tryz.underlying30 HI0.out.1 HI0.out.2.1 HI0.out.2.2.1 HI0.out.2.2.2 rfl qqd3 _ _ _ rfl (HO2.out.alloc _) ⟨w2.heap.size,0,none⟩ 1 1 [.string x.n,.string x.z,.int .i64 x.c,.int .i64 x.s,.int .i64 x.u,.bool x.d,.slice a' l' c'] rfl rfl ?c1 ?c2 ?c3 ?c4 ?c5 ?_));case c1 => exact news_alloc _ _ _
   case c2 => intro u hu;simp only [List.mem_cons,List.not_mem_nil,or_false] at hu;rcases hu with rfl | rfl | rfl | rfl | rfl | rfl | rfl <;> rfl
   case c3 => unfold maxLen;omega
   case c4 => omega
   case c5 => simp;omega
   rintro v' w3 hown3 hgrow -;have HO3 : Hid (w3.ownsRow w.heap.size 82 7 v' (k + 1) (vss ++ ([[.string x.n,.string x.z,.int .i64 x.c,.int .i64 x.s,.int .i64 x.u,.bool x.d,.slice a' l' c']] : List (List Value))).flatten):=by
    exact qqa135
   have hb23 : Below wr.heap.size wr (w2.alloc (.cells #[.string x.n,.string x.z,.int .i64 x.c,.int .i64 x.s,.int .i64 x.u,.bool x.d,.slice a' l' c'] 82)):=HX2.out.trans ((below1 _ _).mono (Nat.le_of_lt hs2));have hV:=HV.out.app (r:=ndF x) (vs:=[.string x.n,.string x.z,.int .i64 x.c,.int .i64 x.s,.int .i64 x.u,.bool x.d,.slice a' l' c']) (hh:=g) hb23 (HO2.out.alloc _) qqd3 hgrow rfl rfl
    (nd_fr HZz0.out HZz1.out (HG.out.keep (S':=fun k => w.heap.size ≤ k) (fun cu _ q => Below.heap_alloc _ _ _ (lt_of_some q)) (fun _ s => by have s1 : wr.heap.size + 1 ≤ g:=s;show w.heap.size ≤ g;omega)))
    (fun i zs hi hz => by obtain ⟨_,rfl⟩:=nd_l hi;have s1 : wr.heap.size + 1 ≤ g:=(HG.out.lt hz).1;omega) (fun i i' zs zs' h1 _ h2 _ => (nd_l h1).1.trans (nd_l h2).1.symm)
   have e1 : (xs.take (k + 1)).map ndF = (xs.take k).map ndF ++ [ndF x]:=by rw [List.take_add_one,HX.out];simp
   exact qqa35
  ·obtain rfl : len = k:=qqd1
   have h5:=HV.out;rw [List.take_of_length_le qqd1] at h5;obtain ⟨a',c',rfl,hR⟩:=h5.own HO.out (by simp [hxl]) qqd3 (fun g hg => (HO.out.lt g hg).1);have HR5:=hidK hR;have hl5 : (xs.map ndF).length = len:=by simpa using hxl
   exact qqa83

theorem vd_l {x : Vd} {i : Nat} {zs : List ByteArray} (h : (vdF x)[i]? = some (.l zs)) : i = 7 ∧ zs = x.zs:=by
 rcases i with _ | _ | _ | _ | _ | _ | _ | _ | i
 ·cases h
 ·cases h
 ·cases h
 ·cases h
 ·cases h
 ·cases h
 ·cases h
 ·cases h;exact ⟨rfl,rfl⟩
 ·simp [vdF] at h
theorem vd_fr {w : World} {x : Vd} {g : Nat} {Q : Nat → Prop} {a : Option Addr} {l c : Nat} (hn : x.n.size ≤ 9223372036854775807) (hz : x.z.size ≤ 9223372036854775807) (hk : x.k.size ≤ 9223372036854775807) (hm : x.m.size ≤ 9223372036854775807) (hl : LFr w g Q x.zs (.slice a l c)) : ∀ (i : Nat) f,(vdF x)[i]? = some f → ∃ v,[.string x.n,.int .i64 x.c,.string x.z,.string x.k,.bool x.x,.string x.m,.bool x.y,.slice a l c][i]? = some v ∧ f.Fr w g Q v:=by
 intro i f h;rcases i with _ | _ | _ | _ | _ | _ | _ | _ | i
 ·cases h;exact ⟨_,rfl,rfl,hn⟩
 ·cases h;exact ⟨_,rfl,rfl⟩
 ·cases h;exact ⟨_,rfl,rfl,hz⟩
 ·cases h;exact ⟨_,rfl,rfl,hk⟩
 ·cases h;exact ⟨_,rfl,rfl⟩
 ·cases h;exact ⟨_,rfl,rfl,hm⟩
 ·cases h;exact ⟨_,rfl,rfl⟩
 ·cases h;exact ⟨_,rfl,hl⟩
 ·simp [vdF] at h

theorem iownvd_any (x : Vd) (va : Option Addr) (vl vc : Nat) (w : World) (hr : TxRow w va vl vc x.zs) (hl : vl ≤ 8001) :
  Calls Tryz.prog 72 #[.agg #[.string x.n,.int .i64 x.c,.string x.z,.string x.k,.bool x.x,.string x.m,.bool x.y,.slice va vl vc]] w fun e w' => ∃ a' l' c',e = .returned (.agg #[.string x.n,.int .i64 x.c,.string x.z,.string x.k,.bool x.x,.string x.m,.bool x.y,.slice a' l' c']) ∧ TOwn w' a' l' c' x.zs (fun k => w.heap.size ≤ k) ∧ Below w.heap.size w w':=by
 refine (Ap.iown_any x.n x.c x.z x.k x.x x.m x.y va vl vc x.zs w hr hl).mono ?_;rintro e w' ⟨a',l',c',rfl,h1,h2,hb⟩;exact ⟨a',l',c',rfl,⟨h1,h2⟩,hb⟩

theorem iownedvd_any (a : Option Addr) (len cap : Nat) (xs : List Vd) (w : World) (hr : RRow w a len cap 8 (xs.map vdF)) (hl : len ≤ 8) (hs : ∀ (j : Nat) x,xs[j]? = some x → x.zs.length ≤ 8001) :
  Calls Tryz.prog 71 #[.slice a len cap,.func (.func 72) #[] #[]] w fun e w' => ∃ a' c',e = .returned (.slice a' len c') ∧ ROwn w' a' len c' 8 106 (xs.map vdF) (fun k => w.heap.size ≤ k) ∧ Below w.heap.size w w':=by
 have HR:=hidK hr;have HS:=hidK hs;have hxl : xs.length = len:=qqd8
 clear hr hs;obtain ⟨i0,hi,hz0,hz1,hz2⟩:=info_parts infovd;have HI0:=hidK (And.intro hi (And.intro hz0 (And.intro hz1 hz2)));clear hi hz0 hz1 hz2;go_enter Tryz.func71,Tryz.ntmps71;go_wp2;go_loopw [5,10] (fun vo vi wr => ∃ (k : Nat) (vss : List (List Value)) (H : Nat → Nat → Nat),k ≤ len ∧ vi = .int .i64 k ∧ Hid (wr.ownsRow w.heap.size 106 8 vo k vss.flatten) ∧ Hid (VRecs wr (fun k => w.heap.size ≤ k) 8 ((xs.take k).map vdF) vss H) ∧ Hid (Below w.heap.size w wr)) (fun _ vi _ => len - (intOf vi).toNat);case atStart => exact ⟨0,[],fun _ _ => 0,by omega,rfl,World.ownsRow_nil _ _ _ _,VRecs.nil _ _ _ _,Below.refl _ _⟩
 case round =>
  obtain ⟨k,vss,H,hk,rfl,HO,HV,HB⟩:=hrel;have hBs:=HB.out.size;by_cases hlt : k < len
  ·obtain ⟨b,o,x,rfl,hb,hx,hat⟩:=vd_at (HR.out.below HB.out) hlt;obtain ⟨va,vl,vc,hvr,z0,z2,z3,z5,c0,c1,c2,c3,c4,c5,c6,c7⟩:=vd_cells hat;obtain ⟨hz8,HX,HT,HZz0⟩:=qqb85;have HZz2:=hidK z2;have HZz3:=hidK z3;have HZz5:=hidK z5;clear hat hx hvr z0 z2 z3 z5;go_wp2_with fail;refine (iownvd_any x va vl vc _ (HT.out.below (below1 _ _)) hz8).mono ?_;rintro e w2 ⟨a',l',c',rfl,ho,hb2⟩;obtain ⟨-,hbx⟩:=slots1 hb2;rw [size1] at ho;obtain ⟨g,hg⟩:=ho.fr;obtain ⟨HG,HX2,HO2,hs2⟩:=qqb58;clear ho hb2 hbx hg hb c0 c1 c2 c3 c4 c5 c6 c7;go_wp2_with (first | (at_builtin;refine wpList_append_own _ rfl _ _ 32 rfl w.heap.size 106 i0 (.agg #[.string ⟨#[]⟩,.int .i64 0,.string ⟨#[]⟩,.string ⟨#[]⟩,.bool false,.string ⟨#[]⟩,.bool false,.slice none 0 0]) 8 112 Tryz.underlying32 HI0.out.1 HI0.out.2.1 HI0.out.2.2.1 HI0.out.2.2.2 rfl qqd3 _ _ _ rfl (HO2.out.alloc _) ⟨w2.heap.size,0,none⟩ 1 1 [.string x.n,.int .i64 x.c,.string x.z,.string x.k,.bool x.x,.string x.m,.bool x.y,.slice a' l' c'] rfl rfl ?c1 ?c2 ?c3 ?c4 ?c5 ?_));case c1 => exact news_alloc _ _ _
   case c2 => intro u hu;simp only [List.mem_cons,List.not_mem_nil,or_false] at hu;rcases hu with rfl | rfl | rfl | rfl | rfl | rfl | rfl | rfl <;> rfl
   case c3 => unfold maxLen;omega
   case c4 => omega
   case c5 => simp;omega
   rintro v' w3 hown3 hgrow -;have HO3 : Hid (w3.ownsRow w.heap.size 106 8 v' (k + 1) (vss ++ ([[.string x.n,.int .i64 x.c,.string x.z,.string x.k,.bool x.x,.string x.m,.bool x.y,.slice a' l' c']] : List (List Value))).flatten):=by
    exact qqa135
   have hb23 : Below wr.heap.size wr (w2.alloc (.cells #[.string x.n,.int .i64 x.c,.string x.z,.string x.k,.bool x.x,.string x.m,.bool x.y,.slice a' l' c'] 106)):=HX2.out.trans ((below1 _ _).mono (Nat.le_of_lt hs2));have hV:=HV.out.app (r:=vdF x) (vs:=[.string x.n,.int .i64 x.c,.string x.z,.string x.k,.bool x.x,.string x.m,.bool x.y,.slice a' l' c']) (hh:=g) hb23 (HO2.out.alloc _) qqd3 hgrow rfl rfl
    (vd_fr HZz0.out HZz2.out HZz3.out HZz5.out (HG.out.keep (S':=fun k => w.heap.size ≤ k) (fun cu _ q => Below.heap_alloc _ _ _ (lt_of_some q)) (fun _ s => by have s1 : wr.heap.size + 1 ≤ g:=s;show w.heap.size ≤ g;omega)))
    (fun i zs hi hz => by obtain ⟨_,rfl⟩:=vd_l hi;have s1 : wr.heap.size + 1 ≤ g:=(HG.out.lt hz).1;omega) (fun i i' zs zs' h1 _ h2 _ => (vd_l h1).1.trans (vd_l h2).1.symm)
   have e1 : (xs.take (k + 1)).map vdF = (xs.take k).map vdF ++ [vdF x]:=by rw [List.take_add_one,HX.out];simp
   exact qqa35
  ·obtain rfl : len = k:=qqd1
   have h5:=HV.out;rw [List.take_of_length_le qqd1] at h5;obtain ⟨a',c',rfl,hR⟩:=h5.own HO.out (by simp [hxl]) qqd3 (fun g hg => (HO.out.lt g hg).1);have HR5:=hidK hR;have hl5 : (xs.map vdF).length = len:=by simpa using hxl
   exact qqa83

theorem pd_l {x : Pd} {i : Nat} {zs : List ByteArray} (h : (pdF x)[i]? = some (.l zs)) : i = 3 ∧ zs = x.zs:=by
 rcases i with _ | _ | _ | _ | _ | _ | i
 ·cases h
 ·cases h
 ·cases h
 ·cases h;exact ⟨rfl,rfl⟩
 ·cases h
 ·cases h
 ·simp [pdF] at h
theorem pd_fr {w : World} {x : Pd} {g : Nat} {Q : Nat → Prop} {a : Option Addr} {l c : Nat} (hn : x.n.size ≤ 9223372036854775807) (hz : x.z.size ≤ 9223372036854775807) (hd : x.d.size ≤ 9223372036854775807) (hl : LFr w g Q x.zs (.slice a l c)) : ∀ (i : Nat) f,(pdF x)[i]? = some f → ∃ v,[.string x.n,.int .i64 x.c,.string x.z,.slice a l c,.string x.d,.int .i64 x.p][i]? = some v ∧ f.Fr w g Q v:=by
 intro i f h;rcases i with _ | _ | _ | _ | _ | _ | i
 ·cases h;exact ⟨_,rfl,rfl,hn⟩
 ·cases h;exact ⟨_,rfl,rfl⟩
 ·cases h;exact ⟨_,rfl,rfl,hz⟩
 ·cases h;exact ⟨_,rfl,hl⟩
 ·cases h;exact ⟨_,rfl,rfl,hd⟩
 ·cases h;exact ⟨_,rfl,rfl⟩
 ·simp [pdF] at h

theorem iownpd_any (x : Pd) (va : Option Addr) (vl vc : Nat) (w : World) (hr : TxRow w va vl vc x.zs) (hl : vl ≤ 8001) :
  Calls Tryz.prog 74 #[.agg #[.string x.n,.int .i64 x.c,.string x.z,.slice va vl vc,.string x.d,.int .i64 x.p]] w fun e w' => ∃ a' l' c',e = .returned (.agg #[.string x.n,.int .i64 x.c,.string x.z,.slice a' l' c',.string x.d,.int .i64 x.p]) ∧ TOwn w' a' l' c' x.zs (fun k => w.heap.size ≤ k) ∧ Below w.heap.size w w':=by
 obtain ⟨HR,HB⟩:=qqb70;clear hr;go_enter Tryz.func74,Tryz.ntmps74;go_wp2_with fail;refine (Ap.ownNames_any va vl vc x.zs _ (HR.out.below (HB.out.trans ((below2 _ _ _).mono HB.out.size))) hl).mono ?_;rintro e w1 ⟨a',l',c',rfl,h1,h2,hb⟩;obtain ⟨HA0,HA1,hbx⟩:=slots2 hb;have Bp:=hidK HA0;have Br:=hidK HA1;replace HB:=upB HB hbx;clear hb hbx HA0 HA1;have HO : Hid (TOwn w1 a' l' c' x.zs (fun k => w.heap.size + 1 + 1 ≤ k)):=⟨h1,h2.imp id fun ⟨g,cur,e1,e2,e3⟩ => ⟨g,cur,e1,by simpa using e2,e3⟩⟩;clear h1 h2;obtain ⟨p0,p1,p2,p3,p4,p5⟩:=cs6 Bp.out;have ltp_1:=lt_of_some Bp.out;obtain ⟨r0,r1,r2,r3,r4,r5⟩:=cs6 Br.out;have ltr_1:=lt_of_some Br.out;have fp0:=froK Bp.out 0;have fr0:=froK Br.out 0;have fp1:=froK Bp.out 1;have fr1:=froK Br.out 1;have fp2:=froK Bp.out 2;have fr2:=froK Br.out 2;have fp3:=froK Bp.out 3;have fr3:=froK Br.out 3;have fp4:=froK Bp.out 4;have fr4:=froK Br.out 4;have fp5:=froK Bp.out 5;have fr5:=froK Br.out 5;go_wp2_with fail;refine bodyPost_ret (v:=.agg #[.string x.n,.int .i64 x.c,.string x.z,.slice a' l' c',.string x.d,.int .i64 x.p]) (by simp [results,Tryz.results74,go_sem, *]) rfl ⟨a',l',c',rfl,HO.out.keep (fun k _ s => by have s1 : w.heap.size + 1 + 1 ≤ k:=s;rw [Below.heap_setCell _ _ _ _ (show k ≠ w.heap.size + 1 by omega),Below.heap_setCell _ _ _ _ (show k ≠ w.heap.size + 1 by omega),Below.heap_setCell _ _ _ _ (show k ≠ w.heap.size + 1 by omega),Below.heap_setCell _ _ _ _ (show k ≠ w.heap.size + 1 by omega),Below.heap_setCell _ _ _ _ (show k ≠ w.heap.size + 1 by omega),Below.heap_setCell _ _ _ _ (show k ≠ w.heap.size + 1 by omega),Below.heap_setCell _ _ _ _ (show k ≠ w.heap.size by omega)]) (fun k _ s => by have s1 : w.heap.size + 1 + 1 ≤ k:=s;show w.heap.size ≤ k;omega),set_below (show w.heap.size ≤ w.heap.size + 1 by omega) (set_below (show w.heap.size ≤ w.heap.size + 1 by omega) (set_below (show w.heap.size ≤ w.heap.size + 1 by omega) (set_below (show w.heap.size ≤ w.heap.size + 1 by omega) (set_below (show w.heap.size ≤ w.heap.size + 1 by omega) (set_below (show w.heap.size ≤ w.heap.size + 1 by omega) (set_below (Nat.le_refl _) (HB.out)))))))⟩

theorem iownedpd_any (a : Option Addr) (len cap : Nat) (xs : List Pd) (w : World) (hr : RRow w a len cap 6 (xs.map pdF)) (hl : len ≤ 8) (hs : ∀ (j : Nat) x,xs[j]? = some x → x.zs.length ≤ 8001) :
  Calls Tryz.prog 73 #[.slice a len cap,.func (.func 74) #[] #[]] w fun e w' => ∃ a' c',e = .returned (.slice a' len c') ∧ ROwn w' a' len c' 6 69 (xs.map pdF) (fun k => w.heap.size ≤ k) ∧ Below w.heap.size w w':=by
 have HR:=hidK hr;have HS:=hidK hs;have hxl : xs.length = len:=qqd8
 clear hr hs;obtain ⟨i0,hi,hz0,hz1,hz2⟩:=info_parts infopd;have HI0:=hidK (And.intro hi (And.intro hz0 (And.intro hz1 hz2)));clear hi hz0 hz1 hz2;go_enter Tryz.func73,Tryz.ntmps73;go_wp2;go_loopw [5,10] (fun vo vi wr => ∃ (k : Nat) (vss : List (List Value)) (H : Nat → Nat → Nat),k ≤ len ∧ vi = .int .i64 k ∧ Hid (wr.ownsRow w.heap.size 69 6 vo k vss.flatten) ∧ Hid (VRecs wr (fun k => w.heap.size ≤ k) 6 ((xs.take k).map pdF) vss H) ∧ Hid (Below w.heap.size w wr)) (fun _ vi _ => len - (intOf vi).toNat);case atStart => exact ⟨0,[],fun _ _ => 0,by omega,rfl,World.ownsRow_nil _ _ _ _,VRecs.nil _ _ _ _,Below.refl _ _⟩
 case round =>
  obtain ⟨k,vss,H,hk,rfl,HO,HV,HB⟩:=hrel;have hBs:=HB.out.size;by_cases hlt : k < len
  ·obtain ⟨b,o,x,rfl,hb,hx,hat⟩:=pd_at (HR.out.below HB.out) hlt;obtain ⟨va,vl,vc,hvr,z0,z2,z4,c0,c1,c2,c3,c4,c5⟩:=pd_cells hat;obtain ⟨hz8,HX,HT,HZz0⟩:=qqb85;have HZz2:=hidK z2;have HZz4:=hidK z4;clear hat hx hvr z0 z2 z4;go_wp2_with fail;refine (iownpd_any x va vl vc _ (HT.out.below (below1 _ _)) hz8).mono ?_;rintro e w2 ⟨a',l',c',rfl,ho,hb2⟩;obtain ⟨-,hbx⟩:=slots1 hb2;rw [size1] at ho;obtain ⟨g,hg⟩:=ho.fr;obtain ⟨HG,HX2,HO2,hs2⟩:=qqb58;clear ho hb2 hbx hg hb c0 c1 c2 c3 c4 c5;go_wp2_with (first | (at_builtin;refine wpList_append_own _ rfl _ _ 34 rfl w.heap.size 69 i0 (.agg #[.string ⟨#[]⟩,.int .i64 0,.string ⟨#[]⟩,.slice none 0 0,.string ⟨#[]⟩,.int .i64 0]) 6 88 Tryz.underlying34 HI0.out.1 HI0.out.2.1 HI0.out.2.2.1 HI0.out.2.2.2 rfl qqd3 _ _ _ rfl (HO2.out.alloc _) ⟨w2.heap.size,0,none⟩ 1 1 [.string x.n,.int .i64 x.c,.string x.z,.slice a' l' c',.string x.d,.int .i64 x.p] rfl rfl ?c1 ?c2 ?c3 ?c4 ?c5 ?_));case c1 => exact news_alloc _ _ _
   case c2 => intro u hu;simp only [List.mem_cons,List.not_mem_nil,or_false] at hu;rcases hu with rfl | rfl | rfl | rfl | rfl | rfl <;> rfl
   case c3 => unfold maxLen;omega
   case c4 => omega
   case c5 => simp;omega
   rintro v' w3 hown3 hgrow -;have HO3 : Hid (w3.ownsRow w.heap.size 69 6 v' (k + 1) (vss ++ ([[.string x.n,.int .i64 x.c,.string x.z,.slice a' l' c',.string x.d,.int .i64 x.p]] : List (List Value))).flatten):=by
    exact qqa135
   have hb23 : Below wr.heap.size wr (w2.alloc (.cells #[.string x.n,.int .i64 x.c,.string x.z,.slice a' l' c',.string x.d,.int .i64 x.p] 69)):=HX2.out.trans ((below1 _ _).mono (Nat.le_of_lt hs2));have hV:=HV.out.app (r:=pdF x) (vs:=[.string x.n,.int .i64 x.c,.string x.z,.slice a' l' c',.string x.d,.int .i64 x.p]) (hh:=g) hb23 (HO2.out.alloc _) qqd3 hgrow rfl rfl
    (pd_fr HZz0.out HZz2.out HZz4.out (HG.out.keep (S':=fun k => w.heap.size ≤ k) (fun cu _ q => Below.heap_alloc _ _ _ (lt_of_some q)) (fun _ s => by have s1 : wr.heap.size + 1 ≤ g:=s;show w.heap.size ≤ g;omega)))
    (fun i zs hi hz => by obtain ⟨_,rfl⟩:=pd_l hi;have s1 : wr.heap.size + 1 ≤ g:=(HG.out.lt hz).1;omega) (fun i i' zs zs' h1 _ h2 _ => (pd_l h1).1.trans (pd_l h2).1.symm)
   have e1 : (xs.take (k + 1)).map pdF = (xs.take k).map pdF ++ [pdF x]:=by rw [List.take_add_one,HX.out];simp
   exact qqa35
  ·obtain rfl : len = k:=qqd1
   have h5:=HV.out;rw [List.take_of_length_le qqd1] at h5;obtain ⟨a',c',rfl,hR⟩:=h5.own HO.out (by simp [hxl]) qqd3 (fun g hg => (HO.out.lt g hg).1);have HR5:=hidK hR;have hl5 : (xs.map pdF).length = len:=by simpa using hxl
   exact qqa83

end Rc
end Go.Proofs.YtpibkpofdbjdaaaGreatDoor

namespace Go.Proofs.YtpibkpofdbjdaaaGreatDoor
open Go.RowKit
namespace Gi

abbrev Rs:=Option Tmp → World → World → Prop
structure Rel (R : Rs) (sp : Tmp) : Prop where
 refl : ∀ w,R none w w
 trans : ∀ {a b c},R none a b → R none b c → R none a c
 size : ∀ {a b},R none a b → a.heap.size ≤ b.heap.size
 drew : ∀ w,R none w w.drew
 sub : ∀ s {a b},R s a b → R none a b
 low : ∀ s {a b},¬ s = none → ¬ s = some sp → R s a b → Below a.heap.size a b
abbrev Fact:=Value → World → Nat → Nat → Prop
abbrev Ex:=Tmp → Option Tmp
def Fact.Mono (R : Rs) (ex : Ex) (d : Option Tmp) (φ : Fact) : Prop:=∀ s,¬ s = none → ¬ s = d → (∀ t e,d = some t → ex t = some e → ¬ s = some e) → ∀ v w w' l h,φ v w l h → R s w w' → φ v w' l h
theorem Fact.mono_eq (R : Rs) (ex : Ex) (d : Option Tmp) (c : Value) : Fact.Mono R ex d (fun v _ _ _ => v = c):=fun _ _ _ _ _ _ _ _ _ h _ => h

def slotFact (ex : Ex) (d : Option Tmp) (a0 : Act) (known : List (Tmp × Fact)) (a : Act) (w : World) (lo hi : Tmp → Nat) (t : Tmp) : Prop :=
 match known.lookup t with
 | some φ => (ex t = none ∨ ex t = d) → φ (a.tmps.getD t undef) w (lo t) (hi t)
 | none => a.tmps.getD t undef = a0.tmps.getD t undef

def ApartAt (known : List (Tmp × Fact)) (lo hi : Tmp → Nat) (ts : List Tmp) : Prop:=∀ t ∈ ts,∀ t' ∈ ts,(known.lookup t).isSome = true → (known.lookup t').isSome = true → ¬ t = t' → hi t ≤ lo t' ∨ hi t' ≤ lo t
def Obl (R : Rs) (sp : Tmp) (ex : Ex) (P : Program) (ops : Array Oper) (Q : Exit → Act → World → Prop) (W : World) (a0 : Act) (known : List (Tmp × Fact)) (o : Oper) (φ : Fact) : Prop :=
 ∀ (a : Act) (w : World) (K : Act → World → Prop) (lo hi : Tmp → Nat),a.tmps.size = a0.tmps.size → R none W w → (o.dst = some sp → Below W.heap.size W w) → (∀ t ∈ o.looksAt ops,slotFact ex o.dst a0 known a w lo hi t) → ApartAt known lo hi (o.looksAt ops) →
  (∀ v w',R o.dst w w' → φ v w' w.heap.size w'.heap.size → K (a.put o.dst v) w') → if Region.wanted o (yielded ops a.tmps) = true then o.wp P a w K Q else K (a.put o.dst undef) w

theorem Obl.plain {R : Rs} {sp : Tmp} {ex : Ex} {P : Program} {ops : Array Oper} {Q : Exit → Act → World → Prop} {W : World} {a0 : Act} {known : List (Tmp × Fact)} {o : Oper} {φ : Fact} (hg : o.guard = none)
  (h : ∀ (a : Act) (w : World) (K : Act → World → Prop) (lo hi : Tmp → Nat),a.tmps.size = a0.tmps.size → R none W w → (o.dst = some sp → Below W.heap.size W w) → (∀ t ∈ looksOf o,slotFact ex o.dst a0 known a w lo hi t) → ApartAt known lo hi (looksOf o) → (∀ v w',R o.dst w w' → φ v w' w.heap.size w'.heap.size → K (a.put o.dst v) w') → o.wp P a w K Q) : Obl R sp ex P ops Q W a0 known o φ:=by
 intro a w K lo hi h1 h2 h6 h3 h5 h4;have hw : Region.wanted o (yielded ops a.tmps) = true:=by simp [Region.wanted,hg]
 rw [if_pos hw];have hs : ∀ t ∈ looksOf o,t ∈ o.looksAt ops:=fun t ht => by unfold Oper.looksAt;exact List.mem_append_left _ ht
 exact h a w K lo hi h1 h2 h6 (fun t ht => h3 t (hs t ht)) (fun t ht t' ht' => h5 t (hs t ht) t' (hs t' ht')) h4

def putsAll (a0 : Act) (known : List (Tmp × Fact)) (x : Tmp → Value) : Act:=known.foldr (fun p b => b.put (some p.1) (x p.1)) a0
def Apart (known : List (Tmp × Fact)) (lo hi : Tmp → Nat) : Prop:=∀ p ∈ known,∀ q ∈ known,¬ p.1 = q.1 → hi p.1 ≤ lo q.1 ∨ hi q.1 ≤ lo p.1
def Fin (R : Rs) (ex : Ex) (P : Program) (ops : Array Oper) (Q : Exit → Act → World → Prop) (W : World) (a0 : Act) (back : Option Oper) (known : List (Tmp × Fact)) : Prop :=
 ∀ (x : Tmp → Value) (w : World) (lo hi : Tmp → Nat),R none W w → (∀ p ∈ known,ex p.1 = none → p.2 (x p.1) w (lo p.1) (hi p.1)) → Apart known lo hi → lastStep P ops Q back (putsAll a0 known x) w

def kn (d : Option Tmp) (φ : Fact) (known : List (Tmp × Fact)) : List (Tmp × Fact):=match d with | some t => (t,φ) :: known | none => known

def Grow (R : Rs) (sp : Tmp) (ex : Ex) (P : Program) (ops : Array Oper) (Q : Exit → Act → World → Prop) (W : World) (a0 : Act) (back : Option Oper) : List Oper → List (Tmp × Fact) → Prop
 | [],known => Fin R ex P ops Q W a0 back known
 | o :: rest,known => ∃ φ : Fact,φ.Mono R ex o.dst ∧ Obl R sp ex P ops Q W a0 known o φ ∧ Grow R sp ex P ops Q W a0 back rest (kn o.dst φ known)
theorem Grow.step {R : Rs} {sp : Tmp} {ex : Ex} {P : Program} {ops : Array Oper} {Q : Exit → Act → World → Prop} {W : World} {a0 : Act} {back : Option Oper} {o : Oper} {rest : List Oper} {known : List (Tmp × Fact)} {t : Tmp} (φ : Fact) (hd : o.dst = some t) (hφ : φ.Mono R ex (some t)) (ho : Obl R sp ex P ops Q W a0 known o φ)
  (h : Grow R sp ex P ops Q W a0 back rest ((t,φ) :: known)) : Grow R sp ex P ops Q W a0 back (o :: rest) known:=⟨φ,by rw [hd];exact hφ,ho,by rw [hd];exact h⟩
theorem Grow.stepC {R : Rs} {sp : Tmp} {ex : Ex} {P : Program} {ops : Array Oper} {Q : Exit → Act → World → Prop} {W : World} {a0 : Act} {back : Option Oper} {o : Oper} {rest : List Oper} {known : List (Tmp × Fact)} {t : Tmp} (c : Value) (hd : o.dst = some t) (ho : Obl R sp ex P ops Q W a0 known o (fun v _ _ _ => v = c))
  (h : Grow R sp ex P ops Q W a0 back rest ((t,fun v _ _ _ => v = c) :: known)) : Grow R sp ex P ops Q W a0 back (o :: rest) known:=Grow.step _ hd (Fact.mono_eq R ex _ c) ho h
theorem Grow.done {R : Rs} {sp : Tmp} {ex : Ex} {P : Program} {ops : Array Oper} {Q : Exit → Act → World → Prop} {W : World} {a0 : Act} {back : Option Oper} {known : List (Tmp × Fact)} (h : Fin R ex P ops Q W a0 back known) : Grow R sp ex P ops Q W a0 back [] known:=h

section
variable {R : Rs} {sp : Tmp} {ex : Ex} {P : Program} {ops : Array Oper} {Q : Exit → Act → World → Prop} {W : World} {a0 : Act} {back : Option Oper}

def knAll : List (Tmp × Fact) → List Oper → List Fact → List (Tmp × Fact)
 | known,o :: l,φ :: φs => knAll (kn o.dst φ known) l φs
 | known,_,_ => known
theorem knAll_nil (known : List (Tmp × Fact)) (φs : List Fact) : knAll known [] φs = known:=by cases φs <;> rfl

theorem Grow.spec : ∀ (l : List Oper) (known : List (Tmp × Fact)),Grow R sp ex P ops Q W a0 back l known → ∃ φs : List Fact,φs.length = l.length ∧
  (∀ (i : Nat) (o : Oper) (φ : Fact),l[i]? = some o → φs[i]? = some φ → φ.Mono R ex o.dst ∧ Obl R sp ex P ops Q W a0 (knAll known (l.take i) (φs.take i)) o φ) ∧ Fin R ex P ops Q W a0 back (knAll known l φs)
 | [],known,h => ⟨[],rfl,fun i o φ h => by simp at h,by rw [knAll_nil];exact h⟩
 | o :: l,known,h => by
  exact qqa48

theorem lookup_kn (d : Option Tmp) (φ : Fact) (known : List (Tmp × Fact)) (t : Tmp) : (kn d φ known).lookup t = if d = some t then some φ else known.lookup t:=by
 exact qqa74

theorem lookup_some : ∀ (l : List Oper) (φs : List Fact) (known : List (Tmp × Fact)) {t : Tmp} {φ : Fact},(knAll known l φs).lookup t = some φ →
  (∃ (i : Nat) (o : Oper),l[i]? = some o ∧ o.dst = some t ∧ φs[i]? = some φ) ∨ known.lookup t = some φ
 | [],φs,known,t,φ,h => by rw [knAll_nil] at h;exact .inr h
 | o :: l,[],known,t,φ,h => .inr h
 | o :: l,ψ :: φs,known,t,φ,h => by
  exact qqa60
theorem lookup_none : ∀ (l : List Oper) (φs : List Fact) (known : List (Tmp × Fact)) {t : Tmp},(knAll known l φs).lookup t = none →
  known.lookup t = none ∧ ∀ (i : Nat) (o : Oper) (φ : Fact),l[i]? = some o → φs[i]? = some φ → o.dst ≠ some t
 | [],φs,known,t,h => by rw [knAll_nil] at h;exact ⟨h,fun i o φ h => by simp at h⟩
 | o :: l,[],known,t,h => ⟨h,fun i o φ _ h => by simp at h⟩
 | o :: l,ψ :: φs,known,t,h => by
  exact qqa44
theorem mem_knAll : ∀ (l : List Oper) (φs : List Fact) (known : List (Tmp × Fact)) {p : Tmp × Fact},p ∈ knAll known l φs →
  (∃ (i : Nat) (o : Oper),l[i]? = some o ∧ o.dst = some p.1 ∧ φs[i]? = some p.2) ∨ p ∈ known
 | [],φs,known,p,h => by rw [knAll_nil] at h;exact .inr h
 | o :: l,[],known,p,h => .inr h
 | o :: l,ψ :: φs,known,p,h => by
  exact qqa53

theorem putsAll_size (a0 : Act) (x : Tmp → Value) : ∀ known,(putsAll a0 known x).tmps.size = a0.tmps.size
 | [] => rfl
 | p :: l => by unfold putsAll;rw [List.foldr_cons,size_put];exact putsAll_size a0 x l
theorem putsAll_defers (a0 : Act) (x : Tmp → Value) : ∀ known,(putsAll a0 known x).defers = a0.defers
 | [] => rfl
 | p :: l => by unfold putsAll;rw [List.foldr_cons,defers_put];exact putsAll_defers a0 x l
theorem putsAll_getD (a0 a : Act) (known : List (Tmp × Fact)) (hk : ∀ p ∈ known,p.1 < a0.tmps.size) (t : Tmp) (h : (∀ p ∈ known,p.1 ≠ t) → a.tmps.getD t undef = a0.tmps.getD t undef) :
  (putsAll a0 known (fun t => a.tmps.getD t undef)).tmps.getD t undef = a.tmps.getD t undef:=by
 exact qqa33
structure At (R : Rs) (sp : Tmp) (ex : Ex) (front : List Oper) (φs : List Fact) (W : World) (a0 : Act) (listed : Array Bool) (a : Act) (w : World) (lo hi : Tmp → Nat) : Prop where
 size : a.tmps.size = a0.tmps.size
 defers : a.defers = a0.defers
 below : R none W w
 pre : (∀ (i : Nat) (p : Oper),front[i]? = some p → p.dst = some sp → listed.getD i false = false) → Below W.heap.size W w
 known : ∀ (i : Nat) (o : Oper) (φ : Fact),front[i]? = some o → φs[i]? = some φ → ∀ t,o.dst = some t → listed.getD i false = true → (∀ e,ex t = some e → ∀ (i' : Nat) (p' : Oper),front[i']? = some p' → p'.dst = some e → listed.getD i' false = false) → φ (a.tmps.getD t undef) w (lo t) (hi t)
 top : ∀ (i : Nat) (o : Oper),front[i]? = some o → ∀ t,o.dst = some t → listed.getD i false = true → hi t ≤ w.heap.size
 apart : ∀ (i : Nat) (o : Oper) (i' : Nat) (o' : Oper),front[i]? = some o → front[i']? = some o' → ∀ t t',o.dst = some t → o'.dst = some t' → listed.getD i false = true → listed.getD i' false = true → ¬ t = t' → hi t ≤ lo t' ∨ hi t' ≤ lo t
 other : ∀ t,(∀ (i : Nat) (o : Oper),front[i]? = some o → o.dst = some t → listed.getD i false = false) → a.tmps.getD t undef = a0.tmps.getD t undef

theorem At.step {front : List Oper} {φs : List Fact} {listed : Array Bool} {a : Act} {w w' : World} {lo hi : Tmp → Nat} {j : Nat} {o : Oper} {φ : Fact} {v : Value} (hR : Rel R sp) (hds : ¬ o.dst = none) (h : At R sp ex front φs W a0 listed a w lo hi)
  (hn : (front.filterMap (·.dst)).Nodup) (hin : ∀ o ∈ front,∀ t,o.dst = some t → t < a0.tmps.size) (hmono : ∀ (i : Nat) (o : Oper) (φ : Fact),front[i]? = some o → φs[i]? = some φ → φ.Mono R ex o.dst)
  (ho : front[j]? = some o) (hφ : φs[j]? = some φ) (hj : j < listed.size) (hb : R o.dst w w') (hv : φ v w' w.heap.size w'.heap.size) : ∃ lo hi,At R sp ex front φs W a0 (listed.setIfInBounds j true) (a.put o.dst v) w' lo hi:=by
 have old : ∀ (i : Nat) (p : Oper) t,front[i]? = some p → p.dst = some t → ¬ j = i → (listed.setIfInBounds j true).getD i false = true → ¬ o.dst = some t ∧ listed.getD i false = true:=fun i p t hp ht e hl =>
  ⟨fun hd => e (nodup_dst front hn ho hp hd ht),by simpa [Array.getD_eq_getD_getElem?,Array.getElem?_setIfInBounds,e] using hl⟩
 refine ⟨fun t => if o.dst = some t then w.heap.size else lo t,fun t => if o.dst = some t then w'.heap.size else hi t,(size_put _ _ _).trans h.size,(defers_put _ _ _).trans h.defers,hR.trans h.below (hR.sub _ hb),fun hx => ?_,?_,?_,?_,?_⟩
 ·have hns : ¬ o.dst = some sp:=fun e => by
   have:=hx j o ho e;simp [Array.getD_eq_getD_getElem?,hj] at this
  have h1:=h.pre (fun i p hp hd => by
   have h2:=hx i p hp hd;have e : ¬ j = i:=fun e => by subst e;exact hns (by rw [Option.some.inj (ho.symm.trans hp)];exact hd)
   simpa [Array.getD_eq_getD_getElem?,Array.getElem?_setIfInBounds,e] using h2)
  exact h1.trans ((hR.low _ hds hns hb).mono h1.size)
 ·intro i p ψ hp hψ t ht hl hx;by_cases e : j = i
  ·subst e;obtain rfl : o = p:=Option.some.inj (ho.symm.trans hp);obtain rfl : φ = ψ:=Option.some.inj (hφ.symm.trans hψ);simp only [if_pos ht];exact qqa109
  ·obtain ⟨hne,hl'⟩:=old i p t hp ht e hl;simp only [if_neg hne];have hxo : ∀ e,ex t = some e → ∀ (i' : Nat) (p' : Oper),front[i']? = some p' → p'.dst = some e → ¬ j = i' ∧ listed.getD i' false = false:=fun e9 he i' p' hp' hd' => by
    have h9:=hx e9 he i' p' hp' hd';by_cases ej : j = i'
    ·subst ej;simp [Array.getD_eq_getD_getElem?,hj] at h9
    ·exact ⟨ej,by simpa [Array.getD_eq_getD_getElem?,Array.getElem?_setIfInBounds,ej] using h9⟩
   have h1:=hmono i p ψ hp hψ o.dst hds (fun e9 => hne (e9.trans ht)) (fun t9 e9 h8 h9 hd => by
    obtain rfl : t = t9:=Option.some.inj (ht.symm.trans h8);exact (hxo e9 h9 j o ho hd).1 rfl) _ _ _ _ _ (h.known i p ψ hp hψ t ht hl' (fun e9 he i' p' hp' hd' => (hxo e9 he i' p' hp' hd').2)) hb
   exact qqa138
 ·intro i p hp t ht hl;by_cases e : j = i
  ·subst e;obtain rfl : o = p:=Option.some.inj (ho.symm.trans hp);simp only [if_pos ht];exact Nat.le_refl _
  ·obtain ⟨hne,hl'⟩:=old i p t hp ht e hl;simp only [if_neg hne];exact Nat.le_trans (h.top i p hp t ht hl') (hR.size (hR.sub _ hb))
 ·intro i p i' p' hp hp' t t' ht ht' hl hl' hne;by_cases e : j = i
  ·subst e;obtain rfl : o = p:=Option.some.inj (ho.symm.trans hp);by_cases e' : j = i'
   ·subst e';obtain rfl : o = p':=Option.some.inj (ho.symm.trans hp');exact absurd (Option.some.inj (ht.symm.trans ht')) hne
   ·obtain ⟨hne',hl''⟩:=old i' p' t' hp' ht' e' hl';simp only [if_pos ht,if_neg hne'];exact .inr (h.top i' p' hp' t' ht' hl'')
  ·obtain ⟨hne1,hl1⟩:=old i p t hp ht e hl;by_cases e' : j = i'
   ·subst e';obtain rfl : o = p':=Option.some.inj (ho.symm.trans hp');simp only [if_pos ht',if_neg hne1];exact .inl (h.top i p hp t ht hl1)
   ·obtain ⟨hne',hl''⟩:=old i' p' t' hp' ht' e' hl';simp only [if_neg hne1,if_neg hne'];exact h.apart i p i' p' hp hp' t t' ht ht' hl1 hl'' hne
 ·exact qqa39

theorem Fin.last {front : List Oper} {φs : List Fact} {listed : Array Bool} {a : Act} {w : World} {lo hi : Tmp → Nat} (hf : Fin R ex P ops Q W a0 back (knAll [] front φs)) (hlen : φs.length = front.length) (hin : ∀ o ∈ front,∀ t,o.dst = some t → t < a0.tmps.size)
  (h : At R sp ex front φs W a0 listed a w lo hi) (hall : ∀ i,i < front.length → listed.getD i false = true) : lastStep P ops Q back a w:=by
 have h1:=hf (fun t => a.tmps.getD t undef) w lo hi h.below (fun p hp hpe => by
  rcases mem_knAll front φs [] hp with ⟨i,o,h1,h2,h3⟩ | h1
  ·exact h.known i o p.2 h1 h3 p.1 h2 (hall i (List.getElem?_eq_some_iff.1 h1).1) (fun e he => by rw [hpe] at he;cases he)
  ·simp at h1) (fun p hp q hq hne => by
  rcases mem_knAll front φs [] hp with ⟨i,o,h1,h2,h3⟩ | h1
  ·rcases mem_knAll front φs [] hq with ⟨i',o',g1,g2,g3⟩ | g1
   ·exact h.apart i o i' o' h1 g1 p.1 q.1 h2 g2 (hall i (List.getElem?_eq_some_iff.1 h1).1) (hall i' (List.getElem?_eq_some_iff.1 g1).1) hne
   ·simp at g1
  ·simp at h1)
 exact qqa16

theorem wpAny_grow {front : List Oper} {φs : List Fact} (hR : Rel R sp) (hds : ∀ o ∈ front,¬ o.dst = none) (hops : ops = (front ++ back.toList).toArray) (hB : growB a0.tmps.size front back = true) (hlen : φs.length = front.length)
  (hs : ∀ (i : Nat) (o : Oper) (φ : Fact),front[i]? = some o → φs[i]? = some φ → φ.Mono R ex o.dst ∧ Obl R sp ex P ops Q W a0 (knAll [] (front.take i) (φs.take i)) o φ) (hf : Fin R ex P ops Q W a0 back (knAll [] front φs)) :
  ∀ (fuel : Nat) (listed : Array Bool) (a : Act) (w : World),listed.size = ops.size → listed.toList.count false ≤ fuel → (∀ o,back = some o → listed.getD front.length false = false) → (∃ lo hi,At R sp ex front φs W a0 listed a w lo hi) → wpAny P .any ops Q fuel listed a w:=by
 obtain ⟨hn,hin,hdep,hlt,hback⟩:=growB_spec hB;rw [← hops] at hdep hlt;have hsz : ops.size = front.length + back.toList.length:=by rw [hops];simp
 have hend : ∀ (listed : Array Bool) (a : Act) (w : World),listed.size = ops.size → (∀ i,i < ops.size → listed.getD i false = true) → (∀ o,back = some o → listed.getD front.length false = false) → (∃ lo hi,At R sp ex front φs W a0 listed a w lo hi) → Q .normal a w:=by
  rintro listed a w hz hall hb ⟨lo,hi,h⟩;exact qqa81
 intro fuel;induction fuel with
 | zero =>
  intro listed a w hz hc hb h;have hall : ∀ i,i < ops.size → listed.getD i false = true:=fun i hi => no_false qqd1 i qqd1;refine ⟨?_,hend listed a w hz hall hb h⟩
  cases hr : Region.ready .any ops listed with
  | nil => rfl
  | cons j js =>
   have hm : j ∈ Region.ready .any ops listed:=by rw [hr];simp
   obtain ⟨h1,o,ho,-⟩:=mem_ready.1 hm;have hj:=(Array.getElem?_eq_some_iff.1 ho).1;rw [← getD_ft qqd1,hall j hj] at h1
   cases h1
 | succ fuel ih =>
  intro listed a w hz hc hb hlh;refine ⟨fun hr => hend listed a w hz (all_listed hz hlt hr) hb hlh,fun j hj => ?_⟩;obtain ⟨lo,hi,h⟩:=hlh;obtain ⟨hun,o,ho,hall⟩:=mem_ready.1 hj;have hjs : j < ops.size:=(Array.getElem?_eq_some_iff.1 ho).1;have hcs:=count_set (listed:=listed) (i:=j) qqd1 hun
  by_cases hjf : j < front.length
  ·have hof : front[j]? = some o:=by rw [hops] at ho;simpa [List.getElem?_append_left hjf] using ho
   have hφ : φs[j]? = some (φs[j]'(by omega)):=List.getElem?_eq_getElem _;obtain ⟨hm,hob⟩:=hs j o _ hof hφ
   have hfacts : ∀ t ∈ o.looksAt ops,slotFact ex o.dst a0 (knAll [] (front.take j) (φs.take j)) a w lo hi t:=by
    intro t ht;unfold slotFact
    cases hk : (knAll [] (front.take j) (φs.take j)).lookup t with
    | some φ =>
     rcases lookup_some _ _ _ hk with ⟨i,p,h1,h2,h3⟩ | h1
     ·have hij : i < j:=by have:=(List.getElem?_eq_some_iff.1 h1).1;simp at this;omega
      rw [List.getElem?_take,if_pos hij] at h1 h3;obtain ⟨-,e,he,hon,hbi⟩:=hdep j o hof t ht i p h1 h2;have hl:=hall e he hbi;rw [hon] at hl;intro hex;refine h.known i p φ h1 h3 t h2 hl (fun e9 he i' p' hp' hd' => ?_)
      rcases hex with h9 | h9
      ·rw [h9] at he;cases he
      ·have : i' = j:=nodup_dst front hn hp' hof hd' (h9.symm.trans he);subst this;rw [getD_ft qqd1];exact hun
     ·simp at h1
    | none =>
     refine h.other t (fun i p hp hd => ?_)
     exfalso
     obtain ⟨hij,-⟩:=hdep j o hof t ht i p hp hd;have hi:=(List.getElem?_eq_some_iff.1 hp).1;exact (lookup_none _ _ _ hk).2 i p (φs[i]'(by omega)) (by rw [List.getElem?_take,if_pos hij];exact hp) qqd26 hd
   have hfind : ∀ t ∈ o.looksAt ops,((knAll [] (front.take j) (φs.take j)).lookup t).isSome = true → ∃ (i : Nat) (p : Oper),front[i]? = some p ∧ p.dst = some t ∧ listed.getD i false = true:=by
    intro t ht hk;obtain ⟨φ,hφ'⟩:=Option.isSome_iff_exists.1 hk
    rcases lookup_some _ _ _ hφ' with ⟨i,p,h1,h2,h3⟩ | h1
    ·have hij : i < j:=by have:=(List.getElem?_eq_some_iff.1 h1).1;simp at this;omega
     rw [List.getElem?_take,if_pos hij] at h1;obtain ⟨-,e,he,hon,hbi⟩:=hdep j o hof t ht i p h1 h2;have hl:=hall e he hbi;rw [hon] at hl;exact ⟨i,p,h1,h2,hl⟩
    ·simp at h1
   have hap : ApartAt (knAll [] (front.take j) (φs.take j)) lo hi (o.looksAt ops):=by
    intro t ht t' ht' hk hk' hne;obtain ⟨i,p,h1,h2,h3⟩:=hfind t ht hk;obtain ⟨i',p',g1,g2,g3⟩:=hfind t' ht' hk';exact h.apart i p i' p' h1 g1 t t' h2 g2 h3 g3 hne
   have hpre : o.dst = some sp → Below W.heap.size W w:=fun hd => h.pre (fun i p hp hd' => by
    have : i = j:=nodup_dst front hn hp hof hd' hd;subst this;rw [getD_ft qqd1]
    exact hun)
   have h1:=hob a w (wpAny P .any ops Q fuel (listed.setIfInBounds j true)) lo hi h.size h.below hpre hfacts hap (fun v w' hbw hv => by
    refine ih _ _ _ (by simpa using hz) qqd1 (fun o' ho' => ?_) (h.step hR (hds o (List.mem_of_getElem? hof)) hn hin (fun i o φ h1 h2 => (hs i o φ h1 h2).1) hof hφ qqd1 hbw hv);have h2:=hb o' ho'
    have e : ¬ j = front.length:=qqd1
    simpa [Array.getD_eq_getD_getElem?,Array.getElem?_setIfInBounds,e] using h2)
   unfold wpOp;rw [ho]
   simp only
   split
   ·rename_i hw;rw [if_pos hw] at h1;exact .inl h1
   ·rename_i hw;rw [if_neg hw] at h1;exact h1
  ·cases hk : back with
   | none => rw [hk] at hsz;simp at hsz;omega
   | some b =>
    have hjn : j = front.length:=by rw [hk] at hsz;simp at hsz;omega
    subst hjn
    have hob : o = b:=by
     rw [hops,hk] at ho
     simp at ho
     exact ho.symm
    subst hob
    have hfl : ∀ i,i < front.length → listed.getD i false = true:=fun i hi => by
     obtain ⟨e,he,hon,hbi⟩:=hback o hk i hi;have:=hall e he hbi
     rwa [hon] at this
    have h1:=hf.last hlen hin h hfl;rw [hk] at h1
    have h2:=h1 (wpAny P .any ops Q fuel (listed.setIfInBounds front.length true)) (fun a' w' hq => by
     have hr : Region.ready .any ops (listed.setIfInBounds front.length true) = []:=by
      cases hr : Region.ready .any ops (listed.setIfInBounds front.length true) with
      | nil => rfl
      | cons i is =>
       have hm : i ∈ Region.ready .any ops (listed.setIfInBounds front.length true):=by rw [hr];simp
       obtain ⟨h3,o',ho',-⟩:=mem_ready.1 hm;have hi:=(Array.getElem?_eq_some_iff.1 ho').1
       exfalso
       by_cases e : front.length = i
       ·subst e
        simp [Array.getD_eq_getD_getElem?,show front.length < listed.size from by omega] at h3
       ·have h4:=hfl i (by rw [hk] at hsz;simp at hsz;omega);rw [getD_ft qqd1] at h4
        simp [Array.getD_eq_getD_getElem?,e] at h3 h4
        rw [h3] at h4
        cases h4
     cases fuel with
     | zero => exact ⟨hr,hq⟩
     | succ fuel => exact ⟨fun _ => hq,fun i hi => by rw [hr] at hi;cases hi⟩)
    unfold wpOp;rw [ho]
    simp only
    split
    ·rename_i hw;rw [if_pos hw] at h2;exact .inl h2
    ·rename_i hw;rw [if_neg hw] at h2;exact h2
end

theorem wp_region_grow {R : Rs} {sp : Tmp} {ex : Ex} (hR : Rel R sp) {P : Program} {id : Nat} {Q : Exit → Act → World → Prop} {a0 : Act} {W : World} {l : List Oper} {front : List Oper} {back : Option Oper} (hm : P.follows .mixedOrders = true) (hl : l = front ++ back.toList) (hds : front.all (fun o => o.dst.isSome) = true) (hB : growB a0.tmps.size front back = true)
  (h : Grow R sp ex P l.toArray Q W a0 back front []) : (Code.region id l.toArray true).wp P Q a0 W:=by
 obtain ⟨φs,hlen,hs,hf⟩:=Grow.spec _ _ h;refine wp_region_any hm (wpAny_grow hR (fun o ho e => by have:=List.all_eq_true.1 hds o ho;rw [e] at this;cases this) (by rw [hl]) hB hlen hs hf _ _ _ _ qqd6 ?_ (fun o ho => ?_) ⟨fun _ => 0,fun _ => 0,rfl,rfl,hR.drew _,fun _ => (Below.refl _ _).drew,fun i o φ h1 h2 t ht hx _ => ?_,fun i o h1 t ht hx => ?_,fun i o i' o' h1 h2 t t' ht ht' hx => ?_,fun t _ => rfl⟩)
 ·exact qqa107
 ·exact repl_false _ _
 ·rw [repl_false] at hx;cases hx
 ·rw [repl_false] at hx;cases hx
 ·rw [repl_false] at hx;cases hx
theorem wp_region_grow_last {R : Rs} {sp : Tmp} {ex : Ex} (hR : Rel R sp) {P : Program} {id : Nat} {Q : Exit → Act → World → Prop} {a0 : Act} {W : World} {l : List Oper} {front : List Oper} {last : Oper} (hm : P.follows .mixedOrders = true) (hf : l.dropLast = front) (hb : l.getLast? = some last) (hds : front.all (fun o => o.dst.isSome) = true) (hB : growB a0.tmps.size front (some last) = true)
  (h : Grow R sp ex P l.toArray Q W a0 (some last) front []) : (Code.region id l.toArray true).wp P Q a0 W:=by
 refine wp_region_grow hR hm ?_ hds hB h;obtain ⟨l',rfl⟩:=List.getLast?_eq_some_iff.1 hb;rw [← hf];simp

def Bel (w w' : World) : Prop:=Below w.heap.size w w'
theorem Bel.rel (sp : Tmp) : Rel (fun _ => Bel) sp:=⟨fun _ => Below.refl _ _,fun h k => Below.trans h (Below.mono k (Below.size h)),fun h => Below.size h,fun _ => (Below.refl _ _).drew,fun _ _ _ h => h,fun _ _ _ _ _ h => h⟩
end Gi
end Go.Proofs.YtpibkpofdbjdaaaGreatDoor

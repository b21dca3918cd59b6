import Derived.Test.YtdoldaceehdifaaGreatDoorF5
import Derived.ScopeJumps
import Derived.WalkMore
/-
 What is asked ahead of a claim's binding; the disk that is found for it, and the one that is made.
-/
set_option maxRecDepth 100000
set_option maxHeartbeats 12800000
namespace Go.Proofs.YtdoldaceehdifaaGreatDoor
theorem ct6 {w : World} {b : Nat} {T : TypeId} {v0 v1 v2 v3 v4 v5 : Value} {l : List Value} (h : w.heap[b]? = some (.cells (v0 :: v1 :: v2 :: v3 :: v4 :: v5 :: l).toArray T (0,0))) : w.cell? ⟨b,0,none⟩ = some v0 ∧ w.cell? ⟨b,1,none⟩ = some v1 ∧ w.cell? ⟨b,2,none⟩ = some v2 ∧ w.cell? ⟨b,3,none⟩ = some v3 ∧ w.cell? ⟨b,4,none⟩ = some v4 ∧ w.cell? ⟨b,5,none⟩ = some v5:=⟨ah h 0,ah h 1,ah h 2,ah h 3,ah h 4,ah h 5⟩
theorem aaz {p : Prop} (h : p:=by simp [results,Tryz.results162,go_sem, *]) : p:=h
end Go.Proofs.YtdoldaceehdifaaGreatDoor
namespace Go.Proofs.YtdoldaceehdifaaGreatDoor
theorem abn {p : Prop} (h : p:=by
 obtain ⟨rfl,rfl,rfl,rfl,rfl,rfl⟩:=hz;clear h;have ev:=(HE.out.below HB.out).v2;have evl2:=bq ev;have evl:=bq HE.out.v2;have evn : ¬ 2 = w.heap.size + 1:=aaa
 obtain ⟨r0,r1,r2,r3,r4,r5,r6,r7⟩:=cs8 Br.out;have ltr_2:=aa Br.out;obtain ⟨fr0,fr1,fr2,fr3,fr4,fr5⟩:=eE;have fr6:=au Br.out 6;have fr7:=au Br.out 7;have hrl : w.heap.size + 1 < w2.heap.size:=aa Br.out;go_wp2;go_region;go_wp2;exact bodyPost_ret (v:=.tuple #[.agg #[.string ⟨#[]⟩,.int .i64 0,.string ⟨#[]⟩,.string ⟨#[]⟩,.bool false,.string ⟨#[]⟩,.bool false,.slice none 0 0],.iface 255 (.pointer (some (E 2)))]) aaz rfl ⟨Below.gi (Below.alloc (sb1 (sb1 (sb1 (sb1 (sb1 (sb1 (sb1 (sb1 (HB.out))))))))) aas _),.inl ⟨HNM.out,rfl⟩⟩) : p:=h
theorem aa3 {p : Prop} (h : p:=by
 rintro e w3 ⟨rfl,hb⟩;clear hcc;have Br3:=upK Dr hb;have HB3:=upB HBW6 hb;clear hb;obtain ⟨r0,r1,r2,r3,r4,r5,r6,r7⟩:=cs8 Br3.out;have fr0:=au Br3.out 0;have fr1:=au Br3.out 1;have fr2:=au Br3.out 2;have fr3:=au Br3.out 3;have fr4:=au Br3.out 4;have fr5:=au Br3.out 5;have fr6:=au Br3.out 6;have fr7:=au Br3.out 7;have hrl : w.heap.size + 1 + 1 < w3.heap.size:=aa Br3.out;go_wp2;refine gM ?_;exact bodyPost_ret (v:=.agg #[.slice none 0 0,.slice none 0 0,.slice none 0 0,.slice none 0 0,.slice none 0 0,.int .i64 0,.string ⟨#[]⟩,.int .i64 cc]) (by simp [results,Tryz.results129,go_sem, *]) rfl ⟨ad0,co0 cc,rfl,HV.out,DM _ _,sb2 (sb2 (sb2 (sb2 (sb2 (sb2 (sb2 (sb2 (HB3.out))))))))⟩) : p:=h
theorem acV {p : Prop} (h : p:=by
 exact acm) : p:=h
theorem ab_ {p : Prop} (h : p:=by
 refine Obl.plain rfl ?_;intro ac wg K hsz hW hf hK;clear hsz;have e37:=hf 37 al;simp [ai,List.lookup] at e37;have e40:=hf 40 al;simp [ai,List.lookup] at e40;clear hf;go_simp;refine (sq d.a3 d.l3 d.c3 c.vs (aA ++ x.n) 8 E _ (HR.out.v.below (HBW.out.trans (hW.mono HBW.out.size))) (HE.out.below (HBW.out.trans (hW.mono HBW.out.size)))).mono ?_;rintro e w6 ⟨hb6,hf6⟩;rcases hf6 with ⟨i,hi9,hwhy,rfl⟩ | ⟨hok,rfl⟩
 ·exact hK _ _ hb6 (.inl ⟨i,hi9,hwhy.imp id (fun h9 => ⟨h9.1,h9.2.1,by omega⟩),rfl⟩)
 ·exact hK _ _ hb6 (.inr ⟨hok.1,hok.2,rfl⟩)) : p:=h
theorem abS {p : Prop} (h : p:=by
 go_enter Tryz.func192,Tryz.ntmps192;go_wp2_with (first | (at_builtin;refine bm rfl _ _ 192 34 rfl base 120 120 i0 (.agg #[.string ⟨#[]⟩,.int .i64 0,.string ⟨#[]⟩,.bool false,.string ⟨#[]⟩]) 5 64 Tryz.underlying192 Tryz.underlying34 HI0.out.1 HI0.out.2.1 HI0.out.2.2.1 HI0.out.2.2.2 rfl al _ _ _ rfl HO.out ⟨vb,0,none⟩ 1 1 ys rfl af HYN.out HY1.out cd af hbs ?_));exact abb) : p:=h
theorem aai {p : Prop} (h : p:=by
 go_enter Tryz.func35,Tryz.ntmps35;go_wp2;go_ret;exact ⟨rfl,HB.out⟩) : p:=h
theorem abX {p : Prop} (h : p:=by
 refine hK _ _ ?_;clear hK K;intro K hK;rw [if_pos bH];go_simp;refine hK _ _ ?_;clear hK K;refine hK0 _ _ ?_;clear hK0 K0;go_wp2;exact ⟨⟨k + 1,d1,c1,by omega,by go_num,HSK.out,below_setRow HWZ.out (Nat.le_refl _) _,setRow_heap _ _ _ _ _ _ Bt6.out,(setRow_other _ _ _ _ af).trans Br6.out,H3.out⟩,by simp [intOf];omega⟩) : p:=h
theorem acS {p : Prop} (h : p:=by
 refine Obl.plain rfl ?_;intro ac wg K hsz hW hf hK;clear hsz;have e1:=hf 1 al;simp [ai,List.lookup] at e1;clear hf;refine wp_load_row _ _ rfl w.heap.size (by simpa [Act.eval,Act.put] using e1) _ _ _ _ ((hW.block _ (aa Bt3.out)).trans Bt3.out) Tryz.underlying76 rfl bG ?_;exact hK _ _ (Below.refl _ _) rfl) : p:=h
theorem abQ {p : Prop} (h : p:=by
 clear hf;obtain ⟨f0,f1,f2,f3,f4,f5,f6,f7,f8⟩:=DO ((hW.block _ (aa BfW.out)).trans BfW.out);exact aO) : p:=h
theorem acx {p : Prop} (h : p:=by
 refine Obl.plain rfl ?_;intro ac wg K hsz hW hf hK;clear hsz;have e2:=hf 2 al;simp [ai,List.lookup] at e2;clear hf;refine wp_load_row _ _ rfl w.heap.size (by simpa [Act.eval] using e2) _ _ _ _ ((hW.block _ (aa BtW.out)).trans BtW.out) Tryz.underlying76 rfl bG ?_;exact hK _ _ (Below.refl _ _) rfl) : p:=h
theorem acI {p : Prop} (h : p:=by
 clear hf;obtain ⟨v0,v1,v2,v3,v4,v5,v6,v7⟩:=cs8 ((hW.block _ (aa Dv.out)).trans Dv.out);exact aO) : p:=h
theorem aa5 {p : Prop} (h : p:=by
 refine Obl.plain rfl ?_;intro ac wg K hsz hW hf hK;clear hsz;have e35:=hf 35 al;simp [ai,List.lookup] at e35;clear hf;exact aO) : p:=h
theorem abT {p : Prop} (h : p:=by
 refine Obl.plain rfl ?_;intro ac wg K hsz hW hf hK;clear hsz;have e34:=hf 34 al;simp [ai,List.lookup] at e34;have e36:=hf 36 al;simp [ai,List.lookup] at e36;clear hf;obtain ⟨d',e34,ho⟩:=e34;go_simp;exact hK _ _ (Below.refl _ _) ⟨d',rfl,ho⟩) : p:=h
theorem abD {p : Prop} (h : p:=by
 refine Obl.plain rfl ?_;intro ac wg K hsz hW hf hK;clear hsz;have e36:=hf 36 al;simp [ai,List.lookup] at e36;clear hf;obtain ⟨s0,s1,s2,s3,s4,s5,s6,s7,s8,s9,s10,s11⟩:=kM ((hW.block _ (aa BsW.out)).trans BsW.out);exact aO) : p:=h
theorem ab4 {p : Prop} (h : p:=by
 refine Obl.plain rfl ?_;intro ac wg K hsz hW hf hK;clear hsz;have e3:=hf 3 al;simp [ai,List.lookup] at e3;clear hf;obtain ⟨k0,k1,k2,k3,k4,k5⟩:=cs6 ((hW.block _ (aa Dk.out)).trans Dk.out);exact aO) : p:=h
theorem abU {p : Prop} (h : p:=by
 refine Obl.plain rfl ?_;intro ac wg K hsz hW hf hK;clear hsz;have e4:=hf 4 al;simp [ai,List.lookup] at e4;clear hf;obtain ⟨x0,x1,x2,x3,x4⟩:=cs5 ((hW.block _ (aa Dx.out)).trans Dx.out);exact aO) : p:=h
theorem abh {p : Prop} (h : p:=by
 clear hf;obtain ⟨x0,x1,x2,x3,x4⟩:=cs5 ((hW.block _ (aa BxW.out)).trans BxW.out);exact aO) : p:=h
theorem abr {p : Prop} (h : p:=by
 go_enter Tryz.func156,Tryz.ntmps156;go_wp2;go_ret;exact ⟨rfl,Below.refl _ _⟩) : p:=h
theorem acq {p : Prop} (h : p:=by
 refine Obl.plain rfl ?_;intro ac wg K hsz hW hf hK;clear hsz;have e38:=hf 38 al;simp [ai,List.lookup] at e38;clear hf;exact aO) : p:=h
theorem abE {p : Prop} (h : p:=by
 obtain ⟨b,e,h3⟩:=HC.out j u hj;exact ⟨b,e,Nat.lt_of_lt_of_le (bq h3) HB.out.size,(ak HB.out (bq h3)).trans h3⟩) : p:=h
theorem acb {p : Prop} (h : p:=by
 clear hf;obtain ⟨v0,v1,v2,v3,v4,v5,v6,v7⟩:=cs8 ((hW.block _ (aa Bv2.out)).trans Bv2.out);exact aO) : p:=h
theorem aaL {p : Prop} (h : p:=by
 rintro v w w' ⟨d,h1,h2⟩ hb;exact ⟨d,h1,h2.below hb⟩) : p:=h
theorem abH {p : Prop} (h : p:=by
 refine Obl.plain rfl ?_;intro ac wg K hsz hW hf hK;clear hsz;have e33:=hf 33 al;simp [ai,List.lookup] at e33;exact abQ) : p:=h
theorem aci {p : Prop} (h : p:=by
 refine Obl.plain rfl ?_;intro ac wg K hsz hW hf hK;clear hsz;have e39:=hf 39 al;simp [ai,List.lookup] at e39;exact abQ) : p:=h
theorem abM {p : Prop} (h : p:=by
 refine Obl.plain rfl ?_;intro ac wg K hsz hW hf hK;clear hsz;have e35:=hf 35 al;simp [ai,List.lookup] at e35;exact acI) : p:=h
theorem ach {p : Prop} (h : p:=by
 refine Obl.plain rfl ?_;intro ac wg K hsz hW hf hK;clear hsz;have e7:=hf 7 al;simp [ai,List.lookup] at e7;exact acI) : p:=h
theorem acJ {p : Prop} (h : p:=by
 refine Obl.plain rfl ?_;intro ac wg K hsz hW hf hK;clear hsz;have e8:=hf 8 al;simp [ai,List.lookup] at e8;exact acV) : p:=h
theorem ab3 {p : Prop} (h : p:=by
 have HNM : Hid (¬ dF x k t):=fun h9 => h ⟨HXO.out,HKO.out,HZN.out (HMY.out.1 h9).1⟩;exact abn) : p:=h
theorem acm {p : Prop} (h : p:=by
 clear hf;obtain ⟨v0,v1,v2,v3,v4,v5,v6,v7⟩:=cs8 ((hW.block _ (aa BvW.out)).trans BvW.out);exact aO) : p:=h
theorem aaM {p : Prop} (h : p:=by
 have hszW6 : W6.heap.size = w2.heap.size:=by rw [hW6];simp
 have hlk:=aa Bk.out;have hkeep : ∀ q,¬ q = w.heap.size + 1 + 1 + 1 → W6.heap[q]? = w2.heap[q]?:=fun q h9 => by rw [hW6,Below.heap_setCell _ _ _ _ h9,Below.heap_setCell _ _ _ _ h9,Below.heap_setCell _ _ _ _ h9,Below.heap_setCell _ _ _ _ h9,Below.heap_setCell _ _ _ _ h9,Below.heap_setCell _ _ _ _ h9,Below.heap_setCell _ _ _ _ h9,Below.heap_setCell _ _ _ _ h9]
 have Dk:=ae ((hkeep (w.heap.size) af).trans Bk.out);have Dx:=ae ((hkeep (w.heap.size + 1) af).trans Bx.out);have Dr:=ae ((hkeep (w.heap.size + 1 + 1) af).trans Br.out);have Ds:=ae ((hkeep (w.heap.size + 1 + 1 + 1 + 1) af).trans Bs.out);have Dv : Hid (W6.heap[w.heap.size + 1 + 1 + 1]? = some (.cells #[.string (aA ++ x.n),.int .i64 x.z,.string (aR t k.z),.string x.k,.bool x.x,.string x.n,.bool false,.slice none 0 0] 118 (0,0))):=by rw [hW6];exact yZ Bv.out _ _ _ _ _ _ _ _
 have HBW6 : Hid (Below w.heap.size w W6):=by rw [hW6];exact sb3 (sb3 (sb3 (sb3 (sb3 (sb3 (sb3 (sb3 (HB.out))))))))
 have HKP:=ae hkeep;exact And.intro hszW6 (And.intro hlk (And.intro hkeep (And.intro Dk (And.intro Dx (And.intro Dr (And.intro Ds (And.intro Dv (And.intro HBW6 HKP))))))))) : p:=h
theorem aan {p : Prop} (h : p:=by
 have fv0:=au Bv.out 0;have fv1:=au Bv.out 1;have fv2:=au Bv.out 2;have fv3:=au Bv.out 3;have fv4:=au Bv.out 4;have fv5:=au Bv.out 5;have fv6:=au Bv.out 6;have fv7:=au Bv.out 7;have hvl:=aa Bv.out;exact And.intro fv0 (And.intro fv1 (And.intro fv2 (And.intro fv3 (And.intro fv4 (And.intro fv5 (And.intro fv6 (And.intro fv7 hvl)))))))) : p:=h
theorem acQ {p : Prop} (h : p:=by
 have hszW5 : W5.heap.size = w1.heap.size:=by rw [hW5];simp
 have hlk:=aa Bk.out;have hkeep : ∀ q,¬ q = w.heap.size + 1 + 1 + 1 → W5.heap[q]? = w1.heap[q]?:=fun q h9 => by rw [hW5,Below.heap_setCell _ _ _ _ h9,Below.heap_setCell _ _ _ _ h9,Below.heap_setCell _ _ _ _ h9,Below.heap_setCell _ _ _ _ h9,Below.heap_setCell _ _ _ _ h9,Below.heap_setCell _ _ _ _ h9,Below.heap_setCell _ _ _ _ h9,Below.heap_setCell _ _ _ _ h9]
 have Dk:=ae ((hkeep (w.heap.size) af).trans Bk.out);have Dx:=ae ((hkeep (w.heap.size + 1) af).trans Bx.out);have Dr:=ae ((hkeep (w.heap.size + 1 + 1) af).trans Br.out);have Ds:=ae ((hkeep (w.heap.size + 1 + 1 + 1 + 1) af).trans Bs.out);exact And.intro hszW5 (And.intro hlk (And.intro hkeep (And.intro Dk (And.intro Dx (And.intro Dr Ds)))))) : p:=h
theorem aaD {p : Prop} (h : p:=by
 have fr0:=au Br6.out 0;have fr1:=au Br6.out 1;have fr2:=au Br6.out 2;have fr3:=au Br6.out 3;have fr4:=au Br6.out 4;have fr5:=au Br6.out 5;have fr6:=au Br6.out 6;have fr7:=au Br6.out 7;have hrl:=aa Br6.out;exact And.intro fr0 (And.intro fr1 (And.intro fr2 (And.intro fr3 (And.intro fr4 (And.intro fr5 (And.intro fr6 (And.intro fr7 hrl)))))))) : p:=h
theorem acj {p : Prop} (h : p:=by
 have HWZ:=upB HB hW;have Bt6:=upK Bt hW;have Br6:=upK Br hW;have HSK:=ae (yJ.next HS1.out HS2.out HX.out hn1 hv2);have H3:=ae (hown.set (b':=w.heap.size) (cs:=#[.slice d1.a1 d1.l1 d1.c1,.slice d1.a2 d1.l2 d1.c2,.slice d1.a3 d1.l3 d1.c3,.slice d1.a4 d1.l4 d1.c4,.slice d1.a5 d1.l5 d1.c5,.int .i64 c1.now,.string p.n,.int .i64 p.c,.string p.z,.slice (some ⟨b2,o2,none⟩) pl pc,.string p.d,.int .i64 p.p,.string n.n,.string n.z,.int .i64 n.c,.int .i64 n.s,.int .i64 n.u,.bool n.d,.slice na nl nc]) af);exact And.intro HWZ (And.intro Bt6 (And.intro Br6 (And.intro HSK H3)))) : p:=h
theorem ab8 {p : Prop} (h : p:=by
 have Gx : Hid (wr.heap[w.heap.size]? = some (.cells #[.string x.n,.int .i64 x.c,.string x.z,.string x.k,.bool x.x,.string x.m,.bool x.y,.slice va vl vc] 118 (0,0))):=Bx.out;have HW:=HB;have x0:=fun q : Wd wr => q.slot (o:=0) Gx.out rfl;have yn:=fun q : Wd wr => (q.cell hbw).trans hc0;have hne0:=Wd.ne wr;exact And.intro Gx (And.intro HW (And.intro x0 (And.intro yn hne0)))) : p:=h
theorem ab6 {p : Prop} (h : p:=by
 have HOW : Hid ((q2.w.alloc (.cells #[] 118)).ownsRow q2.w.heap.size 118 8 (.slice (some ⟨q2.w.heap.size,0,none⟩) 0 0) 0 []):=World.ownsRow_made q2.w #[] 0 (Nat.le_refl _) (Nat.zero_le _) aN;have hik : (k : Int) ≤ n:=aaa
 have hkn : k ≤ n:=aaa
 exact And.intro HOW (And.intro hik hkn)) : p:=h
end Go.Proofs.YtdoldaceehdifaaGreatDoor
namespace Go.Proofs.YtdoldaceehdifaaGreatDoor
open Go.RowKit
namespace Rc
open Mk

theorem kM {w : World} {b : Nat} {v0 v1 v2 v3 v4 v5 v6 v7 v8 v9 v10 v11 : Value} {T : TypeId} (h : w.heap[b]? = some (.cells #[v0,v1,v2,v3,v4,v5,v6,v7,v8,v9,v10,v11] T (0,0))) : w.cell? ⟨b,0,none⟩ = some v0 ∧ w.cell? ⟨b,1,none⟩ = some v1 ∧ w.cell? ⟨b,2,none⟩ = some v2 ∧ w.cell? ⟨b,3,none⟩ = some v3 ∧ w.cell? ⟨b,4,none⟩ = some v4 ∧ w.cell? ⟨b,5,none⟩ = some v5 ∧ w.cell? ⟨b,6,none⟩ = some v6 ∧ w.cell? ⟨b,7,none⟩ = some v7 ∧ w.cell? ⟨b,8,none⟩ = some v8 ∧ w.cell? ⟨b,9,none⟩ = some v9 ∧ w.cell? ⟨b,10,none⟩ = some v10 ∧ w.cell? ⟨b,11,none⟩ = some v11:=⟨ah h 0,ah h 1,ah h 2,ah h 3,ah h 4,ah h 5,ah h 6,ah h 7,ah h 8,ah h 9,ah h 10,ah h 11⟩
theorem DO {w : World} {b : Nat} {v0 v1 v2 v3 v4 v5 v6 v7 v8 : Value} {T : TypeId} (h : w.heap[b]? = some (.cells #[v0,v1,v2,v3,v4,v5,v6,v7,v8] T (0,0))) : w.cell? ⟨b,0,none⟩ = some v0 ∧ w.cell? ⟨b,1,none⟩ = some v1 ∧ w.cell? ⟨b,2,none⟩ = some v2 ∧ w.cell? ⟨b,3,none⟩ = some v3 ∧ w.cell? ⟨b,4,none⟩ = some v4 ∧ w.cell? ⟨b,5,none⟩ = some v5 ∧ w.cell? ⟨b,6,none⟩ = some v6 ∧ w.cell? ⟨b,7,none⟩ = some v7 ∧ w.cell? ⟨b,8,none⟩ = some v8:=⟨ah h 0,ah h 1,ah h 2,ah h 3,ah h 4,ah h 5,ah h 6,ah h 7,ah h 8⟩
def ErF (c : Cl) (x : Xd) (E : Nat → Addr) : Fact:=fun v _ => (∃ i,i < 9 ∧ ((i = 3 ∧ hit Vd.n c.vs (aA ++ x.n) = true) ∨ (i = 4 ∧ hit Vd.n c.vs (aA ++ x.n) = false ∧ ¬ c.vs.length < 8)) ∧ v = .iface 255 (.pointer (some (E i)))) ∨ (hit Vd.n c.vs (aA ++ x.n) = false ∧ c.vs.length < 8 ∧ v = .nilIface)
theorem ErF.mono (c : Cl) (x : Xd) (E : Nat → Addr) : Fact.bw (ErF c x E):=fun _ _ _ h _ => h

theorem qH (d : Ad) (c : Cl) (x : Xd) (t : ByteArray) (E : Nat → Addr) (w : World) (hr : aM w d c.raw) (hG : Ers w E) (hR : ir c.vs x.n x.z x.k x.v t) (h8 : c.vs.length ≤ 8) (ht : t.size ≤ 20) (z0 : x.n.size ≤ 9223372036854775807) (z2 : x.k.size ≤ 9223372036854775807) (z4 : x.v.size ≤ 9223372036854775807) :
  Calls Tryz.prog 161 #[.agg #[.slice d.a1 d.l1 d.c1,.slice d.a2 d.l2 d.c2,.slice d.a3 d.l3 d.c3,.slice d.a4 d.l4 d.c4,.slice d.a5 d.l5 d.c5,.int .i64 c.now,.string x.n,.int .i64 x.z,.string x.k,.bool x.x,.string x.v,.string t]] w fun e w' => Below w.heap.size w w' ∧ ((cJ (svV x.z x.k x.x t) c.vs = none ∧ e = .returned (.tuple #[.agg #[.string ⟨#[]⟩,.int .i64 0,.string ⟨#[]⟩,.string ⟨#[]⟩,.bool false,.string ⟨#[]⟩,.bool false,.slice none 0 0],.iface 255 (.pointer (some (E 2)))])) ∨ (∃ u va vl vc,cJ (svV x.z x.k x.x t) c.vs = some u ∧ e = .returned (.tuple #[.agg #[.string u.n,.int .i64 u.c,.string u.z,.string u.k,.bool u.x,.string u.m,.bool u.y,.slice va vl vc],.nilIface]) ∧ bV w' va vl vc u.zs (fun k => w.heap.size ≤ k))):=by
 have HR:=ae hr;have HE:=ae hG;have HBR:=ae hR;have HZ:=ae (And.intro z0 (And.intro z2 z4));have HB:=ae (Below.refl w.heap.size w);clear hr hG hR z0 z2 z4;go_enter Tryz.func161,Tryz.ntmps161;go_wp2_with fail;refine (sN d.a3 d.l3 d.c3 c.vs x.n x.z x.k x.x x.v t _ HZ.out.1 HZ.out.2.1 HZ.out.2.2 af (z_ (HR.out.v.below (HB.out.trans ((aF _ _ _).mono HB.out.size))))).mono ?_;rintro e w1 ⟨u,p,va,vl,vc,rfl,hIs,hT,hO,hb⟩;have HT : Hid (bV w1 va vl vc u.zs (fun k => w.heap.size + 1 + 1 ≤ k)):=⟨hT,hO.imp id fun ⟨g,cur,e1,e2,e3⟩ => ⟨g,cur,e1,by simpa using e2,e3⟩⟩;clear hT hO;obtain ⟨HA0,HA1,hbx⟩:=cP hb;have Bs:=ae HA0;have Br:=ae HA1;replace HB:=upB HB hbx;clear hb hbx HA0 HA1;rcases hIs with ⟨h,-,-⟩ | ⟨-,h,-,-⟩ | ⟨-,-,hbv,rfl,rfl⟩ | ⟨-,-,hbv,rfl⟩
 ·omega
 ·exact absurd HBR.out h
 ·have HBV:=ae hbv;clear hbv;clear HT;have ev:=(HE.out.below HB.out).v2;have evl2:=bq ev;have evl:=bq HE.out.v2;have evn : ¬ 2 = w.heap.size + 1:=aaa
  obtain ⟨r0,r1,r2,r3,r4,r5,r6,r7⟩:=cs8 Br.out;have ltr_1:=aa Br.out;obtain ⟨fr0,fr1,fr2,fr3,fr4,fr5⟩:=eE;have fr6:=au Br.out 6;have fr7:=au Br.out 7;have hrs:=aa Bs.out;have hrl : w.heap.size + 1 < w1.heap.size:=aa Br.out;go_wp2;go_region;go_wp2;exact bodyPost_ret (v:=.tuple #[.agg #[.string ⟨#[]⟩,.int .i64 0,.string ⟨#[]⟩,.string ⟨#[]⟩,.bool false,.string ⟨#[]⟩,.bool false,.slice none 0 0],.iface 255 (.pointer (some (E 2)))]) (by simp [results,Tryz.results161,go_sem, *]) rfl ⟨Below.gi (Below.alloc (sb1 (sb1 (sb1 (sb1 (sb1 (sb1 (sb1 (sb1 (HB.out))))))))) aas _),.inl ⟨HBV.out,rfl⟩⟩
 have HBV:=ae hbv;clear hbv;obtain ⟨r0,r1,r2,r3,r4,r5,r6,r7⟩:=cs8 Br.out;have ltr_1:=aa Br.out;obtain ⟨fr0,fr1,fr2,fr3,fr4,fr5⟩:=eE;have fr6:=au Br.out 6;have fr7:=au Br.out 7;have hrs:=aa Bs.out;have hrl : w.heap.size + 1 < w1.heap.size:=aa Br.out;go_wp2;exact bodyPost_ret (v:=.tuple #[.agg #[.string u.n,.int .i64 u.c,.string u.z,.string u.k,.bool u.x,.string u.m,.bool u.y,.slice va vl vc],.nilIface]) (by simp [results,Tryz.results161,go_sem, *]) rfl ⟨Below.alloc (sb1 (sb1 (sb1 (sb1 (sb1 (sb1 (sb1 (sb1 (HB.out))))))))) aas _,.inr ⟨u,va,vl,vc,HBV.out,rfl,HT.out.aH (fun k hk s => by have s1 : w.heap.size + 1 + 1 ≤ k:=s;exact (Below.heap_alloc _ _ _ (by simpa using hk)).trans (by rw [Below.heap_setCell _ _ _ _ (show k ≠ w.heap.size + 1 by omega),Below.heap_setCell _ _ _ _ (show k ≠ w.heap.size + 1 by omega),Below.heap_setCell _ _ _ _ (show k ≠ w.heap.size + 1 by omega),Below.heap_setCell _ _ _ _ (show k ≠ w.heap.size + 1 by omega),Below.heap_setCell _ _ _ _ (show k ≠ w.heap.size + 1 by omega),Below.heap_setCell _ _ _ _ (show k ≠ w.heap.size + 1 by omega),Below.heap_setCell _ _ _ _ (show k ≠ w.heap.size + 1 by omega),Below.heap_setCell _ _ _ _ (show k ≠ w.heap.size + 1 by omega)])) (fun k _ s => by have s1 : w.heap.size + 1 + 1 ≤ k:=s;show w.heap.size ≤ k;omega)⟩⟩

theorem sK (d : Ad) (c : Cl) (x : Xd) (t : ByteArray) (j : Nat) (k : Kd) (zo : ByteArray) (E : Nat → Addr) (w : World) (hr : aM w d c.raw) (hG : Ers w E) (hT : aC c) (hx : e_ x.n x.z x.k x.v) (hk : c.ks[j]? = some k) (hkn : k.n = x.k) (ht : t = ⟨#[]⟩ ∨ aL t) (hzo : zo = aR t k.z) :
  Calls Tryz.prog 162 #[.agg #[.slice d.a1 d.l1 d.c1,.slice d.a2 d.l2 d.c2,.slice d.a3 d.l3 d.c3,.slice d.a4 d.l4 d.c4,.slice d.a5 d.l5 d.c5,.int .i64 c.now,.string x.n,.int .i64 x.z,.string x.k,.bool x.x,.string x.v,.string t]] w fun e w' => Below w.heap.size w w' ∧ ((¬ dF x k t ∧ e = .returned (.tuple #[.agg #[.string ⟨#[]⟩,.int .i64 0,.string ⟨#[]⟩,.string ⟨#[]⟩,.bool false,.string ⟨#[]⟩,.bool false,.slice none 0 0],.iface 255 (.pointer (some (E 2)))])) ∨ (dF x k t ∧ ((∃ i,i < 9 ∧ ((i = 3 ∧ hit Vd.n c.vs (aA ++ x.n) = true) ∨ (i = 4 ∧ hit Vd.n c.vs (aA ++ x.n) = false ∧ ¬ c.vs.length < 8)) ∧ e = .returned (.tuple #[.agg #[.string (aA ++ x.n),.int .i64 x.z,.string zo,.string x.k,.bool x.x,.string x.n,.bool false,.slice none 0 0],.iface 255 (.pointer (some (E i)))])) ∨ (hit Vd.n c.vs (aA ++ x.n) = false ∧ c.vs.length < 8 ∧ e = .returned (.tuple #[.agg #[.string (aA ++ x.n),.int .i64 x.z,.string zo,.string x.k,.bool x.x,.string x.n,.bool false,.slice none 0 0],.nilIface]))))):=by
 have HR:=ae hr;have HE:=ae hG;have HT:=ae hT;have HK:=ae (And.intro hk hkn);have hko:=hT.2.1.2.1.2.1 j k hk;have HKO:=ae hko;have HXO:=ae hx;have HTZ:=ae ht;have HZO:=ae hzo;have HB:=ae (Below.refl w.heap.size w);clear hr hG hT hx hk hkn ht hzo hko;go_enter Tryz.func162,Tryz.ntmps162;go_wp2_with fail;refine (gu d c.now c.ks x.k w _ HR.out.k (HB.out.trans ((aF _ _ _).mono HB.out.size))).mono ?_;rintro e w1 ⟨hb,hf⟩;obtain ⟨HA0,HA1,hbx⟩:=cP hb;have Bs:=ae HA0;have Br:=ae HA1;replace HB:=upB HB hbx;clear hb hbx HA0 HA1;have hit9:=bU HT.out.2.1.2.1.2.2 HK.out.1 HK.out.2;rcases hf with ⟨hh,n9,hx,hn9,rfl,zk0,zk3⟩ | ⟨hh,rfl⟩;rotate_left
 ·rw [hit9.2] at hh;cases hh
 obtain ⟨-,rfl⟩:=HT.out.2.1.2.1.2.2.inj HK.out.1 hx (HK.out.2.trans hn9.symm);have HZK:=ae (And.intro zk0 zk3);clear hx hn9 hh hit9 zk0 zk3;by_cases hte : t = ⟨#[]⟩
 ·have hq:=cA hte;have hzk : zo = k.z:=by rw [HZO.out];unfold aR;rw [if_pos hte]
  have HTE:=ae hte;clear hte;subst hzk;obtain ⟨s0,s1,s2,s3,s4,s5,s6,s7,s8,s9,s10,s11⟩:=kM Bs.out;have lts:=aa Bs.out;go_wp2_with fail;clear s0 s1 s2 s3 s4 s5 s6 s7 s8 s9 s10 s11 lts;have hxn:=HXO.out.1.2.1;have hxk:=HXO.out.2.2.1.2.1;have hxv : x.v.size ≤ 9223372036854775807:=by
   rcases HXO.out.2.2.2 with h1 | h1
   ·rw [h1];decide
   ·have h2:=h1.2.1;omega
  have hz20 : (k.z).size ≤ 20:=by
   rcases HKO.out.2 with h1 | h1
   ·rw [h1];decide
   ·have h2:=h1.2.1;omega
  have hzn : ¬ k.z = ⟨#[]⟩ → aL k.z:=fun h9 => HKO.out.2.resolve_left h9;have HZN:=ae hzn;clear hzn;refine (kH x.n x.z x.k x.x x.v k.n k.x k.y k.z k.z _ af af hxv HZK.out.1 HZK.out.2 af).mono ?_;rintro e w2 ⟨n0,c0,z0,k0,x0,m0,p0,rfl,hIs,hb⟩;obtain ⟨HA0,hbx⟩:=aG hb;replace Bs:=upK Bs hbx;replace Br:=upK Br hbx;have Bc:=ae HA0;replace HB:=upB HB hbx;clear hb hbx HA0;have hmay : dF x k t ↔ ¬ k.z = ⟨#[]⟩ ∧ gn x.n x.k x.v k.n k.z (k.z):=by unfold dF;rw [← HZO.out]
  have HMY:=ae hmay;clear hmay;rcases hIs with ⟨h,-,-⟩ | ⟨-,h,hz,rfl⟩ | ⟨-,-,h,hz,rfl⟩ | ⟨-,hR,hM,hz,rfl⟩
  ·omega
  ·exact ab3
  ·have HNM : Hid (¬ dF x k t):=fun h9 => h (HMY.out.1 h9).2;exact abn
  have HMV : Hid (dF x k t):=HMY.out.2 ⟨fun h9 => by have h1:=hR.2.2.1;rw [h9] at h1;exact absurd h1 al,hM⟩;obtain ⟨rfl,rfl,hz0,rfl,rfl,rfl⟩:=hz;replace hz0:=hz0.symm;subst hz0;clear hR hM;obtain ⟨r0,r1,r2,r3,r4,r5,r6,r7⟩:=cs8 Br.out;have ltr_2:=aa Br.out;obtain ⟨s0,s1,s2,s3,s4,s5,s6,s7,s8,s9,s10,s11⟩:=kM Bs.out;have lts:=aa Bs.out;go_wp2_with fail;clear s0 s1 s2 s3 s4 s5 s6 s7 s8 s9 s10 s11 lts;clear r0 r1 r2 r3 r4 r5 r6 r7 ltr_2;obtain ⟨W,hW0⟩ : ∃ W,W = w2.alloc (.cells #[.string (aA ++ x.n),.int .i64 x.z,.string k.z,.string x.k,.bool x.x,.string x.n,.bool false,.slice none 0 0,.int .i64 0] 227):=⟨_,rfl⟩;have BsW:=ae ((Below.heap_alloc w2 (.cells #[.string (aA ++ x.n),.int .i64 x.z,.string k.z,.string x.k,.bool x.x,.string x.n,.bool false,.slice none 0 0,.int .i64 0] 227) _ (aa Bs.out)).trans Bs.out);have BrW:=ae ((Below.heap_alloc w2 (.cells #[.string (aA ++ x.n),.int .i64 x.z,.string k.z,.string x.k,.bool x.x,.string x.n,.bool false,.slice none 0 0,.int .i64 0] 227) _ (aa Br.out)).trans Br.out);have BfW:=ae (heap_alloc_new w2 (.cells #[.string (aA ++ x.n),.int .i64 x.z,.string k.z,.string x.k,.bool x.x,.string x.n,.bool false,.slice none 0 0,.int .i64 0] 227));have HBW:=ae (HB.out.trans ((an w2 (.cells #[.string (aA ++ x.n),.int .i64 x.z,.string k.z,.string x.k,.bool x.x,.string x.n,.bool false,.slice none 0 0,.int .i64 0] 227)).mono HB.out.size));rw [← hW0] at BsW BrW BfW HBW ⊢;have h28 : c.vs.length ≤ 9223372036854775807:=by have:=HT.out.sm.v;omega
  clear hW0;rename_i K0 hK0;refine Gu.ot av rfl rfl rfl av ?_;refine' Gu.aw.aq _ rfl ?_ ?_;rotate_left 1
  ·exact aad
  refine' Gu.aw.aq _ rfl ?_ ?_;rotate_left 1
  ·exact abH
  refine' Gu.aw.aq _ rfl ?_ ?_;rotate_left 1
  ·exact u_
  refine' Gu.aw.aq _ rfl ?_ ?_;rotate_left 1
  ·exact aa5
  refine' Gu.aw.aq _ rfl ?_ ?_;rotate_left 1
  ·exact abD
  refine' Gu.aw.aq _ rfl ?_ ?_;rotate_left 1
  ·exact aad
  refine' Gu.aw.aq _ rfl ?_ ?_;rotate_left 1
  ·exact acq
  refine' Gu.aw.aq _ rfl ?_ ?_;rotate_left 1
  ·exact aci
  refine Gu.aw.step (ErF c x E) rfl (ErF.mono c x E) ?_ ?_
  ·exact ab_
  refine Gu.aw.done ?_;intro q wz hW hf;simp only [List.forall_mem_cons] at hf;obtain ⟨h41,h40,h39,h38,h37,h36,h35,h34,h33,-⟩:=hf;obtain ⟨v9,hv9⟩ : ∃ v9,q 41 = v9:=⟨_,rfl⟩;have h41' : ErF c x E v9 wz:=by rw [← hv9];exact h41
  have HER:=ae h41';have HWZ:=ae hW;have Br6:=upK BrW hW;clear h41 h41' hW;obtain ⟨r0,r1,r2,r3,r4,r5,r6,r7⟩:=cs8 Br6.out;obtain ⟨fr0,fr1,fr2,fr3,fr4,fr5,fr6,fr7,hrl⟩:=aaD;intro K hK;rw [if_pos bH];simp only [aE,List.foldr,Act.put,List.setIfInBounds_toArray,List.set_cons_zero,List.set_cons_succ,h40,h39,h38,h37,h36,h35,h34,h33,hv9];go_simp;refine hK _ _ ?_;clear hK K;intro K hK;rw [if_pos bH];go_simp;refine hK _ _ ?_;refine hK0 _ _ ?_;clear hK hK0 K K0;go_wp2;rcases HER.out with ⟨i,hi9,hwhy,rfl⟩ | ⟨hh,h8,rfl⟩
  ·exact bodyPost_ret (v:=.tuple #[.agg #[.string (aA ++ x.n),.int .i64 x.z,.string k.z,.string x.k,.bool x.x,.string x.n,.bool false,.slice none 0 0],.iface 255 (.pointer (some (E i)))]) aaz rfl ⟨sb1 (sb1 (sb1 (sb1 (sb1 (sb1 (sb1 (sb1 (HBW.out.trans (HWZ.out.mono HBW.out.size))))))))),.inr ⟨HMV.out,.inl ⟨i,hi9,hwhy,rfl⟩⟩⟩
  ·exact bodyPost_ret (v:=.tuple #[.agg #[.string (aA ++ x.n),.int .i64 x.z,.string k.z,.string x.k,.bool x.x,.string x.n,.bool false,.slice none 0 0],.nilIface]) aaz rfl ⟨sb1 (sb1 (sb1 (sb1 (sb1 (sb1 (sb1 (sb1 (HBW.out.trans (HWZ.out.mono HBW.out.size))))))))),.inr ⟨HMV.out,.inr ⟨hh,h8,rfl⟩⟩⟩
 ·have hq:=aY hte;have hzk : t = zo:=by rw [HZO.out];unfold aR;rw [if_neg hte]
  have HTE:=ae hte;clear hte;subst hzk;obtain ⟨s0,s1,s2,s3,s4,s5,s6,s7,s8,s9,s10,s11⟩:=kM Bs.out;have lts:=aa Bs.out;go_wp2_with fail;clear s0 s1 s2 s3 s4 s5 s6 s7 s8 s9 s10 s11 lts;have hxn:=HXO.out.1.2.1;have hxk:=HXO.out.2.2.1.2.1;have hxv : x.v.size ≤ 9223372036854775807:=by
   rcases HXO.out.2.2.2 with h1 | h1
   ·rw [h1];decide
   ·have h2:=h1.2.1;omega
  have hz20 : (t).size ≤ 20:=by
   rcases HTZ.out with h1 | h1
   ·rw [h1];decide
   ·have h2:=h1.2.1;omega
  have hzn : ¬ t = ⟨#[]⟩ → aL t:=fun h9 => HTZ.out.resolve_left h9;have HZN:=ae hzn;clear hzn;refine (kH x.n x.z x.k x.x x.v k.n k.x k.y k.z t _ af af hxv HZK.out.1 HZK.out.2 af).mono ?_;rintro e w2 ⟨n0,c0,z0,k0,x0,m0,p0,rfl,hIs,hb⟩;obtain ⟨HA0,hbx⟩:=aG hb;replace Bs:=upK Bs hbx;replace Br:=upK Br hbx;have Bc:=ae HA0;replace HB:=upB HB hbx;clear hb hbx HA0;have hmay : dF x k t ↔ ¬ t = ⟨#[]⟩ ∧ gn x.n x.k x.v k.n k.z (t):=by unfold dF;rw [← HZO.out]
  have HMY:=ae hmay;clear hmay;rcases hIs with ⟨h,-,-⟩ | ⟨-,h,hz,rfl⟩ | ⟨-,-,h,hz,rfl⟩ | ⟨-,hR,hM,hz,rfl⟩
  ·omega
  ·exact ab3
  ·have HNM : Hid (¬ dF x k t):=fun h9 => h (HMY.out.1 h9).2;exact abn
  have HMV : Hid (dF x k t):=HMY.out.2 ⟨fun h9 => by have h1:=hR.2.2.1;rw [h9] at h1;exact absurd h1 al,hM⟩;obtain ⟨rfl,rfl,hz0,rfl,rfl,rfl⟩:=hz;replace hz0:=hz0.symm;subst hz0;clear hR hM;obtain ⟨r0,r1,r2,r3,r4,r5,r6,r7⟩:=cs8 Br.out;have ltr_2:=aa Br.out;obtain ⟨s0,s1,s2,s3,s4,s5,s6,s7,s8,s9,s10,s11⟩:=kM Bs.out;have lts:=aa Bs.out;go_wp2_with fail;clear s0 s1 s2 s3 s4 s5 s6 s7 s8 s9 s10 s11 lts;clear r0 r1 r2 r3 r4 r5 r6 r7 ltr_2;obtain ⟨W,hW0⟩ : ∃ W,W = w2.alloc (.cells #[.string (aA ++ x.n),.int .i64 x.z,.string t,.string x.k,.bool x.x,.string x.n,.bool false,.slice none 0 0,.int .i64 0] 227):=⟨_,rfl⟩;have BsW:=ae ((Below.heap_alloc w2 (.cells #[.string (aA ++ x.n),.int .i64 x.z,.string t,.string x.k,.bool x.x,.string x.n,.bool false,.slice none 0 0,.int .i64 0] 227) _ (aa Bs.out)).trans Bs.out);have BrW:=ae ((Below.heap_alloc w2 (.cells #[.string (aA ++ x.n),.int .i64 x.z,.string t,.string x.k,.bool x.x,.string x.n,.bool false,.slice none 0 0,.int .i64 0] 227) _ (aa Br.out)).trans Br.out);have BfW:=ae (heap_alloc_new w2 (.cells #[.string (aA ++ x.n),.int .i64 x.z,.string t,.string x.k,.bool x.x,.string x.n,.bool false,.slice none 0 0,.int .i64 0] 227));have HBW:=ae (HB.out.trans ((an w2 (.cells #[.string (aA ++ x.n),.int .i64 x.z,.string t,.string x.k,.bool x.x,.string x.n,.bool false,.slice none 0 0,.int .i64 0] 227)).mono HB.out.size));rw [← hW0] at BsW BrW BfW HBW ⊢;have h28 : c.vs.length ≤ 9223372036854775807:=by have:=HT.out.sm.v;omega
  clear hW0;rename_i K0 hK0;refine Gu.ot av rfl rfl rfl av ?_;refine' Gu.aw.aq _ rfl ?_ ?_;rotate_left 1
  ·exact aad
  refine' Gu.aw.aq _ rfl ?_ ?_;rotate_left 1
  ·exact abH
  refine' Gu.aw.aq _ rfl ?_ ?_;rotate_left 1
  ·exact u_
  refine' Gu.aw.aq _ rfl ?_ ?_;rotate_left 1
  ·exact aa5
  refine' Gu.aw.aq _ rfl ?_ ?_;rotate_left 1
  ·exact abD
  refine' Gu.aw.aq _ rfl ?_ ?_;rotate_left 1
  ·exact aad
  refine' Gu.aw.aq _ rfl ?_ ?_;rotate_left 1
  ·exact acq
  refine' Gu.aw.aq _ rfl ?_ ?_;rotate_left 1
  ·exact aci
  refine Gu.aw.step (ErF c x E) rfl (ErF.mono c x E) ?_ ?_
  ·exact ab_
  refine Gu.aw.done ?_;intro q wz hW hf;simp only [List.forall_mem_cons] at hf;obtain ⟨h41,h40,h39,h38,h37,h36,h35,h34,h33,-⟩:=hf;obtain ⟨v9,hv9⟩ : ∃ v9,q 41 = v9:=⟨_,rfl⟩;have h41' : ErF c x E v9 wz:=by rw [← hv9];exact h41
  have HER:=ae h41';have HWZ:=ae hW;have Br6:=upK BrW hW;clear h41 h41' hW;obtain ⟨r0,r1,r2,r3,r4,r5,r6,r7⟩:=cs8 Br6.out;obtain ⟨fr0,fr1,fr2,fr3,fr4,fr5,fr6,fr7,hrl⟩:=aaD;intro K hK;rw [if_pos bH];simp only [aE,List.foldr,Act.put,List.setIfInBounds_toArray,List.set_cons_zero,List.set_cons_succ,h40,h39,h38,h37,h36,h35,h34,h33,hv9];go_simp;refine hK _ _ ?_;clear hK K;intro K hK;rw [if_pos bH];go_simp;refine hK _ _ ?_;refine hK0 _ _ ?_;clear hK hK0 K K0;go_wp2;rcases HER.out with ⟨i,hi9,hwhy,rfl⟩ | ⟨hh,h8,rfl⟩
  ·exact bodyPost_ret (v:=.tuple #[.agg #[.string (aA ++ x.n),.int .i64 x.z,.string t,.string x.k,.bool x.x,.string x.n,.bool false,.slice none 0 0],.iface 255 (.pointer (some (E i)))]) aaz rfl ⟨sb1 (sb1 (sb1 (sb1 (sb1 (sb1 (sb1 (sb1 (HBW.out.trans (HWZ.out.mono HBW.out.size))))))))),.inr ⟨HMV.out,.inl ⟨i,hi9,hwhy,rfl⟩⟩⟩
  ·exact bodyPost_ret (v:=.tuple #[.agg #[.string (aA ++ x.n),.int .i64 x.z,.string t,.string x.k,.bool x.x,.string x.n,.bool false,.slice none 0 0],.nilIface]) aaz rfl ⟨sb1 (sb1 (sb1 (sb1 (sb1 (sb1 (sb1 (sb1 (HBW.out.trans (HWZ.out.mono HBW.out.size))))))))),.inr ⟨HMV.out,.inr ⟨hh,h8,rfl⟩⟩⟩

theorem kD (a : Option Addr) (n cap i base vb : Nat) (X ys : List Value) (w : World) (ho : w.ownsRow base 120 5 (.slice a n cap) n X) (hn : n ≤ 8) (hin : i ≤ n) (hbs : base ≤ w.heap.size) (hy : w.heap[vb]? = some (.cells ys.toArray 120 (0,0))) (hyl : ys.length = 5) (hy1 : ∀ u ∈ ys,u.oneCell' = true) (hX1 : ∀ u ∈ X,u.oneCell' = true) (hne : ∀ g,a = some ⟨g,0,none⟩ → ¬ vb = g) :
  Calls Tryz.prog 192 #[.slice a n cap,.int .i64 i,.slice (some ⟨vb,0,none⟩) 1 1] w fun e w' => ∃ v',e = .returned v' ∧ w'.ownsRow base 120 5 v' (n + 1) (X.take (i * 5) ++ ys ++ X.drop (i * 5)) ∧ w.grownBy w' ((.slice a n cap : Value).ownBlock):=by
 obtain ⟨i0,hi,hz0,hz1,hz2⟩:=info_parts gN;have HI0:=ae (And.intro hi (And.intro hz0 (And.intro hz1 hz2)));clear hi hz0 hz1 hz2;have hXl : X.length = n * 5:=ho.1;have hnc : n ≤ cap ∧ cap ≤ 9223372036854775807:=by
  exact aa6
 have hyn : ∀ (j : Nat) u,ys[j]? = some u → w.cell? ((⟨vb,0,none⟩ : Addr).add j) = some u:=fun j u hu => by
  rw [Addr.add_lit,ah hy,Nat.zero_add];simpa using hu
 have HYN:=ae hyn;have HO:=ae ho;have HY:=ae hy;have hvl : vb < w.heap.size:=aa hy;have HX1:=ae hX1;have HY1:=ae hy1;clear hyn ho hy hX1 hy1;by_cases hie : i = n
 ·subst hie;have e1 : X.take (i * 5) ++ ys ++ X.drop (i * 5) = X ++ ys:=abv
  rw [e1];clear e1;have hc0 : i ≤ cap:=hnc.1;have hq : cap = i ∨ ¬ cap = i:=Classical.em _;rcases hq with rfl | hcap
  ·exact abS
  ·exact abS
 have hil : i < n:=aaa
 obtain ⟨g,cur,rfl,hbg,hg,hcs,htk⟩ : ∃ g cur,a = some ⟨g,0,none⟩ ∧ base ≤ g ∧ w.heap[g]? = some (.cells cur 120 (0,0)) ∧ cur.size = cap * 5 ∧ cur.toList.take (n * 5) = X:=by
  exact aaY
 have hvg : ¬ vb = g:=hne g rfl;clear hne;have hcell : ∀ (j : Nat) u,X[j]? = some u → w.cell? ⟨g,j,none⟩ = some u:=fun j u hj => by
  exact aa2
 have hdl : (X.drop (i * 5)).length = (n - i) * 5:=aa1
 have hgl : g < w.heap.size:=aa hg;by_cases hroom : n + 1 ≤ cap
 ·have hcp1 : ∀ ty dc sc,(Builtin.copy_ #[192,192] ty #[.slice (some ⟨g,(i + 1) * 5,none⟩) (n - i) dc,.slice (some ⟨g,i * 5,none⟩) (n + 1 - i) sc]).run Tryz.prog w.drew = .ok (goInt (Nat.min (n + 1 - i) (n - i))) (w.drew.setRow g (cur.toList.take ((i + 1) * 5) ++ X.drop (i * 5) ++ cur.toList.drop ((i + 1) * 5 + (X.drop (i * 5)).length)).toArray):=fun ty dc sc =>
   bg w.drew 192 192 ty 120 g ((i + 1) * 5) (n - i) dc ⟨g,i * 5,none⟩ (n + 1 - i) sc 5 cur 120 (X.drop (i * 5)) i0 Tryz.underlying192 HI0.out.1 HI0.out.2.2.1 hg aak (fun j u hj => by
    rw [List.getElem?_drop] at hj;rw [Addr.add_lit]
    exact hcell _ u hj) (by rw [hdl,hcs];omega) (fun u hu => HX1.out u (List.mem_of_mem_drop hu))
  obtain ⟨cur1,hcur1⟩ : ∃ c1 : List Value,c1 = cur.toList.take ((i + 1) * 5) ++ X.drop (i * 5) ++ cur.toList.drop ((i + 1) * 5 + (X.drop (i * 5)).length):=⟨_,rfl⟩;rw [← hcur1] at hcp1;have hc1l : cur1.length = cap * 5:=by rw [hcur1];simp only [List.length_append,List.length_take,List.length_drop,hXl,Array.length_toList,hcs];omega
  obtain ⟨W1,hW1⟩ : ∃ W1,W1 = w.drew.setRow g cur1.toArray:=⟨_,rfl⟩;rw [← hW1] at hcp1;have hg1 : W1.heap[g]? = some (.cells cur1.toArray 120 (0,0)):=by rw [hW1];exact setRow_heap w.drew g _ _ 120 _ hg
  have hv1 : W1.heap[vb]? = w.heap[vb]?:=by rw [hW1];exact setRow_other w.drew g vb _ hvg
  have hcp2 : ∀ ty dc,(Builtin.copy_ #[192,34] ty #[.slice (some ⟨g,i * 5,none⟩) (n + 1 - i) dc,.slice (some ⟨vb,0,none⟩) 1 1]).run Tryz.prog W1 = .ok (goInt (Nat.min 1 (n + 1 - i))) (W1.setRow g (cur1.take (i * 5) ++ ys ++ cur1.drop (i * 5 + ys.length)).toArray):=fun ty dc => by
   have:=bg W1 192 34 ty 120 g (i * 5) (n + 1 - i) dc ⟨vb,0,none⟩ 1 1 5 cur1.toArray 120 ys i0 Tryz.underlying192 HI0.out.1 HI0.out.2.2.1 hg1 aam (fun j u hj => by
    rw [Addr.add_lit,ah (hv1.trans HY.out),Nat.zero_add]
    simpa using hj) abw HY1.out
   simpa using this
  have hov : ∀ lb cb,(callFunc 202 #[.slice (some ⟨vb,0,none⟩) 1 1,.slice (some ⟨g,(i + 1) * 5,none⟩) lb cb]).run Tryz.prog w = .ok (.value (.bool false)) w:=fun lb cb => by
   rw [run_callFunc_extern Tryz.func202 av av av (e:=Extern.SlicesOverlaps.overlaps #[34,34] #[4]) av,
    Lib.run_overlaps_apart w 34 4 120 Tryz.underlying34 5 (fun w => by kernel_rfl) ⟨vb,0,none⟩ ⟨g,(i + 1) * 5,none⟩ 1 1 lb cb hvg 120 120 ys.toArray.size cur.size (by simp [World.shape?,HY.out]) (by simp [World.shape?,hg]) (Nat.ne_of_gt (by rw [hcs];omega)) (au HY.out _) (au HY.out _)]
   rfl
  obtain ⟨hb2,hb4,hb5,hb6⟩:=aa4;obtain ⟨mixed,hw1,hb1⟩:=aal;obtain ⟨hin,htn,hb3⟩:=aaS;have u0:=run_underlying Tryz.underlying192;have HG:=ae hg;have HG1:=ae hg1;have HW1:=ae hW1;have HC1:=ae hcur1;have HTK:=ae htk;clear hg hg1 hW1 hcur1 htk hv1 hcell hdl hie;go_enter Tryz.func192,Tryz.ntmps192;go_wp2_with (simp only [hov]);go_region_law_o (refine cg rfl _ _ 192 192 rfl _ _ aac aac (hcp1 (3) (cap - (i + 1)) (cap - i)) ?_);go_wp2_with (at_builtin;refine bN _ rfl _ _ 192 34 rfl _ _ rfl rfl (hcp2 _ _) ?_);go_ret;refine ⟨_,rfl,⟨?_,Or.inr ⟨g,cap,(cur1.take (i * 5) ++ (ys ++ cur1.drop (i * 5 + 5))).toArray,rfl,hbg,setRow_heap W1 g _ _ _ _ HG1.out,hroom,by unfold maxLen;omega,?_,?_⟩⟩,?_⟩
  ·exact aaq
  ·exact aaO
  ·have e:=jq (a:=i * 5) (b:=n * 5) (c:=cap * 5) (m:=5) (c1:=cur1) HTK.out (by rw [Array.length_toList,hcs]) af af hyl (by rw [HC1.out,show (i + 1) * 5 = i * 5 + 5 by omega]);rw [show (n + 1) * 5 = n * 5 + 5 by omega];simpa using e
  ·exact aa8
 have hcn : cap = n:=aaa
 subst hcn;obtain ⟨N,hN⟩ : ∃ N,N = w.heap.size:=⟨_,rfl⟩;obtain ⟨G,hG⟩ : ∃ G,G = grownCap w (cap + 1) cap 120:=⟨_,rfl⟩;obtain ⟨ROW,hROW⟩ : ∃ R : Array Value,R = (X.take (i * 5)).toArray ++ Builtin.zeroCells (.agg #[.string ⟨#[]⟩,.int .i64 0,.string ⟨#[]⟩,.bool false,.string ⟨#[]⟩] : Value).cells (cap + 1 - i) ++ Builtin.zeroCells (.agg #[.string ⟨#[]⟩,.int .i64 0,.string ⟨#[]⟩,.bool false,.string ⟨#[]⟩] : Value).cells (G - (cap + 1)):=⟨_,rfl⟩;obtain ⟨W1,hW1⟩ : ∃ W1,W1 = w.drew.alloc (.cells ROW 120):=⟨_,rfl⟩;have hGn : cap + 1 ≤ G:=by rw [hG];exact grownCap_ge w _ _ _
 have hG63 : G ≤ 9223372036854775807:=by
  have:=grownCap_le_maxLen w (cap + 1) cap 120 cd;rw [← hG] at this;unfold maxLen at this;omega
 have hRs : ROW.size = G * 5:=by
  rw [hROW];simp only [Array.size_append,List.size_toArray,List.length_take,size_zeroCells,hXl];rw [show (.agg #[.string ⟨#[]⟩,.int .i64 0,.string ⟨#[]⟩,.bool false,.string ⟨#[]⟩] : Value).cells.size = 5 from rfl];omega
 have hRt : ROW.toList.take (i * 5) = X.take (i * 5):=by
  exact aaR
 have hrz : ∀ ty,(Builtin.append_ #[192,3] ty #[.slice (some ⟨g,0,none⟩) i cap,.int .i64 ((cap : Int) + 1 - (i : Int))]).run Tryz.prog w = .ok (.slice (some ⟨N,0,none⟩) (cap + 1) G) W1:=fun ty => by
  have hold : (Builtin.firstCells i0.size i (.slice (some ⟨g,0,none⟩) i cap)).run Tryz.prog w.drew = .ok (X.take (i * 5)).toArray w.drew:=by
   rw [HI0.out.2.2.1];exact run_firstCells_some w.drew 5 i ⟨g,0,none⟩ i cap (X.take (i * 5)) iS (fun j v hj => by
    rw [Addr.add_lit,Nat.zero_add];rw [List.getElem?_take] at hj
    split at hj
    ·exact hcell j v hj
    ·cases hj)
  have h:=Lib.run_append_grow_zeros w 192 3 ty 120 i0 _ .i64 .i64 Tryz.underlying192 Tryz.underlying3 HI0.out.1 HI0.out.2.1 (some ⟨g,0,none⟩) i cap (X.take (i * 5)) hold (cap + 1 - i) af (by rw [HI0.out.2.2.1];decide) af af (by rw [HI0.out.2.2.2];omega) aa9;exact aaP
 have hgN : W1.heap[N]? = some (.cells ROW 120 (0,0)):=by rw [hW1,hN];exact Go.heap_alloc_new w.drew _
 obtain ⟨hg1,hv1⟩:=abq;obtain ⟨R2,hR2⟩ : ∃ R2 : List Value,R2 = ROW.toList.take (i * 5) ++ ys ++ ROW.toList.drop (i * 5 + ys.length):=⟨_,rfl⟩;obtain ⟨W2,hW2⟩ : ∃ W2,W2 = W1.setRow N R2.toArray:=⟨_,rfl⟩;have hcpA : ∀ ty dc,(Builtin.copy_ #[192,34] ty #[.slice (some ⟨N,i * 5,none⟩) (cap + 1 - i) dc,.slice (some ⟨vb,0,none⟩) 1 1]).run Tryz.prog W1 = .ok (goInt (Nat.min 1 (cap + 1 - i))) W2:=fun ty dc => by
  rw [hW2,hR2];exact bg W1 192 34 ty 120 N (i * 5) (cap + 1 - i) dc ⟨vb,0,none⟩ 1 1 5 ROW 120 ys i0 Tryz.underlying192 HI0.out.1 HI0.out.2.2.1 hgN aam (fun j u hj => by
   rw [Addr.add_lit,ah (hv1.trans HY.out),Nat.zero_add]
   simpa using hj) (by rw [hRs,hyl];omega) HY1.out
 have hR2l : R2.length = G * 5:=by
  exact aaW
 have hgN2 : W2.heap[N]? = some (.cells R2.toArray 120 (0,0)):=by rw [hW2];exact setRow_heap W1 N _ _ 120 _ hgN
 obtain ⟨hgn,hg2⟩:=abd;obtain ⟨R3,hR3⟩ : ∃ R3 : List Value,R3 = R2.take ((i + 1) * 5) ++ X.drop (i * 5) ++ R2.drop ((i + 1) * 5 + (X.drop (i * 5)).length):=⟨_,rfl⟩;obtain ⟨W3,hW3⟩ : ∃ W3,W3 = W2.drew.setRow N R3.toArray:=⟨_,rfl⟩;have hcpB : ∀ ty dc sc,(Builtin.copy_ #[192,192] ty #[.slice (some ⟨N,(i + 1) * 5,none⟩) (cap - i) dc,.slice (some ⟨g,i * 5,none⟩) (cap - i) sc]).run Tryz.prog W2.drew = .ok (goInt (Nat.min (cap - i) (cap - i))) W3:=fun ty dc sc => by
  have:=bg W2.drew 192 192 ty 120 N ((i + 1) * 5) (cap - i) dc ⟨g,i * 5,none⟩ (cap - i) sc 5 R2.toArray 120 (X.drop (i * 5)) i0 Tryz.underlying192 HI0.out.1 HI0.out.2.2.1 hgN2 aak (fun j u hj => by
   rw [List.getElem?_drop] at hj;have hc:=hcell _ u hj;rw [Addr.add_lit];rw [← hc]
   exact World.cell?_of_block (w:=w) (w':=W2.drew) hg2) abp (fun u hu => HX1.out u (List.mem_of_mem_drop hu))
  rw [hW3,hR3];simpa only [List.toList_toArray] using this
 have hW3o : ∀ k,¬ k = N → W3.heap[k]? = W1.heap[k]?:=fun k hk => by rw [hW3,setRow_other W2.drew N k _ hk];exact (congrArg (fun z : World => z.heap[k]?) hW2).trans (setRow_other W1 N k _ hk)
 have hfin : w.grownBy W3 (some g):=by
  exact aaQ
 have hrow : W3.ownsRow base 120 5 (.slice (some ⟨N,0,none⟩) (cap + 1) G) (cap + 1) (X.take (i * 5) ++ ys ++ X.drop (i * 5)):=by
  refine ⟨?_,Or.inr ⟨N,G,R3.toArray,rfl,by omega,by rw [hW3];exact setRow_heap W2.drew N _ _ 120 _ hgN2,hGn,by unfold maxLen;omega,?_,?_⟩⟩
  ·exact aaq
  ·exact abt
  ·have e:=gQ (a:=i * 5) (b:=cap * 5) (m:=5) (R2:=R2) hRt hXl af hyl hR2 (R2.drop ((i + 1) * 5 + (X.drop (i * 5)).length));rw [hR3,show (cap + 1) * 5 = cap * 5 + 5 by omega,show (i + 1) * 5 = i * 5 + 5 by omega];rw [show (i + 1) * 5 = i * 5 + 5 by omega] at e;simpa using e
 obtain ⟨hGi,hGim,hci,hz2,hz3⟩:=abx;obtain ⟨mixed,hw1,hb1⟩:=aal;obtain ⟨hin,htn,hb3⟩:=abu;have u0:=run_underlying Tryz.underlying192;have HF:=ae (And.intro hrow hfin);clear hN hrow hfin hW3o hW3 hW2 hR3 hg2 hgN2 hR2l hR2 hv1 hg1 hgN hRt hRs hW1 hROW hG hcell hdl hie hg htk hcs HO;go_enter Tryz.func192,Tryz.ntmps192;go_wp2_with (first
  | (at_builtin;refine Lib.wpList_append_run _ rfl _ _ _ _ rfl _ _ rfl rfl _ _ (hrz _) ?_)
  | (at_builtin;refine bN _ rfl _ _ 192 34 rfl _ _ rfl rfl (hcpA _ _) ?_))

 go_region_law_o (refine cg rfl _ _ 192 192 rfl _ _ aac aac (hcpB 3 (G - (i + 1)) (cap - i)) ?_)
 go_wp2
 go_ret;exact ⟨_,rfl,HF.out.1,HF.out.2⟩

theorem ij (a : Option Addr) (n cap : Nat) (X : List Value) (w : World) (hn : n ≤ 8) (hXl : X.length = n * 5) (hX1 : ∀ u ∈ X,u.oneCell' = true) (hXc : ∀ (j : Nat) u,X[j]? = some u → ∃ g,a = some ⟨g,0,none⟩ ∧ w.cell? ⟨g,j,none⟩ = some u) :
  Calls Tryz.prog 193 #[.slice a n cap] w fun e w' => ∃ a' c',e = .returned (.slice a' n c') ∧ w'.ownsRow w.heap.size 120 5 (.slice a' n c') n X ∧ Below w.heap.size w w':=by
 obtain ⟨i0,hi,hz0,hz1,hz2⟩:=info_parts gN;have HI0:=ae (And.intro hi (And.intro hz0 (And.intro hz1 hz2)));clear hi hz0 hz1 hz2;have HX1:=ae hX1;have HXC:=ae hXc;have heq : ∀ w : World,(binOp .eql 192 (.slice a n cap) (.slice none 0 0)).run Tryz.prog w = .ok (.bool a.isNone) w:=fun w => Lib.run_eql_slice_nil w 192 120 a n cap 0 0 Tryz.underlying192;clear hX1 hXc;cases a with
 | none =>
  obtain rfl : X = []:=by
   rcases X with _ | ⟨u,X⟩
   ·rfl
   ·obtain ⟨g,e,_⟩:=HXC.out 0 u rfl
    cases e
  obtain rfl : n = 0:=by simp at hXl;omega
  go_enter Tryz.func193,Tryz.ntmps193
  go_wp2
  go_ret;exact ⟨none,0,rfl,World.ownsRow_nil _ _ _ _,Below.refl _ _⟩
 | some ad =>
  obtain ⟨ab,ao,asp⟩:=ad
  have hnew : ∀ (j : Nat) u,X[j]? = some u → (w.alloc (.cells #[] 120)).cell? ((⟨ab,ao,asp⟩ : Addr).add j) = some u:=fun j u hu => by
   obtain ⟨g,e,hc⟩:=HXC.out j u hu
   cases e
   rw [Addr.add_lit,Nat.zero_add];have hlt:=bq hc;rw [← hc];exact World.cell?_of_block (heap_alloc_old w _ hlt)
  have HN:=ae hnew;have HO : Hid ((w.alloc (.cells #[] 120)).ownsRow w.heap.size 120 5 (.slice (some ⟨w.heap.size,0,none⟩) 0 0) 0 []):=World.ownsRow_made w #[] 0 (Nat.le_refl _) (Nat.zero_le _) aN;clear hnew HXC
  go_enter Tryz.func193,Tryz.ntmps193
  go_wp2_with (at_builtin;refine bm rfl _ _ 192 192 rfl w.heap.size 120 120 i0 (.agg #[.string ⟨#[]⟩,.int .i64 0,.string ⟨#[]⟩,.bool false,.string ⟨#[]⟩]) 5 64 Tryz.underlying192 Tryz.underlying192 HI0.out.1 HI0.out.2.1 HI0.out.2.2.1 HI0.out.2.2.2 rfl al _ _ _ rfl HO.out ⟨ab,ao,asp⟩ n cap X rfl hXl HN.out HX1.out cd af aN ?_)
  intro v' w' h1 h2
  obtain ⟨a',c',rfl⟩ : ∃ a' c',v' = .slice a' n c':=by
   rcases h1.2 with ⟨rfl,h0⟩ | ⟨g,cp,cu,rfl,_⟩
   ·exact ⟨none,0,by rw [h0]⟩
   ·exact ⟨_,_,rfl⟩
  have H1:=ae h1;have H2:=ae h2;clear h1 h2
  go_wp2
  go_ret;refine ⟨a',c',rfl,H1.out,((an w (.cells #[] 120)).grown H2.out aN (fun g hg => ?_))⟩
  simp [Value.ownBlock] at hg
  omega

theorem ou (a : Option Addr) (n cap : Nat) (xs : List Xd) (x : Xd) (hh : Nat) (Q Q2 : Nat → Prop) (w : World) (ho : aB w a n cap 5 120 (xs.map xdF) Q) (hn : n ≤ 8) (hxf : ∀ (i : Nat) f,(xdF x)[i]? = some f → ∃ v,[.string x.n,.int .i64 x.z,.string x.k,.bool x.x,.string x.v][i]? = some v ∧ f.Fr w hh Q2 v) (hq : ∀ k,Q k → Q2 k → False) :
  Calls Tryz.prog 176 #[.slice a n cap,.agg #[.string x.n,.int .i64 x.z,.string x.k,.bool x.x,.string x.v]] w fun e w' => ∃ a' l' c',e = .returned (.slice a' l' c') ∧ aB w' a' l' c' 5 120 ((bh (pl Xd.n xs x.n) x xs).map xdF) (fun k => (Q k ∨ Q2 k) ∨ w.heap.size ≤ k) ∧ Below w.heap.size w w':=by
 have HR:=ae ho.row;have hxl : xs.length = n:=by simpa using ho.1
 obtain ⟨vss,H,hV,hcell⟩:=ho.lA;have hvl : vss.length = n:=by rw [hV.len,List.length_map,hxl]
 have hfl : vss.flatten.length = n * 5:=by rw [cV hV.all,hvl]
 have HV:=ae hV;have HC:=ae hcell;have HF:=ae hxf;have HQ:=ae hq;clear ho hV hcell hxf hq;have hmcalled : ∀ (v : Value) (w : World),(method 406 120 v "loop.example/g00571/impl.called").run Tryz.prog w = .ok (239,v) w:=fun _ _ => by kernel_rfl
 obtain ⟨j,hj⟩ : ∃ j,j = pl Xd.n xs x.n:=⟨_,rfl⟩;have hjn : j ≤ n:=by rw [hj,← hxl];exact List.findIdx_le_length
 have HJ:=ae hj;have HFIN : Hid (∀ (w4 : World) v4 base,w.heap.size ≤ base → Below w.heap.size w w4 → w4.ownsRow base 120 5 v4 (n + 1) (vss.flatten.take (j * 5) ++ [.string x.n,.int .i64 x.z,.string x.k,.bool x.x,.string x.v] ++ vss.flatten.drop (j * 5)) → ∃ a' c',v4 = .slice a' (n + 1) c' ∧ aB w4 a' (n + 1) c' 5 120 ((bh (pl Xd.n xs x.n) x xs).map xdF) (fun k => (Q k ∨ Q2 k) ∨ w.heap.size ≤ k)):=fun w4 v4 base hbs hB4 ho4 => by
  rw [← gP HV.out.all af] at ho4;have hV4:=(HV.out.below hB4).aH (w':=w4) (S':=fun k => (Q k ∨ Q2 k) ∨ w.heap.size ≤ k) (fun _ _ _ _ => rfl) (fun _ _ s => .inl (.inl s));obtain ⟨H4,hV5⟩:=hV4.ins (p:=j) (r:=xdF x) (vs:=[.string x.n,.int .i64 x.z,.string x.k,.bool x.x,.string x.v]) (hh:=fun _ => hh) rfl rfl (fun i f hf => by
   obtain ⟨v,h1,h2⟩:=HF.out i f hf
   exact ⟨v,h1,h2.aH (fun cu _ q => hB4.block _ (aa q)) (fun _ s => .inl (.inr s))⟩) (fun i zs h _ => by rcases i with _ | _ | _ | _ | _ | i <;> simp [xdF] at h) (fun i i2 zs zs2 h _ _ _ => by rcases i with _ | _ | _ | _ | _ | i <;> simp [xdF] at h) aaC
  have h45 : aS w4 (fun k => (Q k ∨ Q2 k) ∨ w.heap.size ≤ k) 5 ((bh j x xs).map xdF) (bh j [.string x.n,.int .i64 x.z,.string x.k,.bool x.x,.string x.v] vss) H4:=by rw [jt];exact hV5
  have hle : ((bh j x xs).map xdF).length = n + 1:=aa_
  exact acA
 have HCL : Hid (∀ W,Below w.heap.size w W → ∀ (k : Nat) u,vss.flatten[k]? = some u → ∃ g,a = some ⟨g,0,none⟩ ∧ W.cell? ⟨g,k,none⟩ = some u):=fun W hW k u hu => by
  exact aaV
 have HV1:=ae HV.out.one;clear HV HC HF HQ hj;go_enter Tryz.func176,Tryz.ntmps176;go_wp2_with fail;refine (dv x _).mono ?_;rintro e w1 ⟨rfl,hb1⟩;obtain ⟨hn1,hbx⟩:=aG hb1;have HN1:=ae hn1;have HB1:=ae hbx;clear hb1 hn1 hbx;go_wp2_with fail;refine (ic a n cap xs x.n _ (HR.out.below HB1.out)).mono ?_;rintro e w2 ⟨rfl,hb2⟩;have HN2:=ae ((hb2.block w.heap.size (aa HN1.out)).trans HN1.out);have HB2:=upB HB1 hb2;clear hb2 HN1 HB1;rw [← HJ.out];generalize hit Xd.n xs x.n = bb;obtain ⟨hs2,HBD⟩:=abk;obtain ⟨n0,n1,n2,n3,n4⟩:=cs5 (show w2.drew.heap[w.heap.size]? = _ from HN2.out);have hcl1 : Calls Tryz.prog 193 #[.slice a n cap] w2.drew fun e w3 => ∃ a3 c3,e = .returned (.slice a3 n c3) ∧ Hid (w3.ownsRow w2.heap.size 120 5 (.slice a3 n c3) n vss.flatten) ∧ Hid (Below w.heap.size w w3) ∧ w2.heap.size ≤ w3.heap.size ∧ w.heap.size < w3.heap.size ∧ w3.heap[w.heap.size]? = some (.cells #[.string x.n,.int .i64 x.z,.string x.k,.bool x.x,.string x.v] 120 (0,0)):=by
  refine (ij a n cap vss.flatten w2.drew hn hfl HV1.out (HCL.out _ HBD.out)).mono ?_;exact aby
 have hcl2 : Calls Tryz.prog 193 #[.slice a n cap] (w2.alloc (.cells #[.string x.n,.int .i64 x.z,.string x.k,.bool x.x,.string x.v] 120)).drew fun e w3 => ∃ a3 c3,e = .returned (.slice a3 n c3) ∧ Hid (w3.ownsRow (w2.heap.size + 1) 120 5 (.slice a3 n c3) n vss.flatten) ∧ Hid (Below w.heap.size w w3) ∧ w2.heap.size + 1 ≤ w3.heap.size ∧ Hid (w3.heap[w2.heap.size]? = some (.cells #[.string x.n,.int .i64 x.z,.string x.k,.bool x.x,.string x.v] 120 (0,0))):=by
  have hbl:=Below.gi (HB2.out.alloc HB2.out.size (.cells #[.string x.n,.int .i64 x.z,.string x.k,.bool x.x,.string x.v] 120));have hsz : (w2.alloc (.cells #[.string x.n,.int .i64 x.z,.string x.k,.bool x.x,.string x.v] 120)).drew.heap.size = w2.heap.size + 1:=by simp
  refine (ij a n cap vss.flatten _ hn hfl HV1.out (HCL.out _ hbl)).mono ?_;rintro e w3 ⟨a3,c3,rfl,ho3,hb3⟩;have hs3:=hb3.size;rw [hsz] at ho3 hs3;exact ⟨a3,c3,rfl,ho3,hbl.trans (hb3.mono hbl.size),hs3,(hb3.block w2.heap.size (by rw [hsz];omega)).trans (show (w2.alloc (.cells #[.string x.n,.int .i64 x.z,.string x.k,.bool x.x,.string x.v] 120)).drew.heap[w2.heap.size]? = _ from heap_alloc_new w2 _)⟩
 have hin1 : ∀ (w3 : World) a3 c3,w3.ownsRow w2.heap.size 120 5 (.slice a3 n c3) n vss.flatten → Below w.heap.size w w3 → w2.heap.size ≤ w3.heap.size → Calls Tryz.prog 192 #[.slice a3 n c3,.int .i64 j,.slice (some ⟨w3.heap.size,0,none⟩) 1 1] (w3.alloc (.cells #[.string x.n,.int .i64 x.z,.string x.k,.bool x.x,.string x.v] 120)) fun e w4 => ∃ a' c',e = .returned (.slice a' (n + 1) c') ∧ Hid (aB w4 a' (n + 1) c' 5 120 ((bh (pl Xd.n xs x.n) x xs).map xdF) (fun k => (Q k ∨ Q2 k) ∨ w.heap.size ≤ k)) ∧ Hid (Below w.heap.size w w4):=fun w3 a3 c3 ho3 hB3 hs3 => by
  refine (kD a3 n c3 j w2.heap.size w3.heap.size vss.flatten [.string x.n,.int .i64 x.z,.string x.k,.bool x.x,.string x.v] (w3.alloc (.cells #[.string x.n,.int .i64 x.z,.string x.k,.bool x.x,.string x.v] 120)) (ho3.alloc _) hn hjn bF (heap_alloc_new w3 _) rfl aab HV1.out (fun g hg e => by
   have h9:=(ho3.lt g (by rw [hg];rfl)).2
   omega)).mono ?_
  rintro e w4 ⟨v4,rfl,ho4,hg4⟩;have hB5:=(hB3.alloc hB3.size (.cells #[.string x.n,.int .i64 x.z,.string x.k,.bool x.x,.string x.v] 120)).grown hg4 bF (fun g hg => by
   have h9:=(ho3.lt g hg).1
   omega)
  exact aaG
 have hin2 : ∀ (w3 : World) a3 c3,w3.ownsRow (w2.heap.size + 1) 120 5 (.slice a3 n c3) n vss.flatten → Below w.heap.size w w3 → w2.heap.size + 1 ≤ w3.heap.size → w3.heap[w2.heap.size]? = some (.cells #[.string x.n,.int .i64 x.z,.string x.k,.bool x.x,.string x.v] 120 (0,0)) → Calls Tryz.prog 192 #[.slice a3 n c3,.int .i64 j,.slice (some ⟨w2.heap.size,0,none⟩) 1 1] w3 fun e w4 => ∃ a' c',e = .returned (.slice a' (n + 1) c') ∧ Hid (aB w4 a' (n + 1) c' 5 120 ((bh (pl Xd.n xs x.n) x xs).map xdF) (fun k => (Q k ∨ Q2 k) ∨ w.heap.size ≤ k)) ∧ Hid (Below w.heap.size w w4):=fun w3 a3 c3 ho3 hB3 hs3 hy3 => by
  refine (kD a3 n c3 j (w2.heap.size + 1) w2.heap.size vss.flatten [.string x.n,.int .i64 x.z,.string x.k,.bool x.x,.string x.v] w3 ho3 hn hjn hs3 hy3 rfl aab HV1.out (fun g hg e => by
   have h9:=(ho3.lt g (by rw [hg];rfl)).1
   omega)).mono ?_
  exact aaN
 have C1:=ae hcl1;have C2:=ae hcl2;have I1:=ae hin1;have I2:=ae hin2;clear hcl1 hcl2 hin1 hin2 HFIN HCL HR HJ HBD HB2;have mixed : Tryz.prog.follows .mixedOrders = true:=aae
 go_wp2;go_region_with (first
  | (go_at_call 193;refine C1.out.mono ?_;rintro e w3 ⟨a3,c3,rfl,HO3,HB3,hs3,hw3l,hx3⟩;obtain ⟨m0,m1,m2,m3,m4⟩:=cs5 hx3;clear hx3)
  | (go_at_call 193;refine C2.out.mono ?_;rintro e w3 ⟨a3,c3,rfl,HO3,HB3,hs3,HY3⟩)
  | (go_at_call 192;refine (I1.out w3 a3 c3 HO3.out HB3.out hs3).mono ?_;rintro e w4 ⟨a',c',rfl,HR5,HB5⟩)
  | (go_at_call 192;refine (I2.out w3 a3 c3 HO3.out HB3.out hs3 HY3.out).mono ?_;rintro e w4 ⟨a',c',rfl,HR5,HB5⟩))
 all_goals (
  go_wp2
  go_ret
  exact ⟨a',_,c',rfl,HR5.out,HB5.out⟩)

theorem fA (w : World) (o p q r : Obj) : Below w.heap.size w ((((w.alloc o).alloc p).alloc q).alloc r):=(br w o p q).alloc (by simp;omega) r
theorem tH {w w' : World} {o p q r : Obj} (h : Below ((((w.alloc o).alloc p).alloc q).alloc r).heap.size ((((w.alloc o).alloc p).alloc q).alloc r) w') : w'.heap[w.heap.size]? = some o ∧ w'.heap[w.heap.size + 1]? = some p ∧ w'.heap[w.heap.size + 1 + 1]? = some q ∧ w'.heap[w.heap.size + 1 + 1 + 1]? = some r ∧ Below w.heap.size w w':=by
 obtain ⟨h1,h2⟩:=aG h;obtain ⟨h3,h4,h5,h6⟩:=lz h2;exact ⟨h3,h4,h5,by simpa using h1,h6⟩
def RoF (m : Nat) (T : TypeId) (rs : List (List Fv)) (S : Nat → Prop) : Fact:=fun v w => ∃ a l p,v = .slice a l p ∧ aB w a l p m T rs S
theorem RoF.mono (m : Nat) (T : TypeId) (rs : List (List Fv)) (S : Nat → Prop) : Fact.bw (RoF m T rs S):=by
 rintro v w w' ⟨a,l,p,h1,h2⟩ hb;exact ⟨a,l,p,h1,h2.below hb⟩

theorem ig (d : Ad) (c : Cl) (x : Xd) (v : Vd) (va : Option Addr) (vl vc B : Nat) (w : World) (hr : aM w d c.raw) (hs : Sm c) (hv : bV w va vl vc v.zs (fun k => B ≤ k ∧ k < w.heap.size)) (hB : B ≤ w.heap.size) (z0 : x.n.size ≤ 9223372036854775807) (z2 : x.k.size ≤ 9223372036854775807) (y0 : v.n.size ≤ 9223372036854775807) (y2 : v.z.size ≤ 9223372036854775807) (y3 : v.k.size ≤ 9223372036854775807) :
  Calls Tryz.prog 163 #[.agg #[.slice d.a1 d.l1 d.c1,.slice d.a2 d.l2 d.c2,.slice d.a3 d.l3 d.c3,.slice d.a4 d.l4 d.c4,.slice d.a5 d.l5 d.c5,.int .i64 c.now],.agg #[.string x.n,.int .i64 x.z,.string x.k,.bool x.x,.string x.v],.agg #[.string v.n,.int .i64 v.c,.string v.z,.string v.k,.bool v.x,.string v.m,.bool v.y,.slice va vl vc]] w fun e w' => ∃ d',e = .returned (.agg #[.slice d'.a1 d'.l1 d'.c1,.slice d'.a2 d'.l2 d'.c2,.slice d'.a3 d'.l3 d'.c3,.slice d'.a4 d'.l4 d'.c4,.slice d'.a5 d'.l5 d'.c5,.int .i64 c.now]) ∧ cf w' d' (fR c (bdX x v.n) (bdV v x.n)).raw (fun k => B ≤ k) ∧ Below w.heap.size w w':=by
 have HR:=ae hr;have HS:=ae hs;have HV:=ae hv;have HZ:=ae (And.intro z0 (And.intro z2 (And.intro y0 (And.intro y2 y3))));have HB:=ae (Below.refl w.heap.size w);clear hr hs hv z0 z2 y0 y2 y3;go_enter Tryz.func163,Tryz.ntmps163;go_wp2_with fail;refine (kC d c _ (HR.out.below (fA _ _ _ _ _)) HS.out).mono ?_;rintro e w1 ⟨d',rfl,ho,hb⟩;have HQ2:=ae hb.size;simp only [df] at HQ2 ho;obtain ⟨HA0,HA1,HA2,HA3,hbx⟩:=tH hb;have Bk:=ae HA0;have Bx:=ae HA1;have Bv:=ae HA2;have Br:=ae HA3;replace HB:=upB HB hbx;clear hb hbx HA0 HA1 HA2 HA3;obtain ⟨P,hP⟩:=ho;have HP:=ae hP;have hq2 : w.heap.size + 1 + 1 + 1 + 1 ≤ w1.heap.size:=HQ2.out;clear hP;obtain ⟨W,hW0⟩ : ∃ W,W = w1.alloc (.cells #[.slice d'.a1 d'.l1 d'.c1,.slice d'.a2 d'.l2 d'.c2,.slice d'.a3 d'.l3 d'.c3,.slice d'.a4 d'.l4 d'.c4,.slice d'.a5 d'.l5 d'.c5,.int .i64 c.now] 37):=⟨_,rfl⟩;have hWs : W.heap.size = w1.heap.size + 1:=by rw [hW0];simp
 have hb1 : Below w1.heap.size w1 W:=by rw [hW0];exact an _ _
 have HB1:=ae hb1;have BxW:=upK Bx hb1;have BvW:=upK Bv hb1;have BrW:=upK Br hb1;have BoW : Hid (W.heap[w1.heap.size]? = some (.cells #[.slice d'.a1 d'.l1 d'.c1,.slice d'.a2 d'.l2 d'.c2,.slice d'.a3 d'.l3 d'.c3,.slice d'.a4 d'.l4 d'.c4,.slice d'.a5 d'.l5 d'.c5,.int .i64 c.now] 37 (0,0))):=by rw [hW0];exact heap_alloc_new w1 (.cells #[.slice d'.a1 d'.l1 d'.c1,.slice d'.a2 d'.l2 d'.c2,.slice d'.a3 d'.l3 d'.c3,.slice d'.a4 d'.l4 d'.c4,.slice d'.a5 d'.l5 d'.c5,.int .i64 c.now] 37)
 have HBW:=upB HB hb1;have hlx : d'.l4 ≤ 8:=by have h6:=HP.out.x.1;have h7 : (c.xs.map xdF).length = d'.l4:=h6;rw [List.length_map] at h7;have:=HS.out.x;omega
 have hlv : d'.l3 ≤ 8:=by have h6:=HP.out.v.1;have h7 : (c.vs.map vdF).length = d'.l3:=h6;rw [List.length_map] at h7;have:=HS.out.v;omega
 clear hb1;obtain ⟨x0,x1,x2,x3,x4⟩:=cs5 Bx.out;have ltx_1:=aa Bx.out;obtain ⟨v0,v1,v2,v3,v4,v5,v6,v7⟩:=cs8 Bv.out;have ltv_1:=aa Bv.out;go_wp2_with fail;clear x0 x1 x2 x3 x4 ltx_1 v0 v1 v2 v3 v4 v5 v6 v7 ltv_1;rw [← hW0];clear hW0;rename_i K0 hK0;refine Gt.aT av rfl rfl av ?_;refine' aw.aq _ rfl ?_ ?_;rotate_left 1
 ·exact aad
 refine' aw.aq _ rfl ?_ ?_;rotate_left 1
 ·refine Obl.plain rfl ?_;intro ac wg K hsz hW hf hK;clear hsz;have e16:=hf 16 al;simp [ai,List.lookup] at e16;clear hf;obtain ⟨o0,o1,o2,o3,o4,o5⟩:=cs6 ((hW.block _ (aa BoW.out)).trans BoW.out);exact aO
 refine' aw.aq _ rfl ?_ ?_;rotate_left 1
 ·refine Obl.plain rfl ?_;intro ac wg K hsz hW hf hK;clear hsz;have e4:=hf 4 al;simp [ai,List.lookup] at e4;clear hf;exact aO
 refine' aw.aq _ rfl ?_ ?_;rotate_left 1
 ·refine Obl.plain rfl ?_;intro ac wg K hsz hW hf hK;clear hsz;have e18:=hf 18 al;simp [ai,List.lookup] at e18;exact abh
 refine aw.step (RoF 5 120 ((wo Xd.n x.n c.xs).map xdF) (fun k => ((w.heap.size + 1 + 1 + 1 + 1 ≤ k ∧ P k = 4) ∧ k < w1.heap.size) ∨ w1.heap.size + 1 ≤ k)) rfl (RoF.mono _ _ _ _) ?_ ?_
 ·refine Obl.plain rfl ?_;intro ac wg K hsz hW hf hK;clear hsz;have e17:=hf 17 al;simp [ai,List.lookup] at e17;have e19:=hf 19 al;simp [ai,List.lookup] at e19;clear hf;go_simp;have hs6:=hW.size;refine (sC d'.a4 d'.l4 d'.c4 c.xs x.n (fun k => (w.heap.size + 1 + 1 + 1 + 1 ≤ k ∧ P k = 4) ∧ k < w1.heap.size) _ (((HP.out.x.bs (fun k hk s => ⟨s,hk⟩)).below HB1.out).below hW) hlx).mono ?_;rintro e w6 ⟨a2,l2,p2,rfl,ho6,hb6⟩;exact hK _ _ hb6 ⟨a2,l2,p2,rfl,ho6.bs (fun k _ s => s.imp id (fun q => by have q1 : wg.heap.size ≤ k:=q;omega))⟩
 refine' aw.aq _ rfl ?_ ?_;rotate_left 1
 ·refine Obl.plain rfl ?_;intro ac wg K hsz hW hf hK;clear hsz;have e4:=hf 4 al;simp [ai,List.lookup] at e4;exact abh
 refine aw.step (RoF 5 120 ((fR c (bdX x v.n) (bdV v x.n)).xs.map xdF) (fun k => ((w.heap.size + 1 + 1 + 1 + 1 ≤ k ∧ P k = 4) ∧ k < w1.heap.size) ∨ w1.heap.size + 1 ≤ k)) rfl (RoF.mono _ _ _ _) ?_ ?_
 ·refine Obl.plain rfl ?_;intro ac wg K hsz hW hf hK;clear hsz;have e20:=hf 20 al;simp [ai,List.lookup] at e20;have e21:=hf 21 al;simp [ai,List.lookup] at e21;clear hf;obtain ⟨a2,l2,p2,e20,ho2⟩:=e20;go_simp;have hs6:=hW.size;have hl2 : l2 ≤ 8:=by have h6:=ho2.1;rw [List.length_map] at h6;have h7:=iF Xd.n x.n c.xs;have:=HS.out.x;omega
  refine (ou a2 l2 p2 (wo Xd.n x.n c.xs) (bdX x v.n) 0 _ (fun _ => False) _ ho2 hl2 (fun i f hf => by rcases i with _ | _ | _ | _ | _ | i <;> simp [xdF,bdX] at hf <;> subst hf;exact ⟨_,rfl,rfl,HZ.out.1⟩;exact ⟨_,rfl,rfl⟩;exact ⟨_,rfl,rfl,HZ.out.2.1⟩;exact ⟨_,rfl,rfl⟩;exact ⟨_,rfl,rfl,HZ.out.2.2.1⟩) (fun _ _ q => q)).mono ?_;rintro e w6 ⟨a4,l4,p4,rfl,ho6,hb6⟩;exact hK _ _ hb6 ⟨a4,l4,p4,rfl,ho6.bs (fun k _ s => by
   rcases s with (s | s) | s
   ·exact s
   ·exact s.elim
   ·have q1 : wg.heap.size ≤ k:=s;exact .inr af)⟩
 refine' aw.aq _ rfl ?_ ?_;rotate_left 1
 ·exact aad
 refine aw.done ?_;intro q wz hW hf;simp only [List.forall_mem_cons] at hf;obtain ⟨h23,h22,h21,-,h19,h18,h17,h16,-⟩:=hf;obtain ⟨a4,l4,p4,hv22,ho22⟩:=h22;have HOX:=ae ho22;have HWZ:=ae hW;have BoZ:=upK BoW hW;obtain ⟨o0,o1,o2,o3,o4,o5⟩:=cs6 BoZ.out;have fo3:=au BoZ.out 3;have hol:=aa BoZ.out;clear ho22;intro K hK;rw [if_pos bH];simp only [aE,List.foldr,Act.put,List.setIfInBounds_toArray,List.set_cons_zero,List.set_cons_succ,h23,h21,h19,h18,h17,h16,hv22];simp only [List.getLast];go_simp;refine hK _ _ ?_;refine hK0 _ _ ?_;clear hK hK0 K K0;obtain ⟨W2,hW2⟩ : ∃ W2,W2 = wz.setCell ⟨w1.heap.size,3,none⟩ (.slice a4 l4 p4):=⟨_,rfl⟩;rw [← hW2];have hzs:=HWZ.out.size;have hW2s : W2.heap.size = wz.heap.size:=by rw [hW2];simp
 have hk2 : ∀ k,¬ k = w1.heap.size → W2.heap[k]? = wz.heap[k]?:=fun k h9 => by rw [hW2];exact Below.heap_setCell _ _ _ _ h9
 have Bo2 : Hid (W2.heap[w1.heap.size]? = some (.cells #[.slice d'.a1 d'.l1 d'.c1,.slice d'.a2 d'.l2 d'.c2,.slice d'.a3 d'.l3 d'.c3,.slice a4 l4 p4,.slice d'.a5 d'.l5 d'.c5,.int .i64 c.now] 37 (0,0))):=by
  have h9:=az (i:=3) BoZ.out (.slice a4 l4 p4);simp only [List.setIfInBounds_toArray,List.set_cons_zero,List.set_cons_succ] at h9;rw [hW2];exact h9
 have hvx:=aa BvW.out;have hrx:=aa BrW.out;have Bv2:=ae ((hk2 (w.heap.size + 1 + 1) af).trans ((HWZ.out.block _ hvx).trans BvW.out));have Br2:=ae ((hk2 (w.heap.size + 1 + 1 + 1) af).trans ((HWZ.out.block _ hrx).trans BrW.out));have HB2 : Hid (Below w.heap.size w W2):=by rw [hW2];exact ag (show w.heap.size ≤ w1.heap.size by omega) (HBW.out.trans (HWZ.out.mono HBW.out.size))
 have HPV : Hid (aB W2 d'.a3 d'.l3 d'.c3 8 118 (c.vs.map vdF) (fun k => (w.heap.size + 1 + 1 + 1 + 1 ≤ k ∧ P k = 3) ∧ k < w1.heap.size)):=(HP.out.v.bs (fun k hk s => ⟨s,hk⟩)).aH (fun k hk s => (hk2 k af).trans ((HWZ.out.block k af).trans (HB1.out.block k hk))) (fun _ _ s => s);have HK2:=ae hk2;have HW2:=ae hW2;clear hk2 hW2 o0 o1 o2 o3 o4 o5 fo3 hol;go_wp2_with fail;rename_i K0 hK0;refine Gt.aT av rfl rfl av ?_;refine' aw.aq _ rfl ?_ ?_;rotate_left 1
 ·exact aad
 refine' aw.aq _ rfl ?_ ?_;rotate_left 1
 ·refine Obl.plain rfl ?_;intro ac wg K hsz hW hf hK;clear hsz;have e24:=hf 24 al;simp [ai,List.lookup] at e24;clear hf;obtain ⟨o0,o1,o2,o3,o4,o5⟩:=cs6 ((hW.block _ (aa Bo2.out)).trans Bo2.out);exact aO
 refine' aw.aq _ rfl ?_ ?_;rotate_left 1
 ·exact abm
 refine' aw.aq _ rfl ?_ ?_;rotate_left 1
 ·refine Obl.plain rfl ?_;intro ac wg K hsz hW hf hK;clear hsz;have e26:=hf 26 al;simp [ai,List.lookup] at e26;exact acb
 refine aw.step (RoF 8 118 ((wo Vd.n v.n c.vs).map vdF) (fun k => ((w.heap.size + 1 + 1 + 1 + 1 ≤ k ∧ P k = 3) ∧ k < w1.heap.size) ∨ W2.heap.size ≤ k)) rfl (RoF.mono _ _ _ _) ?_ ?_
 ·refine Obl.plain rfl ?_;intro ac wg K hsz hW hf hK;clear hsz;have e25:=hf 25 al;simp [ai,List.lookup] at e25;have e27:=hf 27 al;simp [ai,List.lookup] at e27;clear hf;go_simp;have hs6:=hW.size;refine (sD d'.a3 d'.l3 d'.c3 c.vs v.n _ _ (HPV.out.below hW) hlv).mono ?_;rintro e w6 ⟨a2,l2,p2,rfl,ho6,hb6⟩;exact hK _ _ hb6 ⟨a2,l2,p2,rfl,ho6.bs (fun k _ s => s.imp id (fun q => by have q1 : wg.heap.size ≤ k:=q;show W2.heap.size ≤ k;omega))⟩
 refine' aw.aq _ rfl ?_ ?_;rotate_left 1
 ·refine Obl.plain rfl ?_;intro ac wg K hsz hW hf hK;clear hsz;have e5:=hf 5 al;simp [ai,List.lookup] at e5;exact acb
 refine aw.step (RoF 8 118 ((fR c (bdX x v.n) (bdV v x.n)).vs.map vdF) (fun k => ((w.heap.size + 1 + 1 + 1 + 1 ≤ k ∧ P k = 3) ∧ k < w1.heap.size) ∨ (B ≤ k ∧ k < w.heap.size) ∨ W2.heap.size ≤ k)) rfl (RoF.mono _ _ _ _) ?_ ?_
 ·refine Obl.plain rfl ?_;intro ac wg K hsz hW hf hK;clear hsz;have e28:=hf 28 al;simp [ai,List.lookup] at e28;have e29:=hf 29 al;simp [ai,List.lookup] at e29;clear hf;obtain ⟨a2,l2,p2,e28,ho2⟩:=e28;go_simp;have hs6:=hW.size;have hs7:=HB2.out.size;have hl2 : l2 ≤ 8:=by have h6:=ho2.1;rw [List.length_map] at h6;have h7:=iF Vd.n v.n c.vs;have:=HS.out.v;omega
  obtain ⟨g,hg⟩:=(HV.out.below (HB2.out.trans (hW.mono HB2.out.size))).fr;refine (ow a2 l2 p2 (wo Vd.n v.n c.vs) (bdV v x.n) va vl vc g _ (fun k => B ≤ k ∧ k < w.heap.size) _ ho2 hl2 (th (x:=bdV v x.n) HZ.out.2.2.1 HZ.out.2.2.2.1 HZ.out.2.2.2.2 HZ.out.1 hg) (fun k q1 q2 => by
   have q3 : B ≤ k ∧ k < w.heap.size:=q2
   rcases q1 with q1 | q1
   ·omega
   ·have q4 : W2.heap.size ≤ k:=q1;omega)).mono ?_
  rintro e w6 ⟨a4,l4,p4,rfl,ho6,hb6⟩;exact hK _ _ hb6 ⟨a4,l4,p4,rfl,ho6.bs (fun k _ s => by
   rcases s with (s | s) | s
   ·exact s.imp id .inr
   ·exact .inr (.inl s)
   ·have q1 : wg.heap.size ≤ k:=s;exact .inr (.inr (show W2.heap.size ≤ k by omega)))⟩
 refine' aw.aq _ rfl ?_ ?_;rotate_left 1
 ·exact aad
 refine aw.done ?_;intro q wy hW hf;simp only [List.forall_mem_cons] at hf;obtain ⟨h31,h30,h29,-,h27,h26,h25,h24,-⟩:=hf;obtain ⟨a3,l3,p3,hv30,ho30⟩:=h30;have HOV:=ae ho30;have HWY:=ae hW;have BoY:=upK Bo2 hW;have BrY:=upK Br2 hW;obtain ⟨o0,o1,o2,o3,o4,o5⟩:=cs6 BoY.out;have fo2:=au BoY.out 2;have hol:=aa BoY.out;obtain ⟨r0,r1,r2,r3,r4,r5⟩:=cs6 BrY.out;have fr0:=au BrY.out 0;have fr1:=au BrY.out 1;have fr2:=au BrY.out 2;have fr3:=au BrY.out 3;have fr4:=au BrY.out 4;have fr5:=au BrY.out 5;have hrl:=aa BrY.out;have hne : ¬ w.heap.size + 1 + 1 + 1 = w1.heap.size:=aaa
 have hne2 : ¬ w1.heap.size = w.heap.size + 1 + 1 + 1:=aaa
 clear ho30;intro K hK;rw [if_pos bH];simp only [aE,List.foldr,Act.put,List.setIfInBounds_toArray,List.set_cons_zero,List.set_cons_succ,h31,h29,h27,h26,h25,h24,hv30];simp only [List.getLast];go_simp;refine hK _ _ ?_;refine hK0 _ _ ?_;clear hK hK0 K K0;go_wp2;refine bodyPost_ret (v:=.agg #[.slice d'.a1 d'.l1 d'.c1,.slice d'.a2 d'.l2 d'.c2,.slice a3 l3 p3,.slice a4 l4 p4,.slice d'.a5 d'.l5 d'.c5,.int .i64 c.now]) (by simp [results,Tryz.results163,go_sem, *]) rfl ⟨⟨d'.a1,d'.l1,d'.c1,d'.a2,d'.l2,d'.c2,a3,l3,p3,a4,l4,p4,d'.a5,d'.l5,d'.c5⟩,rfl,?_,sb3 (sb3 (sb3 (sb3 (sb3 (sb3 (ag (show w.heap.size ≤ w1.heap.size by omega) (HB2.out.trans (HWY.out.mono HB2.out.size))))))))⟩;have hys:=HWY.out.size;have hWf : ∀ k,¬ k = w.heap.size + 1 + 1 + 1 → ¬ k = w1.heap.size → (((((((wy.setCell ⟨w1.heap.size,2,none⟩ (.slice a3 l3 p3)).setCell ⟨w.heap.size + 1 + 1 + 1,0,none⟩ (.slice d'.a1 d'.l1 d'.c1)).setCell ⟨w.heap.size + 1 + 1 + 1,1,none⟩ (.slice d'.a2 d'.l2 d'.c2)).setCell ⟨w.heap.size + 1 + 1 + 1,2,none⟩ (.slice a3 l3 p3)).setCell ⟨w.heap.size + 1 + 1 + 1,3,none⟩ (.slice a4 l4 p4)).setCell ⟨w.heap.size + 1 + 1 + 1,4,none⟩ (.slice d'.a5 d'.l5 d'.c5)).setCell ⟨w.heap.size + 1 + 1 + 1,5,none⟩ (.int .i64 c.now)).heap[k]? = wy.heap[k]?:=fun k h8 h9 => by rw [Below.heap_setCell _ _ _ _ (show k ≠ w.heap.size + 1 + 1 + 1 by omega),Below.heap_setCell _ _ _ _ (show k ≠ w.heap.size + 1 + 1 + 1 by omega),Below.heap_setCell _ _ _ _ (show k ≠ w.heap.size + 1 + 1 + 1 by omega),Below.heap_setCell _ _ _ _ (show k ≠ w.heap.size + 1 + 1 + 1 by omega),Below.heap_setCell _ _ _ _ (show k ≠ w.heap.size + 1 + 1 + 1 by omega),Below.heap_setCell _ _ _ _ (show k ≠ w.heap.size + 1 + 1 + 1 by omega),Below.heap_setCell _ _ _ _ (show k ≠ w1.heap.size by omega)]
 have hE1 : ∀ k,k < w1.heap.size → w.heap.size + 1 + 1 + 1 + 1 ≤ k → (((((((wy.setCell ⟨w1.heap.size,2,none⟩ (.slice a3 l3 p3)).setCell ⟨w.heap.size + 1 + 1 + 1,0,none⟩ (.slice d'.a1 d'.l1 d'.c1)).setCell ⟨w.heap.size + 1 + 1 + 1,1,none⟩ (.slice d'.a2 d'.l2 d'.c2)).setCell ⟨w.heap.size + 1 + 1 + 1,2,none⟩ (.slice a3 l3 p3)).setCell ⟨w.heap.size + 1 + 1 + 1,3,none⟩ (.slice a4 l4 p4)).setCell ⟨w.heap.size + 1 + 1 + 1,4,none⟩ (.slice d'.a5 d'.l5 d'.c5)).setCell ⟨w.heap.size + 1 + 1 + 1,5,none⟩ (.int .i64 c.now)).heap[k]? = w1.heap[k]?:=fun k h8 h9 => (hWf k af af).trans ((HWY.out.block k af).trans ((HK2.out k af).trans ((HWZ.out.block k af).trans (HB1.out.block k h8))));have hPk : ∀ k,k < w1.heap.size → w.heap.size + 1 + 1 + 1 + 1 ≤ k → (if k < w.heap.size then 3 else if k < w1.heap.size then P k else if k < W2.heap.size then 4 else 3) = P k:=fun k h8 h9 => by rw [if_neg af,if_pos h8]
 refine ⟨fun k => if k < w.heap.size then 3 else if k < w1.heap.size then P k else if k < W2.heap.size then 4 else 3,?_,?_,?_,?_,?_⟩
 ·exact HP.out.n.aH (fun k hk s => hE1 k hk s.1) (fun k hk s => ⟨by have s1 : w.heap.size + 1 + 1 + 1 + 1 ≤ k:=s.1;show B ≤ k;omega,(hPk k hk s.1).trans s.2⟩)
 ·exact HP.out.k.aH (fun k hk s => hE1 k hk s.1) (fun k hk s => ⟨by have s1 : w.heap.size + 1 + 1 + 1 + 1 ≤ k:=s.1;show B ≤ k;omega,(hPk k hk s.1).trans s.2⟩)
 ·refine HOV.out.aH (fun k hk s => ?_) (fun k hk s => ?_)
  ·rcases s with s | s | s
   ·exact hWf k af af
   ·exact hWf k af af
   ·have s1 : W2.heap.size ≤ k:=s;exact hWf k af af
  ·rcases s with s | s | s
   ·exact ⟨by show B ≤ k;omega,(hPk k s.2 s.1.1).trans s.1.2⟩
   ·exact ⟨s.1,by show (if k < w.heap.size then 3 else if k < w1.heap.size then P k else if k < W2.heap.size then 4 else 3) = 3;rw [if_pos s.2]⟩
   ·have s1 : W2.heap.size ≤ k:=s;exact ⟨by show B ≤ k;omega,by show (if k < w.heap.size then 3 else if k < w1.heap.size then P k else if k < W2.heap.size then 4 else 3) = 3;rw [if_neg af,if_neg af,if_neg af]⟩
 ·refine HOX.out.aH (fun k hk s => ?_) (fun k hk s => ?_)
  ·have h9 : ¬ k = w1.heap.size ∧ ¬ k = w.heap.size + 1 + 1 + 1:=by rcases s with s | s <;> omega
   exact (hWf k h9.2 h9.1).trans ((HWY.out.block k af).trans (HK2.out k h9.1))
  ·rcases s with s | s
   ·exact ⟨by show B ≤ k;omega,(hPk k s.2 s.1.1).trans s.1.2⟩
   ·exact ⟨by show B ≤ k;omega,by show (if k < w.heap.size then 3 else if k < w1.heap.size then P k else if k < W2.heap.size then 4 else 3) = 4;rw [if_neg af,if_neg af,if_pos af]⟩
 ·exact HP.out.p.aH (fun k hk s => hE1 k hk s.1) (fun k hk s => ⟨by have s1 : w.heap.size + 1 + 1 + 1 + 1 ≤ k:=s.1;show B ≤ k;omega,(hPk k hk s.1).trans s.2⟩)

end Rc
end Go.Proofs.YtdoldaceehdifaaGreatDoor

namespace Go.Proofs.YtdoldaceehdifaaGreatDoor
open Go

def eu (J0 J1 J2 : Act → World → Prop) (Q : Exit → Act → World → Prop) : Exit → Act → World → Prop
 | .goto l,a,w => (l = 0 ∧ J0 a w) ∨ (l = 1 ∧ J1 a w) ∨ (l = 2 ∧ J2 a w)
 | e,a,w => Q e a w
theorem gM {J0 J1 J2 : Act → World → Prop} {Q : Exit → Act → World → Prop} {a : Act} {w : World} (h : Q .ret a w) : eu J0 J1 J2 Q .ret a w:=h
theorem zw {J0 J1 J2 : Act → World → Prop} {Q : Exit → Act → World → Prop} {a : Act} {w : World} (h : J0 a w) : eu J0 J1 J2 Q (.goto 0) a w:=.inl ⟨rfl,h⟩
theorem rJ {J0 J1 J2 : Act → World → Prop} {Q : Exit → Act → World → Prop} {a : Act} {w : World} (h : J1 a w) : eu J0 J1 J2 Q (.goto 1) a w:=.inr (.inl ⟨rfl,h⟩)
theorem zv {J0 J1 J2 : Act → World → Prop} {Q : Exit → Act → World → Prop} {a : Act} {w : World} (h : J2 a w) : eu J0 J1 J2 Q (.goto 2) a w:=.inr (.inr ⟨rfl,h⟩)
theorem eP {K : Act → World → Prop} {Q : Exit → Act → World → Prop} {l : Nat} {a : Act} {w : World} (h : Q (.goto l) a w) : Exit.then K Q (.goto l) a w:=h

def never : Act → World → Prop:=fun _ _ => False

def at1 (P : Program) (Q : Exit → Act → World → Prop) (r1 : Code) : Act → World → Prop:=fun a w => r1.wp P (eu never never never Q) a w
def at0 (P : Program) (Q : Exit → Act → World → Prop) (r0 r1 : Code) : Act → World → Prop:=fun a w => r0.wp P (eu never (at1 P Q r1) never Q) a w
def at2 (P : Program) (Q : Exit → Act → World → Prop) (r0 r1 r2 : Code) : Act → World → Prop:=fun a w => r2.wp P (eu (at0 P Q r0 r1) never never Q) a w
theorem iE {P : Program} {a : Act} {w : World} {Q : Exit → Act → World → Prop} {c r0 r1 r2 : Code} (h0 : findLabel c 0 = some r0) (h1 : findLabel c 1 = some r1) (h2 : findLabel c 2 = some r2)
  (first : c.wp P (eu never (at1 P Q r1) (at2 P Q r0 r1 r2) Q) a w) : (Code.scope c).wp P Q a w:=by
 intro b k cs;have g0 : gotoIn 0 (.inScope c :: k) = some (.code r0 :: .inScope c :: k):=by simp [gotoIn,h0]
 have g1 : gotoIn 1 (.inScope c :: k) = some (.code r1 :: .inScope c :: k):=by simp [gotoIn,h1]
 have g2 : gotoIn 2 (.inScope c :: k) = some (.code r2 :: .inScope c :: k):=by simp [gotoIn,h2]
 have key1 : ∀ a w,at1 P Q r1 a w → ∃ e a' w',Q e a' w' ∧ Arrives P (lone (b.at a (.code r1 :: .inScope c :: k)) cs w) b k cs e a' w':=by
  intro a w hJ;obtain ⟨e,a₁,w₁,hq,harr⟩:=hJ b (.inScope c :: k) cs;cases e with
  | normal => exact ⟨.normal,a₁,w₁,hq,Steps.trans harr (.one step_inScope)⟩
  | exit id => exact ⟨.exit id,a₁,w₁,hq,fun k' hk => harr k' (by simp [exitTo,hk])⟩
  | goto l' =>
   rcases hq with ⟨e0,h⟩ | ⟨e1,h⟩ | ⟨e2,h⟩
   ·exact h.elim
   ·exact h.elim
   ·exact h.elim
  | ret => exact ⟨_,a₁,w₁,hq,harr⟩
  | panic ch => exact ⟨_,a₁,w₁,hq,harr⟩
  | outgrown => exact ⟨_,a₁,w₁,hq,harr⟩
 have key0 : ∀ a w,at0 P Q r0 r1 a w → ∃ e a' w',Q e a' w' ∧ Arrives P (lone (b.at a (.code r0 :: .inScope c :: k)) cs w) b k cs e a' w':=by
  intro a w hJ;obtain ⟨e,a₁,w₁,hq,harr⟩:=hJ b (.inScope c :: k) cs;cases e with
  | normal => exact ⟨.normal,a₁,w₁,hq,Steps.trans harr (.one step_inScope)⟩
  | exit id => exact ⟨.exit id,a₁,w₁,hq,fun k' hk => harr k' (by simp [exitTo,hk])⟩
  | goto l' =>
   rcases hq with ⟨e0,h⟩ | ⟨e1,h⟩ | ⟨e2,h⟩
   ·exact h.elim
   ·subst e1;obtain ⟨e₂,a₂,w₂,hq₂,harr₂⟩:=key1 a₁ w₁ h;exact ⟨e₂,a₂,w₂,hq₂,.of_steps (harr _ g1) harr₂⟩
   ·exact h.elim
  | ret => exact ⟨_,a₁,w₁,hq,harr⟩
  | panic ch => exact ⟨_,a₁,w₁,hq,harr⟩
  | outgrown => exact ⟨_,a₁,w₁,hq,harr⟩
 have key2 : ∀ a w,at2 P Q r0 r1 r2 a w → ∃ e a' w',Q e a' w' ∧ Arrives P (lone (b.at a (.code r2 :: .inScope c :: k)) cs w) b k cs e a' w':=by
  intro a w hJ;obtain ⟨e,a₁,w₁,hq,harr⟩:=hJ b (.inScope c :: k) cs;cases e with
  | normal => exact ⟨.normal,a₁,w₁,hq,Steps.trans harr (.one step_inScope)⟩
  | exit id => exact ⟨.exit id,a₁,w₁,hq,fun k' hk => harr k' (by simp [exitTo,hk])⟩
  | goto l' =>
   rcases hq with ⟨e0,h⟩ | ⟨e1,h⟩ | ⟨e2,h⟩
   ·subst e0;obtain ⟨e₂,a₂,w₂,hq₂,harr₂⟩:=key0 a₁ w₁ h;exact ⟨e₂,a₂,w₂,hq₂,.of_steps (harr _ g0) harr₂⟩
   ·exact h.elim
   ·exact h.elim
  | ret => exact ⟨_,a₁,w₁,hq,harr⟩
  | panic ch => exact ⟨_,a₁,w₁,hq,harr⟩
  | outgrown => exact ⟨_,a₁,w₁,hq,harr⟩
 obtain ⟨e,a₁,w₁,hq,harr⟩:=first b (.inScope c :: k) cs
 cases e with
 | normal => exact ⟨.normal,a₁,w₁,hq,.head step_scope (Steps.trans harr (.one step_inScope))⟩
 | exit id => exact ⟨.exit id,a₁,w₁,hq,fun k' hk => .head step_scope (harr k' (by simp [exitTo,hk]))⟩
 | goto l' =>
  rcases hq with ⟨_,h⟩ | ⟨rfl,h⟩ | ⟨rfl,h⟩
  ·exact h.elim
  ·obtain ⟨e₂,a₂,w₂,hq₂,harr₂⟩:=key1 a₁ w₁ h;exact ⟨e₂,a₂,w₂,hq₂,.of_steps (.head step_scope (harr _ g1)) harr₂⟩
  ·obtain ⟨e₂,a₂,w₂,hq₂,harr₂⟩:=key2 a₁ w₁ h;exact ⟨e₂,a₂,w₂,hq₂,.of_steps (.head step_scope (harr _ g2)) harr₂⟩
 | ret => exact ⟨_,a₁,w₁,hq,.of_steps (.one step_scope) harr⟩
 | panic ch => exact ⟨_,a₁,w₁,hq,.of_steps (.one step_scope) harr⟩
 | outgrown => exact ⟨_,a₁,w₁,hq,.of_steps (.one step_scope) harr⟩

theorem kV {P : Program} {a : Act} {w : World} {Q : Exit → Act → World → Prop} {c r0 r1 r2 : Code} (h0 : findLabel c 0 = some r0) (h1 : findLabel c 1 = some r1) (h2 : findLabel c 2 = some r2)
  (first : ∀ J1 J2 : Act → World → Prop,(∀ a w,r1.wp P (eu never never never Q) a w → J1 a w) → (∀ a w,(∀ J0 : Act → World → Prop,(∀ a w,r0.wp P (eu never J1 never Q) a w → J0 a w) → r2.wp P (eu J0 never never Q) a w) → J2 a w) → c.wp P (eu never J1 J2 Q) a w) : (Code.scope c).wp P Q a w :=
 iE h0 h1 h2 (first _ _ (fun _ _ h => h) (fun _ _ h => h (at0 P Q r0 r1) (fun _ _ h => h)))

end Go.Proofs.YtdoldaceehdifaaGreatDoor

namespace Go.Proofs.YtdoldaceehdifaaGreatDoor
open Go.RowKit
namespace Rc
open Mk

theorem yZ {w : World} {g : Nat} {T : TypeId} {c0 c1 c2 c3 c4 c5 c6 c7 : Value} (h : w.heap[g]? = some (.cells #[c0,c1,c2,c3,c4,c5,c6,c7] T (0,0))) (v0 v1 v2 v3 v4 v5 v6 v7 : Value) :
  ((((((((w.setCell ⟨g,0,none⟩ v0).setCell ⟨g,1,none⟩ v1).setCell ⟨g,2,none⟩ v2).setCell ⟨g,3,none⟩ v3).setCell ⟨g,4,none⟩ v4).setCell ⟨g,5,none⟩ v5).setCell ⟨g,6,none⟩ v6).setCell ⟨g,7,none⟩ v7).heap[g]? = some (.cells #[v0,v1,v2,v3,v4,v5,v6,v7] T (0,0)):=by
 rw [az (i:=7) (az (i:=6) (az (i:=5) (az (i:=4) (az (i:=3) (az (i:=2) (az (i:=1) (az (i:=0) h v0) v1) v2) v3) v4) v5) v6) v7];simp only [List.setIfInBounds_toArray,List.set_cons_zero,List.set_cons_succ]

theorem yG (w : World) (o p q r s : Obj) : Below w.heap.size w (((((w.alloc o).alloc p).alloc q).alloc r).alloc s):=(fA w o p q r).alloc (by simp;omega) s
theorem BK {w w' : World} {o p q r s : Obj} (h : Below (((((w.alloc o).alloc p).alloc q).alloc r).alloc s).heap.size (((((w.alloc o).alloc p).alloc q).alloc r).alloc s) w') : w'.heap[w.heap.size]? = some o ∧ w'.heap[w.heap.size + 1]? = some p ∧ w'.heap[w.heap.size + 1 + 1]? = some q ∧ w'.heap[w.heap.size + 1 + 1 + 1]? = some r ∧ w'.heap[w.heap.size + 1 + 1 + 1 + 1]? = some s ∧ Below w.heap.size w w':=by
 obtain ⟨h1,h2⟩:=aG h;obtain ⟨h3,h4,h5,h6,h7⟩:=tH h2;exact ⟨h3,h4,h5,h6,by simpa using h1,h7⟩
def PrF (B : Nat) (c : Cl) : Fact:=fun v w => ∃ d,v = .agg #[.slice d.a1 d.l1 d.c1,.slice d.a2 d.l2 d.c2,.slice d.a3 d.l3 d.c3,.slice d.a4 d.l4 d.c4,.slice d.a5 d.l5 d.c5,.int .i64 c.now] ∧ cf w d c.raw (fun k => B ≤ k)
theorem PrF.mono (B : Nat) (c : Cl) : Fact.bw (PrF B c):=by
 exact aaL
def PrO (B : Nat) (c : Cl) (n : ByteArray) : Fact:=fun v w => ∃ d,v = .agg #[.slice d.a1 d.l1 d.c1,.slice d.a2 d.l2 d.c2,.slice d.a3 d.l3 d.c3,.slice d.a4 d.l4 d.c4,.slice d.a5 d.l5 d.c5,.int .i64 c.now,.string n,.int .i64 0] ∧ cf w d c.raw (fun k => B ≤ k)
theorem PrO.mono (B : Nat) (c : Cl) (n : ByteArray) : Fact.bw (PrO B c n):=by
 exact aaL
theorem yW (sv : Vd → Bool) (acc : Option Vd) (v : Vd) : stepB sv acc v = some v ∨ stepB sv acc v = acc:=by
 unfold stepB;exact (Decidable.em _).elim (fun h => .inl (if_pos h)) (fun h => .inr (if_neg h))
theorem rR (sv : Vd → Bool) {u : Vd} : ∀ (vs : List Vd) (acc : Option Vd),vs.foldl (stepB sv) acc = some u → acc = some u ∨ u ∈ vs
 | [],acc,h => .inl h
 | v :: vs,acc,h => by
  have h2:=yW sv acc v;rcases rR sv vs (stepB sv acc v) h with h1 | h1
  ·rcases h2 with h2 | h2
   ·rw [h2] at h1;exact .inr (by rw [Option.some.inj h1];exact List.mem_cons_self ..)
   ·rw [h2] at h1;exact .inl h1
  ·exact .inr (List.mem_cons_of_mem _ h1)
theorem oh {sv : Vd → Bool} {vs : List Vd} {u : Vd} (h : cJ sv vs = some u) : ∃ j : Nat,vs[j]? = some u:=by
 rcases rR sv vs none h with h1 | h1
 ·cases h1
 ·exact List.getElem?_of_mem h1

theorem oa (d : Ad) (c : Cl) (x : Xd) (t : ByteArray) (i j : Nat) (k : Kd) (E : Nat → Addr) (w : World) (hr : aM w d c.raw) (hG : Ers w E) (hT : aC c) (hx : c.xs[i]? = some x) (hxv : x.v = ⟨#[]⟩) (hk : c.ks[j]? = some k) (hkn : k.n = x.k) (ht : t = ⟨#[]⟩ ∨ aL t) :
  Calls Tryz.prog 129 #[.agg #[.slice d.a1 d.l1 d.c1,.slice d.a2 d.l2 d.c2,.slice d.a3 d.l3 d.c3,.slice d.a4 d.l4 d.c4,.slice d.a5 d.l5 d.c5,.int .i64 c.now],.agg #[.string x.n,.int .i64 x.z,.string x.k,.bool x.x,.string x.v],.string t] w (DX (dL c i x k t) w):=by
 have HR:=ae hr;have HE:=ae hG;have HT:=ae hT;have HX:=ae (And.intro hx hxv);have HK:=ae (And.intro hk hkn);have HTZ:=ae ht;have HXO:=ae (hT.2.1.2.2.2.1.2.1 i x hx);have HB:=ae (Below.refl w.heap.size w);clear hr hG hT hx hxv hk hkn ht;go_enter Tryz.func129,Tryz.ntmps129;go_wp2_with fail;refine kV rfl rfl rfl (fun J1 J2 hJ1 hJ2 => ?_);have HJ1:=ae hJ1;have HJ2:=ae hJ2;clear hJ1 hJ2;go_wp2;go_step3;go_wp2_with fail;have h8 : c.vs.length ≤ 8:=HT.out.sm.v;have hbr : ir c.vs x.n x.z x.k x.v t:=⟨HXO.out,HTZ.out,h8,fun q u hu => HT.out.2.1.2.2.1.2.1 q u hu⟩;have ht20 : t.size ≤ 20:=by
  rcases HTZ.out with h1 | h1
  ·rw [h1];decide
  ·exact h1.2.1
 have hz0 : x.n.size ≤ 20:=HXO.out.1.2.1;have hz2 : x.k.size ≤ 20:=HXO.out.2.2.1.2.1;have hz4 : x.v.size ≤ 9223372036854775807:=by rw [HX.out.2];decide
 refine (qH d c x t E _ (HR.out.below (yG _ _ _ _ _ _)) (HE.out.below (yG _ _ _ _ _ _)) hbr h8 ht20 af af hz4).mono ?_;rintro e w1 ⟨hb,hf⟩;have HQ:=ae hb.size;simp only [df] at HQ hf;obtain ⟨HA0,HA1,HA2,HA3,HA4,hbx⟩:=BK hb;have Bk:=ae HA0;have Bx:=ae HA1;have Br:=ae HA2;have Bv:=ae HA3;have Bs:=ae HA4;replace HB:=upB HB hbx;clear hb hbx HA0 HA1 HA2 HA3 HA4;clear hbr hz4;rcases hf with ⟨hbn,rfl⟩ | ⟨u,va,vl,vc,hbs,rfl,hto⟩;rotate_left
 ·obtain ⟨j9,hu9⟩:=oh hbs;have HU:=ae hu9;have huo:=HT.out.2.1.2.2.1.2.1 j9 u hu9;have hu0 : u.n.size ≤ 20:=huo.1.2.1;have hu2 : u.z.size ≤ 20:=huo.2.2.1.2.1;have hu3 : u.k.size ≤ 20:=huo.2.2.2.1.2.1;have HBS:=ae hbs;have HTO:=ae hto;clear hbs hto hu9 huo;obtain ⟨v0,v1,v2,v3,v4,v5,v6,v7⟩:=cs8 Bv.out;obtain ⟨fv0,fv1,fv2,fv3,fv4,fv5,fv6,fv7,hvl⟩:=aan;go_wp2;go_step3;refine eP (rJ (HJ1.out _ _ ?_));clear v0 fv0 v1 fv1 v2 fv2 v3 fv3 v4 fv4 v5 fv5 v6 fv6 v7 fv7 hvl;obtain ⟨W5,hW5⟩ : ∃ W,W = ((((((((w1.setCell ⟨w.heap.size + 1 + 1 + 1,0,none⟩ (.string u.n)).setCell ⟨w.heap.size + 1 + 1 + 1,1,none⟩ (.int .i64 u.c)).setCell ⟨w.heap.size + 1 + 1 + 1,2,none⟩ (.string u.z)).setCell ⟨w.heap.size + 1 + 1 + 1,3,none⟩ (.string u.k)).setCell ⟨w.heap.size + 1 + 1 + 1,4,none⟩ (.bool u.x)).setCell ⟨w.heap.size + 1 + 1 + 1,5,none⟩ (.string u.m)).setCell ⟨w.heap.size + 1 + 1 + 1,6,none⟩ (.bool u.y)).setCell ⟨w.heap.size + 1 + 1 + 1,7,none⟩ (.slice va vl vc)):=⟨_,rfl⟩;obtain ⟨hszW5,hlk,hkeep,Dk,Dx,Dr,Ds⟩:=acQ;have Dv : Hid (W5.heap[w.heap.size + 1 + 1 + 1]? = some (.cells #[.string u.n,.int .i64 u.c,.string u.z,.string u.k,.bool u.x,.string u.m,.bool u.y,.slice va vl vc] 118 (0,0))):=by rw [hW5];exact yZ Bv.out _ _ _ _ _ _ _ _
  have HBW5 : Hid (Below w.heap.size w W5):=by rw [hW5];exact sb3 (sb3 (sb3 (sb3 (sb3 (sb3 (sb3 (sb3 (HB.out))))))))
  have HKP:=ae hkeep;clear hkeep;have hq1 : w.heap.size + 1 + 1 + 1 + 1 + 1 ≤ w1.heap.size:=HQ.out;have HT5 : Hid (bV W5 va vl vc u.zs (fun k => w.heap.size + 1 + 1 + 1 + 1 + 1 ≤ k)):=HTO.out.aH (fun k hk s => HKP.out k (by have s1 : w.heap.size + 1 + 1 + 1 + 1 + 1 ≤ k:=s;omega)) (fun _ _ s => s);have HCX : Hid (fR c (bdX x u.n) (bdV u x.n) = cZ c i j9 x u):=nM HT.out HX.out.1 HU.out;go_wp2_with fail;rw [← hW5];rename_i K0 hK0;refine aT av rfl rfl av ?_;refine' aw.aq _ rfl ?_ ?_;rotate_left 1
  ·exact ab4
  refine' aw.aq _ rfl ?_ ?_;rotate_left 1
  ·exact abU
  refine' aw.aq _ rfl ?_ ?_;rotate_left 1
  ·exact ach
  refine aw.step (PrF (w.heap.size + 1 + 1 + 1 + 1 + 1) (cZ c i j9 x u)) rfl (PrF.mono _ _) ?_ ?_
  ·refine Obl.plain rfl ?_;intro ac wg K hsz hW hf hK;clear hsz;have e31:=hf 31 al;simp [ai,List.lookup] at e31;have e32:=hf 32 al;simp [ai,List.lookup] at e32;have e33:=hf 33 al;simp [ai,List.lookup] at e33;clear hf;go_simp;have hs6:=hW.size;refine (ig d c x u va vl vc (w.heap.size + 1 + 1 + 1 + 1 + 1) _ (HR.out.below (HBW5.out.trans (hW.mono HBW5.out.size))) HT.out.sm ((HT5.out.below hW).aH (fun _ _ _ => rfl) (fun k hk s => ⟨s,hk⟩)) af af af af af af).mono ?_;rintro e w6 ⟨d',rfl,ho6,hb6⟩;rw [HCX.out] at ho6;exact hK _ _ hb6 ⟨d',rfl,ho6⟩
  refine' aw.aq _ rfl ?_ ?_;rotate_left 1
  ·exact aad
  refine' aw.aq _ rfl ?_ ?_;rotate_left 1
  ·exact abM
  refine aw.step (PrO (w.heap.size + 1 + 1 + 1 + 1 + 1) (cZ c i j9 x u) (u.n)) rfl (PrO.mono _ _ _) ?_ ?_
  ·exact abT
  refine aw.done ?_;intro q wz hW hf;simp only [List.forall_mem_cons] at hf;obtain ⟨h37,h36,h35,-,h33,h32,h31,-⟩:=hf;obtain ⟨d',hv37,ho37⟩:=h37;have HO:=ae ho37;have HWZ:=ae hW;have Br6:=upK Dr hW;obtain ⟨r0,r1,r2,r3,r4,r5,r6,r7⟩:=cs8 Br6.out;obtain ⟨fr0,fr1,fr2,fr3,fr4,fr5,fr6,fr7,hrl⟩:=aaD;clear ho37;intro K hK;rw [if_pos bH];simp only [aE,List.foldr,Act.put,List.setIfInBounds_toArray,List.set_cons_zero,List.set_cons_succ,h36,h35,h33,h32,h31,hv37];simp only [List.getLast];go_simp;refine hK _ _ ?_;refine hK0 _ _ ?_;clear hK hK0 K K0;have HV : Hid (dL c i x k t ⟨cZ c i j9 x u,u.n,0⟩):=.inl ⟨j9,u,HBS.out,HU.out,rfl⟩;go_wp2;refine gM ?_;refine bodyPost_ret (v:=.agg #[.slice d'.a1 d'.l1 d'.c1,.slice d'.a2 d'.l2 d'.c2,.slice d'.a3 d'.l3 d'.c3,.slice d'.a4 d'.l4 d'.c4,.slice d'.a5 d'.l5 d'.c5,.int .i64 c.now,.string (u.n),.int .i64 0]) (by simp [results,Tryz.results129,go_sem, *];try rfl) rfl ⟨d',⟨cZ c i j9 x u,u.n,0⟩,rfl,HV.out,?_,sb2 (sb2 (sb2 (sb2 (sb2 (sb2 (sb2 (sb2 (HBW5.out.trans (HWZ.out.mono HBW5.out.size)))))))))⟩;obtain ⟨P,hP⟩:=HO.out;exact ⟨P,hP.aH (w':=((((((((wz.setCell ⟨w.heap.size + 1 + 1,0,none⟩ (.slice d'.a1 d'.l1 d'.c1)).setCell ⟨w.heap.size + 1 + 1,1,none⟩ (.slice d'.a2 d'.l2 d'.c2)).setCell ⟨w.heap.size + 1 + 1,2,none⟩ (.slice d'.a3 d'.l3 d'.c3)).setCell ⟨w.heap.size + 1 + 1,3,none⟩ (.slice d'.a4 d'.l4 d'.c4)).setCell ⟨w.heap.size + 1 + 1,4,none⟩ (.slice d'.a5 d'.l5 d'.c5)).setCell ⟨w.heap.size + 1 + 1,5,none⟩ (.int .i64 c.now)).setCell ⟨w.heap.size + 1 + 1,6,none⟩ (.string (u.n))).setCell ⟨w.heap.size + 1 + 1,7,none⟩ (.int .i64 0))) (fun q hq s => by have s1 : w.heap.size + 1 + 1 + 1 + 1 + 1 ≤ q:=s;rw [Below.heap_setCell _ _ _ _ (show q ≠ w.heap.size + 1 + 1 by omega),Below.heap_setCell _ _ _ _ (show q ≠ w.heap.size + 1 + 1 by omega),Below.heap_setCell _ _ _ _ (show q ≠ w.heap.size + 1 + 1 by omega),Below.heap_setCell _ _ _ _ (show q ≠ w.heap.size + 1 + 1 by omega),Below.heap_setCell _ _ _ _ (show q ≠ w.heap.size + 1 + 1 by omega),Below.heap_setCell _ _ _ _ (show q ≠ w.heap.size + 1 + 1 by omega),Below.heap_setCell _ _ _ _ (show q ≠ w.heap.size + 1 + 1 by omega),Below.heap_setCell _ _ _ _ (show q ≠ w.heap.size + 1 + 1 by omega)]) (fun q _ s => by have s1 : w.heap.size + 1 + 1 + 1 + 1 + 1 ≤ q:=s;show w.heap.size ≤ q;omega)⟩
 have HBN:=ae hbn;clear hbn;obtain ⟨v0,v1,v2,v3,v4,v5,v6,v7⟩:=cs8 Bv.out;obtain ⟨fv0,fv1,fv2,fv3,fv4,fv5,fv6,fv7,hvl⟩:=aan;go_wp2;go_step3;refine eP (zv (HJ2.out _ _ (fun J0 hJ0 => ?_)));have HJ0:=ae hJ0;clear hJ0;clear v0 fv0 v1 fv1 v2 fv2 v3 fv3 v4 fv4 v5 fv5 v6 fv6 v7 fv7 hvl;obtain ⟨W5,hW5⟩ : ∃ W,W = ((((((((w1.setCell ⟨w.heap.size + 1 + 1 + 1,0,none⟩ (.string ⟨#[]⟩)).setCell ⟨w.heap.size + 1 + 1 + 1,1,none⟩ (.int .i64 0)).setCell ⟨w.heap.size + 1 + 1 + 1,2,none⟩ (.string ⟨#[]⟩)).setCell ⟨w.heap.size + 1 + 1 + 1,3,none⟩ (.string ⟨#[]⟩)).setCell ⟨w.heap.size + 1 + 1 + 1,4,none⟩ (.bool false)).setCell ⟨w.heap.size + 1 + 1 + 1,5,none⟩ (.string ⟨#[]⟩)).setCell ⟨w.heap.size + 1 + 1 + 1,6,none⟩ (.bool false)).setCell ⟨w.heap.size + 1 + 1 + 1,7,none⟩ (.slice none 0 0)):=⟨_,rfl⟩;obtain ⟨hszW5,hlk,hkeep,Dk,Dx,Dr,Ds⟩:=acQ;have Dv : Hid (W5.heap[w.heap.size + 1 + 1 + 1]? = some (.cells #[.string ⟨#[]⟩,.int .i64 0,.string ⟨#[]⟩,.string ⟨#[]⟩,.bool false,.string ⟨#[]⟩,.bool false,.slice none 0 0] 118 (0,0))):=by rw [hW5];exact yZ Bv.out _ _ _ _ _ _ _ _
 have HBW5 : Hid (Below w.heap.size w W5):=by rw [hW5];exact sb3 (sb3 (sb3 (sb3 (sb3 (sb3 (sb3 (sb3 (HB.out))))))))
 have HKP:=ae hkeep;clear hkeep;rw [← hW5];clear hW5;obtain ⟨s0,s1,s2,s3,s4,s5,s6,s7,s8,s9,s10,s11⟩:=kM Ds.out;have lts:=aa Ds.out;go_wp2;go_step3;refine eP (zw (HJ0.out _ _ ?_));go_wp2_with fail;clear s0 s1 s2 s3 s4 s5 s6 s7 s8 s9 s10 s11 lts;refine (sK d c x t j k (aR t k.z) E _ (HR.out.below HBW5.out) (HE.out.below HBW5.out) HT.out HXO.out HK.out.1 HK.out.2 HTZ.out rfl).mono ?_;rintro e w2 ⟨hb,hf⟩;have hq2 : w.heap.size + 1 + 1 + 1 + 1 + 1 ≤ w2.heap.size:=by have h1:=hb.size;have h2 : w.heap.size + 1 + 1 + 1 + 1 + 1 ≤ w1.heap.size:=HQ.out;omega
 replace Bk:=ae ((hb.block _ (aa Dk.out)).trans Dk.out);replace Bx:=ae ((hb.block _ (aa Dx.out)).trans Dx.out);replace Br:=ae ((hb.block _ (aa Dr.out)).trans Dr.out);replace Bv:=ae ((hb.block _ (aa Dv.out)).trans Dv.out);replace Bs:=ae ((hb.block _ (aa Ds.out)).trans Ds.out);replace HB:=upB HBW5 hb;clear hb Dk Dx Dr Dv Ds HKP HBW5 hlk hszW5;rcases hf with ⟨hm,rfl⟩ | ⟨hm,hf⟩
 ·have HV : Hid (dL c i x k t (co0 (cM 2))):=.inr ⟨HBN.out,.inl ⟨hm,rfl⟩⟩;obtain ⟨cc,hcc⟩ : ∃ cc,cc = cM 2:=⟨_,rfl⟩;rw [← hcc] at HV;obtain ⟨v0,v1,v2,v3,v4,v5,v6,v7⟩:=cs8 Bv.out;obtain ⟨fv0,fv1,fv2,fv3,fv4,fv5,fv6,fv7,hvl⟩:=aan;go_wp2_with fail;clear v0 fv0 v1 fv1 v2 fv2 v3 fv3 v4 fv4 v5 fv5 v6 fv6 v7 fv7 hvl;obtain ⟨W6,hW6⟩ : ∃ W,W = ((((((((w2.setCell ⟨w.heap.size + 1 + 1 + 1,0,none⟩ (.string ⟨#[]⟩)).setCell ⟨w.heap.size + 1 + 1 + 1,1,none⟩ (.int .i64 0)).setCell ⟨w.heap.size + 1 + 1 + 1,2,none⟩ (.string ⟨#[]⟩)).setCell ⟨w.heap.size + 1 + 1 + 1,3,none⟩ (.string ⟨#[]⟩)).setCell ⟨w.heap.size + 1 + 1 + 1,4,none⟩ (.bool false)).setCell ⟨w.heap.size + 1 + 1 + 1,5,none⟩ (.string ⟨#[]⟩)).setCell ⟨w.heap.size + 1 + 1 + 1,6,none⟩ (.bool false)).setCell ⟨w.heap.size + 1 + 1 + 1,7,none⟩ (.slice none 0 0)):=⟨_,rfl⟩;have hszW6 : W6.heap.size = w2.heap.size:=by rw [hW6];simp
  have hlk:=aa Bk.out;have hkeep : ∀ q,¬ q = w.heap.size + 1 + 1 + 1 → W6.heap[q]? = w2.heap[q]?:=fun q h9 => by rw [hW6,Below.heap_setCell _ _ _ _ h9,Below.heap_setCell _ _ _ _ h9,Below.heap_setCell _ _ _ _ h9,Below.heap_setCell _ _ _ _ h9,Below.heap_setCell _ _ _ _ h9,Below.heap_setCell _ _ _ _ h9,Below.heap_setCell _ _ _ _ h9,Below.heap_setCell _ _ _ _ h9]
  have Dk:=ae ((hkeep (w.heap.size) af).trans Bk.out);have Dx:=ae ((hkeep (w.heap.size + 1) af).trans Bx.out);have Dr:=ae ((hkeep (w.heap.size + 1 + 1) af).trans Br.out);have Ds:=ae ((hkeep (w.heap.size + 1 + 1 + 1 + 1) af).trans Bs.out);have Dv : Hid (W6.heap[w.heap.size + 1 + 1 + 1]? = some (.cells #[.string ⟨#[]⟩,.int .i64 0,.string ⟨#[]⟩,.string ⟨#[]⟩,.bool false,.string ⟨#[]⟩,.bool false,.slice none 0 0] 118 (0,0))):=by rw [hW6];exact yZ Bv.out _ _ _ _ _ _ _ _
  have HBW6 : Hid (Below w.heap.size w W6):=by rw [hW6];exact sb3 (sb3 (sb3 (sb3 (sb3 (sb3 (sb3 (sb3 (HB.out))))))))
  have HKP:=ae hkeep;clear hkeep;rw [← hW6];clear hW6;refine (eD E 2 cc hcc _ (HE.out.below HBW6.out) al).mono ?_;exact aa3
 rcases hf with ⟨i9,hi9,hwhy,rfl⟩ | ⟨hh,h8',rfl⟩
 ·rcases hwhy with ⟨rfl,hh⟩ | ⟨rfl,hh,hf8⟩
  ·have HV : Hid (dL c i x k t (co0 (cM 3))):=.inr ⟨HBN.out,.inr ⟨hm,.inl ⟨hh,rfl⟩⟩⟩;obtain ⟨cc,hcc⟩ : ∃ cc,cc = cM 3:=⟨_,rfl⟩;rw [← hcc] at HV;obtain ⟨v0,v1,v2,v3,v4,v5,v6,v7⟩:=cs8 Bv.out;obtain ⟨fv0,fv1,fv2,fv3,fv4,fv5,fv6,fv7,hvl⟩:=aan;go_wp2_with fail;clear v0 fv0 v1 fv1 v2 fv2 v3 fv3 v4 fv4 v5 fv5 v6 fv6 v7 fv7 hvl;obtain ⟨W6,hW6⟩ : ∃ W,W = ((((((((w2.setCell ⟨w.heap.size + 1 + 1 + 1,0,none⟩ (.string (aA ++ x.n))).setCell ⟨w.heap.size + 1 + 1 + 1,1,none⟩ (.int .i64 x.z)).setCell ⟨w.heap.size + 1 + 1 + 1,2,none⟩ (.string (aR t k.z))).setCell ⟨w.heap.size + 1 + 1 + 1,3,none⟩ (.string x.k)).setCell ⟨w.heap.size + 1 + 1 + 1,4,none⟩ (.bool x.x)).setCell ⟨w.heap.size + 1 + 1 + 1,5,none⟩ (.string x.n)).setCell ⟨w.heap.size + 1 + 1 + 1,6,none⟩ (.bool false)).setCell ⟨w.heap.size + 1 + 1 + 1,7,none⟩ (.slice none 0 0)):=⟨_,rfl⟩;obtain ⟨hszW6,hlk,hkeep,Dk,Dx,Dr,Ds,Dv,HBW6,HKP⟩:=aaM;clear hkeep;rw [← hW6];clear hW6;refine (eD E 3 cc hcc _ (HE.out.below HBW6.out) al).mono ?_;exact aa3
  have HV : Hid (dL c i x k t (co0 (cM 4))):=.inr ⟨HBN.out,.inr ⟨hm,.inr ⟨hh,.inl ⟨hf8,rfl⟩⟩⟩⟩;obtain ⟨cc,hcc⟩ : ∃ cc,cc = cM 4:=⟨_,rfl⟩;rw [← hcc] at HV;obtain ⟨v0,v1,v2,v3,v4,v5,v6,v7⟩:=cs8 Bv.out;obtain ⟨fv0,fv1,fv2,fv3,fv4,fv5,fv6,fv7,hvl⟩:=aan;go_wp2_with fail;clear v0 fv0 v1 fv1 v2 fv2 v3 fv3 v4 fv4 v5 fv5 v6 fv6 v7 fv7 hvl;obtain ⟨W6,hW6⟩ : ∃ W,W = ((((((((w2.setCell ⟨w.heap.size + 1 + 1 + 1,0,none⟩ (.string (aA ++ x.n))).setCell ⟨w.heap.size + 1 + 1 + 1,1,none⟩ (.int .i64 x.z)).setCell ⟨w.heap.size + 1 + 1 + 1,2,none⟩ (.string (aR t k.z))).setCell ⟨w.heap.size + 1 + 1 + 1,3,none⟩ (.string x.k)).setCell ⟨w.heap.size + 1 + 1 + 1,4,none⟩ (.bool x.x)).setCell ⟨w.heap.size + 1 + 1 + 1,5,none⟩ (.string x.n)).setCell ⟨w.heap.size + 1 + 1 + 1,6,none⟩ (.bool false)).setCell ⟨w.heap.size + 1 + 1 + 1,7,none⟩ (.slice none 0 0)):=⟨_,rfl⟩;obtain ⟨hszW6,hlk,hkeep,Dk,Dx,Dr,Ds,Dv,HBW6,HKP⟩:=aaM;clear hkeep;rw [← hW6];clear hW6;refine (eD E 4 cc hcc _ (HE.out.below HBW6.out) al).mono ?_;exact aa3
 have HMY:=ae (And.intro hm (And.intro hh h8'));obtain ⟨v0,v1,v2,v3,v4,v5,v6,v7⟩:=cs8 Bv.out;obtain ⟨fv0,fv1,fv2,fv3,fv4,fv5,fv6,fv7,hvl⟩:=aan;go_wp2;go_step3;refine eP (rJ (HJ1.out _ _ ?_));clear hm hh h8';clear v0 fv0 v1 fv1 v2 fv2 v3 fv3 v4 fv4 v5 fv5 v6 fv6 v7 fv7 hvl;obtain ⟨W6,hW6⟩ : ∃ W,W = ((((((((w2.setCell ⟨w.heap.size + 1 + 1 + 1,0,none⟩ (.string (aA ++ x.n))).setCell ⟨w.heap.size + 1 + 1 + 1,1,none⟩ (.int .i64 x.z)).setCell ⟨w.heap.size + 1 + 1 + 1,2,none⟩ (.string (aR t k.z))).setCell ⟨w.heap.size + 1 + 1 + 1,3,none⟩ (.string x.k)).setCell ⟨w.heap.size + 1 + 1 + 1,4,none⟩ (.bool x.x)).setCell ⟨w.heap.size + 1 + 1 + 1,5,none⟩ (.string x.n)).setCell ⟨w.heap.size + 1 + 1 + 1,6,none⟩ (.bool false)).setCell ⟨w.heap.size + 1 + 1 + 1,7,none⟩ (.slice none 0 0)):=⟨_,rfl⟩;obtain ⟨hszW6,hlk,hkeep,Dk,Dx,Dr,Ds,Dv,HBW6,HKP⟩:=aaM;clear hkeep;have hxn18 : x.n.size ≤ 18:=HMY.out.1.2.2.2.2;have hzz : (aR t k.z).size ≤ 20:=by
  have h1 : (aR t k.z) = k.z ∨ (aR t k.z) = t:=by unfold aR;split <;> simp
  rcases h1 with h1 | h1
  ·rw [h1];rcases (HT.out.2.1.2.1.2.1 j k HK.out.1).2 with h2 | h2
   ·rw [h2];decide
   ·exact h2.2.1
  ·rw [h1];exact ht20
 have hmn : (aA ++ x.n).size ≤ 20:=by
  rw [ByteArray.size_append];have h1 : aA.size = 2:=rfl;omega
 have HCX : Hid (fR c (bdX x (aA ++ x.n)) (mkV x (aR t k.z)) = cI c i x (aR t k.z)):=qg HT.out HX.out.1 HMY.out.2.1;have HMB : Hid (bdV (mkV x (aR t k.z)) x.n = mkV x (aR t k.z)):=rfl;go_wp2_with fail;rw [← hW6];rename_i K0 hK0;refine aT av rfl rfl av ?_;refine' aw.aq _ rfl ?_ ?_;rotate_left 1
 ·exact ab4
 refine' aw.aq _ rfl ?_ ?_;rotate_left 1
 ·exact abU
 refine' aw.aq _ rfl ?_ ?_;rotate_left 1
 ·exact ach
 refine aw.step (PrF (w.heap.size + 1 + 1 + 1 + 1 + 1) (cI c i x (aR t k.z))) rfl (PrF.mono _ _) ?_ ?_
 ·refine Obl.plain rfl ?_;intro ac wg K hsz hW hf hK;clear hsz;have e31:=hf 31 al;simp [ai,List.lookup] at e31;have e32:=hf 32 al;simp [ai,List.lookup] at e32;have e33:=hf 33 al;simp [ai,List.lookup] at e33;clear hf;go_simp;have hs6:=hW.size;refine (ig d c x (mkV x (aR t k.z)) none 0 0 (w.heap.size + 1 + 1 + 1 + 1 + 1) _ (HR.out.below (HBW6.out.trans (hW.mono HBW6.out.size))) HT.out.sm ⟨⟨rfl,Nat.le_refl _,by omega,fun q y hy => by simp [mkV] at hy,.inl rfl⟩,.inl rfl⟩ af af af (show (aA ++ x.n).size ≤ 9223372036854775807 by omega) (show (aR t k.z).size ≤ 9223372036854775807 by omega) (show x.k.size ≤ 9223372036854775807 by omega)).mono ?_;rintro e w6 ⟨d',rfl,ho6,hb6⟩;rw [HMB.out,show (mkV x (aR t k.z)).n = aA ++ x.n from rfl,HCX.out] at ho6;exact hK _ _ hb6 ⟨d',rfl,ho6⟩
 refine' aw.aq _ rfl ?_ ?_;rotate_left 1
 ·exact aad
 refine' aw.aq _ rfl ?_ ?_;rotate_left 1
 ·exact abM
 refine aw.step (PrO (w.heap.size + 1 + 1 + 1 + 1 + 1) (cI c i x (aR t k.z)) ((mkV x (aR t k.z)).n)) rfl (PrO.mono _ _ _) ?_ ?_
 ·exact abT
 refine aw.done ?_;intro q wz hW hf;simp only [List.forall_mem_cons] at hf;obtain ⟨h37,h36,h35,-,h33,h32,h31,-⟩:=hf;obtain ⟨d',hv37,ho37⟩:=h37;have HO:=ae ho37;have HWZ:=ae hW;have Br6:=upK Dr hW;obtain ⟨r0,r1,r2,r3,r4,r5,r6,r7⟩:=cs8 Br6.out;obtain ⟨fr0,fr1,fr2,fr3,fr4,fr5,fr6,fr7,hrl⟩:=aaD;clear ho37;intro K hK;rw [if_pos bH];simp only [aE,List.foldr,Act.put,List.setIfInBounds_toArray,List.set_cons_zero,List.set_cons_succ,h36,h35,h33,h32,h31,hv37];simp only [List.getLast];go_simp;refine hK _ _ ?_;refine hK0 _ _ ?_;clear hK hK0 K K0;have HV : Hid (dL c i x k t ⟨cI c i x (aR t k.z),(mkV x (aR t k.z)).n,0⟩):=.inr ⟨HBN.out,.inr ⟨HMY.out.1,.inr ⟨HMY.out.2.1,.inr ⟨HMY.out.2.2,rfl⟩⟩⟩⟩;go_wp2;refine gM ?_;refine bodyPost_ret (v:=.agg #[.slice d'.a1 d'.l1 d'.c1,.slice d'.a2 d'.l2 d'.c2,.slice d'.a3 d'.l3 d'.c3,.slice d'.a4 d'.l4 d'.c4,.slice d'.a5 d'.l5 d'.c5,.int .i64 c.now,.string ((mkV x (aR t k.z)).n),.int .i64 0]) (by simp [results,Tryz.results129,go_sem, *];try rfl) rfl ⟨d',⟨cI c i x (aR t k.z),(mkV x (aR t k.z)).n,0⟩,rfl,HV.out,?_,sb2 (sb2 (sb2 (sb2 (sb2 (sb2 (sb2 (sb2 (HBW6.out.trans (HWZ.out.mono HBW6.out.size)))))))))⟩;obtain ⟨P,hP⟩:=HO.out;exact ⟨P,hP.aH (w':=((((((((wz.setCell ⟨w.heap.size + 1 + 1,0,none⟩ (.slice d'.a1 d'.l1 d'.c1)).setCell ⟨w.heap.size + 1 + 1,1,none⟩ (.slice d'.a2 d'.l2 d'.c2)).setCell ⟨w.heap.size + 1 + 1,2,none⟩ (.slice d'.a3 d'.l3 d'.c3)).setCell ⟨w.heap.size + 1 + 1,3,none⟩ (.slice d'.a4 d'.l4 d'.c4)).setCell ⟨w.heap.size + 1 + 1,4,none⟩ (.slice d'.a5 d'.l5 d'.c5)).setCell ⟨w.heap.size + 1 + 1,5,none⟩ (.int .i64 c.now)).setCell ⟨w.heap.size + 1 + 1,6,none⟩ (.string ((mkV x (aR t k.z)).n))).setCell ⟨w.heap.size + 1 + 1,7,none⟩ (.int .i64 0))) (fun q hq s => by have s1 : w.heap.size + 1 + 1 + 1 + 1 + 1 ≤ q:=s;rw [Below.heap_setCell _ _ _ _ (show q ≠ w.heap.size + 1 + 1 by omega),Below.heap_setCell _ _ _ _ (show q ≠ w.heap.size + 1 + 1 by omega),Below.heap_setCell _ _ _ _ (show q ≠ w.heap.size + 1 + 1 by omega),Below.heap_setCell _ _ _ _ (show q ≠ w.heap.size + 1 + 1 by omega),Below.heap_setCell _ _ _ _ (show q ≠ w.heap.size + 1 + 1 by omega),Below.heap_setCell _ _ _ _ (show q ≠ w.heap.size + 1 + 1 by omega),Below.heap_setCell _ _ _ _ (show q ≠ w.heap.size + 1 + 1 by omega),Below.heap_setCell _ _ _ _ (show q ≠ w.heap.size + 1 + 1 by omega)]) (fun q _ s => by have s1 : w.heap.size + 1 + 1 + 1 + 1 + 1 ≤ q:=s;show w.heap.size ≤ q;omega)⟩

def Df (d : Ad) (c : Cl) (p : Pd) (n : Nd) (pa : Option Addr) (pl pc : Nat) (na : Option Addr) (nl nc : Nat) (t : ByteArray) (w : World) (e : Ending) (w' : World) : Prop:=∃ (d' : Ad) (c' : Cl) (e0 : Int) (hv : Value),e = .returned (.tuple #[.agg #[.slice d'.a1 d'.l1 d'.c1,.slice d'.a2 d'.l2 d'.c2,.slice d'.a3 d'.l3 d'.c3,.slice d'.a4 d'.l4 d'.c4,.slice d'.a5 d'.l5 d'.c5,.int .i64 c'.now,.string p.n,.int .i64 p.c,.string p.z,.slice pa pl pc,.string p.d,.int .i64 p.p,.string n.n,.string n.z,.int .i64 n.c,.int .i64 n.s,.int .i64 n.u,.bool n.d,.slice na nl nc],hv]) ∧ cW c n t c' e0 ∧ gp hv e0 ∧ aM w' d' c'.raw ∧ ((d' = d ∧ c' = c) ∨ cf w' d' c'.raw (fun k => w.heap.size ≤ k)) ∧ Below w.heap.size w w'
theorem fY {W : World} {b : Nat} {cs : Array Value} : aP (fun k => k = b) W (W.setRow b cs):=⟨rfl,rfl,rfl,by simp,fun k _ hn => setRow_other _ _ _ _ hn⟩
def HsF (cs : Array Value) : Fact:=fun v w => ∃ b,v = .slice (some ⟨b,0,none⟩) 2 2 ∧ w.heap[b]? = some (.cells cs 78 (0,0))
theorem HsF.mono (cs : Array Value) : Fact.bw (HsF cs):=by
 rintro v w w' ⟨b,h1,h2⟩ hb;exact ⟨b,h1,(hb.block _ (aa h2)).trans h2⟩
def BdF (c : Cl) (n : Nd) (v : Vd) : Fact:=fun r _ => ∃ e0,gp r e0 ∧ ((¬ v.z = n.z ∧ e0 = 8) ∨ (v.z = n.z ∧ fB c v n.n ∧ e0 = 10) ∨ (v.z = n.z ∧ ¬ fB c v n.n ∧ e0 = 0))
theorem BdF.mono (c : Cl) (n : Nd) (v : Vd) : Fact.bw (BdF c n v):=fun _ _ _ h _ => h
theorem rL : (Tryz.prog.info? 37).map (·.size) = some 6:=by kernel_rfl
theorem xX (d : Ad) (c : Cl) (p : Pd) (n : Nd) (pa : Option Addr) (pl pc : Nat) (na : Option Addr) (nl nc : Nat) (t : ByteArray) (w : World) (hr : aM w d c.raw) (hT : aC c) (ht : hit Xd.n c.xs t = true) (E : Nat → Addr) (hG : Ers w E) (hnz : aL n.z) :
  Calls Tryz.prog 78 #[.agg #[.slice d.a1 d.l1 d.c1,.slice d.a2 d.l2 d.c2,.slice d.a3 d.l3 d.c3,.slice d.a4 d.l4 d.c4,.slice d.a5 d.l5 d.c5,.int .i64 c.now,.string p.n,.int .i64 p.c,.string p.z,.slice pa pl pc,.string p.d,.int .i64 p.p,.string n.n,.string n.z,.int .i64 n.c,.int .i64 n.s,.int .i64 n.u,.bool n.d,.slice na nl nc],.string t] w fun e w' => Df d c p n pa pl pc na nl nc t w e w':=by
 have HR:=ae hr;have HT:=ae hT;have HH:=ae ht;have HE:=ae hG;have HNZ:=ae hnz;have HB:=ae (Below.refl w.heap.size w);clear hr hT ht hG hnz;go_enter Tryz.func78,Tryz.ntmps78;go_wp2_with fail;refine (eN d c.now c.xs t w _ HR.out.x (aF _ _ _)).mono ?_;rintro e w1 ⟨hb,hf⟩;obtain ⟨HA0,HA1,hbx⟩:=cP hb;have Bt:=ae HA0;have Br:=ae HA1;replace HB:=upB HB hbx;clear hb hbx HA0 HA1;rcases hf with ⟨hh,x,hx,hn9,rfl,z0,z1,z2⟩ | ⟨hh,rfl⟩;rotate_left
 ·rw [HH.out] at hh;cases hh
 have HX:=ae hx;have HXN:=ae hn9;clear hx hn9 hh z0 z1 z2;obtain ⟨t0,t1,t2,t3,t4,t5⟩:=ct6 Bt.out;have ltt_1:=aa Bt.out;go_wp2_with fail;refine (dy d c.now c.vs x.v w _ HR.out.v (HB.out.trans ((an _ _).mono HB.out.size))).mono ?_;rintro e w2 ⟨hb,hf⟩;clear t0 t1 t2 t3 t4 t5 ltt_1;obtain ⟨HA0,hbx⟩:=aG hb;replace Bt:=upK Bt hbx;replace Br:=upK Br hbx;have Bx:=ae HA0;replace HB:=upB HB hbx;clear hb hbx HA0;rcases hf with ⟨hh,v,ua,ul,uc,hv,hvn,rfl,z0,z1,z2,z3,hz⟩ | ⟨hh,rfl⟩
 ·have HV:=ae hv;have HVN:=ae hvn;have HZ:=ae hz;clear hv hvn hh z0 z1 z2 z3 hz;obtain ⟨t0,t1,t2,t3,t4,t5⟩:=ct6 Bt.out;have ltt_2:=aa Bt.out;go_wp2_with fail;obtain ⟨W,hW0⟩ : ∃ W,W = w2.alloc (.cells #[.string v.n,.int .i64 v.c,.string v.z,.string v.k,.bool v.x,.string v.m,.bool v.y,.slice ua ul uc] 118):=⟨_,rfl⟩;have BtW:=ae ((Below.heap_alloc w2 (.cells #[.string v.n,.int .i64 v.c,.string v.z,.string v.k,.bool v.x,.string v.m,.bool v.y,.slice ua ul uc] 118) _ (aa Bt.out)).trans Bt.out);have BrW:=ae ((Below.heap_alloc w2 (.cells #[.string v.n,.int .i64 v.c,.string v.z,.string v.k,.bool v.x,.string v.m,.bool v.y,.slice ua ul uc] 118) _ (aa Br.out)).trans Br.out);have BvW:=ae (heap_alloc_new w2 (.cells #[.string v.n,.int .i64 v.c,.string v.z,.string v.k,.bool v.x,.string v.m,.bool v.y,.slice ua ul uc] 118));have HBX:=ae (HB.out.trans ((an w2 (.cells #[.string v.n,.int .i64 v.c,.string v.z,.string v.k,.bool v.x,.string v.m,.bool v.y,.slice ua ul uc] 118)).mono HB.out.size));rw [← hW0] at BtW BrW BvW HBX ⊢;clear hW0 Bt Br HB Bx;clear t0 t1 t2 t3 t4 t5 ltt_2;rename_i K0 hK0;refine Gu.ot av rfl rfl rfl av ?_;refine' Gu.aw.aq (.agg #[.slice d.a1 d.l1 d.c1,.slice d.a2 d.l2 d.c2,.slice d.a3 d.l3 d.c3,.slice d.a4 d.l4 d.c4,.slice d.a5 d.l5 d.c5,.int .i64 c.now,.string p.n,.int .i64 p.c,.string p.z,.slice pa pl pc,.string p.d,.int .i64 p.p,.string n.n,.string n.z,.int .i64 n.c,.int .i64 n.s,.int .i64 n.u,.bool n.d,.slice na nl nc]) rfl ?_ ?_
  ·exact acx
  refine' Gu.aw.aq (.agg #[.slice d.a1 d.l1 d.c1,.slice d.a2 d.l2 d.c2,.slice d.a3 d.l3 d.c3,.slice d.a4 d.l4 d.c4,.slice d.a5 d.l5 d.c5,.int .i64 c.now,.string p.n,.int .i64 p.c,.string p.z,.slice pa pl pc,.string p.d,.int .i64 p.p,.string n.n,.string n.z,.int .i64 n.c,.int .i64 n.s,.int .i64 n.u,.bool n.d,.slice na nl nc]) rfl ?_ ?_
  ·exact acx
  refine' Gu.aw.aq _ rfl ?_ ?_;rotate_left 1
  ·exact acJ
  refine' Gu.aw.aq _ rfl ?_ ?_;rotate_left 1
  ·refine Obl.plain rfl ?_;intro ac wg K hsz hW hf hK;clear hsz;have e32:=hf 32 al;simp [ai,List.lookup] at e32;clear hf;exact aO
  refine' Gu.aw.aq _ rfl ?_ ?_;rotate_left 1
  ·refine Obl.plain rfl ?_;intro ac wg K hsz hW hf hK;clear hsz;have e33:=hf 33 al;simp [ai,List.lookup] at e33;clear hf;exact aO
  refine' Gu.aw.aq _ rfl ?_ ?_;rotate_left 1
  ·exact acJ
  refine' Gu.aw.aq _ rfl ?_ ?_;rotate_left 1
  ·exact aa5
  refine' Gu.aw.aq _ rfl ?_ ?_;rotate_left 1
  ·refine Obl.plain rfl ?_;intro ac wg K hsz hW hf hK;clear hsz;have e36:=hf 36 al;simp [ai,List.lookup] at e36;clear hf;exact aO
  refine Gu.aw.step (HsF #[.iface 140 (.agg #[.string v.n,.int .i64 v.c,.string v.z,.string v.k,.bool v.x,.string v.m,.bool v.y,.slice ua ul uc]),.iface 182 (.agg #[.string v.n,.int .i64 v.c,.string v.z,.string v.k,.bool v.x,.string v.m,.bool v.y,.slice ua ul uc])]) rfl (HsF.mono _) ?_ ?_
  ·refine Obl.plain rfl ?_;intro ac wg K hsz hW hf hK;clear hsz;have e34:=hf 34 al;simp [ai,List.lookup] at e34;have e37:=hf 37 al;simp [ai,List.lookup] at e37;clear hf;go_simp;exact hK _ _ (an _ _) ⟨wg.heap.size,rfl,heap_alloc_new wg _⟩
  refine Gu.aw.step (BdF c n v) rfl (BdF.mono _ _ _) ?_ ?_
  ·refine Obl.plain rfl ?_;intro ac wg K hsz hW hf hK;clear hsz;have e31:=hf 31 al;simp [ai,List.lookup] at e31;have e38:=hf 38 al;simp [ai,List.lookup] at e38;clear hf;obtain ⟨b,e38,hb38⟩:=e38;go_simp;refine (iC _ _ _ _ _ _ _ _ _ _ _ _ _ _ _ _ _ _ _ b 2 2 [(140,.agg #[.string v.n,.int .i64 v.c,.string v.z,.string v.k,.bool v.x,.string v.m,.bool v.y,.slice ua ul uc],¬ v.z = n.z),(182,.agg #[.string v.n,.int .i64 v.c,.string v.z,.string v.k,.bool v.x,.string v.m,.bool v.y,.slice ua ul uc],fB c v n.n)] wg rfl af (aa hb38) (fun j T u P hj => by
    rcases j with _ | _ | j
    ·cases hj
     exact ⟨ah hb38 0,yr d c p n pa pl pc na nl nc v ua ul uc _⟩
    ·cases hj
     exact ⟨ah hb38 1,yq d c p n pa pl pc na nl nc v ua ul uc _ (HR.out.below (HBX.out.trans (hW.mono HBX.out.size))) (HZ.out.below (HBX.out.trans (hW.mono HBX.out.size)))⟩
    ·simp at hj)).mono ?_
   rintro e w6 ⟨⟨rr,rfl,hi⟩,hb6⟩;refine hK _ _ hb6 ?_;rcases hi with ⟨j,T,u,P,hj,hp,rfl,hlt⟩ | ⟨rfl,hno⟩
   ·rcases j with _ | _ | j
    ·cases hj;exact ⟨8,.inr ⟨by decide,.inr (.inr (.inr (.inl ⟨_,rfl,rfl⟩)))⟩,.inl ⟨hp,rfl⟩⟩
    ·cases hj;have h1:=hlt 0 _ _ _ af rfl;exact ⟨10,.inr ⟨by decide,.inr (.inr (.inr (.inr (.inl ⟨_,rfl,rfl⟩))))⟩,.inr (.inl ⟨Classical.not_not.1 h1,hp,rfl⟩)⟩
    ·simp at hj
   ·have h1:=hno 0 _ _ _ rfl;have h2:=hno 1 _ _ _ rfl;exact ⟨0,.inl ⟨rfl,rfl⟩,.inr (.inr ⟨Classical.not_not.1 h1,h2,rfl⟩)⟩
  refine Gu.aw.done ?_;intro q wz hW hf;simp only [List.forall_mem_cons] at hf;obtain ⟨⟨e0,he1,he2⟩,⟨b,h38,-⟩,h37,h36,h35,h34,h33,h32,h31,h30,-⟩:=hf;have HWZ:=upB HBX hW;have Br6:=upK BrW hW;have H1:=ae he1;have H2:=ae he2;clear hW he1 he2;have HA19 : Hid ((#[.slice d.a1 d.l1 d.c1,.slice d.a2 d.l2 d.c2,.slice d.a3 d.l3 d.c3,.slice d.a4 d.l4 d.c4,.slice d.a5 d.l5 d.c5,.int .i64 c.now,.string p.n,.int .i64 p.c,.string p.z,.slice pa pl pc,.string p.d,.int .i64 p.p,.string n.n,.string n.z,.int .i64 n.c,.int .i64 n.s,.int .i64 n.u,.bool n.d,.slice na nl nc] : Array Value).all (·.oneCell') = true):=by show _ = true;simp [Value.oneCell']
  intro K hK;rw [if_pos bH];simp only [aE,List.foldr,Act.put,List.setIfInBounds_toArray,List.set_cons_zero,List.set_cons_succ,h38,h37,h36,h35,h34,h33,h32,h31,h30];refine wp_store_row _ _ _ rfl (w.heap.size + 1) #[.slice d.a1 d.l1 d.c1,.slice d.a2 d.l2 d.c2,.slice d.a3 d.l3 d.c3,.slice d.a4 d.l4 d.c4,.slice d.a5 d.l5 d.c5,.int .i64 c.now,.string p.n,.int .i64 p.c,.string p.z,.slice pa pl pc,.string p.d,.int .i64 p.p,.string n.n,.string n.z,.int .i64 n.c,.int .i64 n.s,.int .i64 n.u,.bool n.d,.slice na nl nc] rfl rfl _ _ Br6.out bG rfl HA19.out ?_;refine hK _ _ ?_;clear hK K;intro K hK;rw [if_pos bH];go_simp;refine hK _ _ ?_;refine hK0 _ _ ?_;clear hK hK0 K K0;go_wp2;exact bodyPost_ret (v:=.tuple #[.agg #[.slice d.a1 d.l1 d.c1,.slice d.a2 d.l2 d.c2,.slice d.a3 d.l3 d.c3,.slice d.a4 d.l4 d.c4,.slice d.a5 d.l5 d.c5,.int .i64 c.now,.string p.n,.int .i64 p.c,.string p.z,.slice pa pl pc,.string p.d,.int .i64 p.p,.string n.n,.string n.z,.int .i64 n.c,.int .i64 n.s,.int .i64 n.u,.bool n.d,.slice na nl nc],q 39]) (results_cell_tmp rfl _ _ (w.heap.size + 1) _ _ _ _ _ rfl rfl (setRow_heap _ (w.heap.size + 1) _ #[.slice d.a1 d.l1 d.c1,.slice d.a2 d.l2 d.c2,.slice d.a3 d.l3 d.c3,.slice d.a4 d.l4 d.c4,.slice d.a5 d.l5 d.c5,.int .i64 c.now,.string p.n,.int .i64 p.c,.string p.z,.slice pa pl pc,.string p.d,.int .i64 p.p,.string n.n,.string n.z,.int .i64 n.c,.int .i64 n.s,.int .i64 n.u,.bool n.d,.slice na nl nc] _ _ Br6.out) Tryz.underlying76 rfl bG) rfl ⟨d,c,e0,q 39,rfl,⟨_,x,HX.out,HXN.out,.inl ⟨_,v,HV.out,HVN.out,rfl,H2.out⟩⟩,H1.out,HR.out.below (below_setRow HWZ.out af _),.inl ⟨rfl,rfl⟩,below_setRow HWZ.out af _⟩
 have HHV:=ae hh;clear hh;obtain ⟨t0,t1,t2,t3,t4,t5⟩:=ct6 Bt.out;have ltt_2:=aa Bt.out;have x2 : w2.cell? ⟨w1.heap.size,2,none⟩ = some (.string x.k):=ah Bx.out 2;have ltx_2:=aa Bx.out;go_wp2_with fail;refine (gu d c.now c.ks x.k w _ HR.out.k (HB.out.trans ((an _ _).mono HB.out.size))).mono ?_;rintro e w3 ⟨hb,hf⟩;clear t0 t1 t2 t3 t4 t5 ltt_2 x2 ltx_2;obtain ⟨HA0,hbx⟩:=aG hb;replace Bt:=upK Bt hbx;replace Br:=upK Br hbx;replace Bx:=upK Bx hbx;have Bv:=ae HA0;replace HB:=upB HB hbx;clear hb hbx HA0;have hkh:=(HT.out.2.2.1.2 _ _ HX.out).1;rcases hf with ⟨hh,k,hk,hkn,rfl,z0,z1⟩ | ⟨hh,rfl⟩;rotate_left
 ·rw [hkh] at hh;cases hh
 have HK:=ae hk;have HKN:=ae hkn;have HXV : Hid (x.v = ⟨#[]⟩):=(HT.out.2.2.1.2 _ _ HX.out).2.elim id (fun h => by
  obtain ⟨i1,j1,x1,v1,-,-,a3,a4,-⟩:=h;have h9:=(bU HT.out.2.1.2.2.1.2.2 a3 a4).2;rw [HHV.out] at h9
  cases h9)
 clear hk hkn hh hkh z0 z1;have hr3:=aa Br.out;have t0 : w3.cell? ⟨w.heap.size,0,none⟩ = some (.slice d.a1 d.l1 d.c1):=ah Bt.out 0;have t1 : w3.cell? ⟨w.heap.size,1,none⟩ = some (.slice d.a2 d.l2 d.c2):=ah Bt.out 1;have t2 : w3.cell? ⟨w.heap.size,2,none⟩ = some (.slice d.a3 d.l3 d.c3):=ah Bt.out 2;have t3 : w3.cell? ⟨w.heap.size,3,none⟩ = some (.slice d.a4 d.l4 d.c4):=ah Bt.out 3;have t4 : w3.cell? ⟨w.heap.size,4,none⟩ = some (.slice d.a5 d.l5 d.c5):=ah Bt.out 4;have t5 : w3.cell? ⟨w.heap.size,5,none⟩ = some (.int .i64 c.now):=ah Bt.out 5;have t13 : w3.cell? ⟨w.heap.size,13,none⟩ = some (.string n.z):=ah Bt.out 13;have ltt_3:=aa Bt.out;obtain ⟨x0,x1,x2,x3,x4⟩:=cs5 Bx.out;have ltx_3:=aa Bx.out;go_wp2_with fail;refine (oa d c x n.z _ _ k E _ (HR.out.below (HB.out.trans ((an _ _).mono HB.out.size))) (HE.out.below (HB.out.trans ((an _ _).mono HB.out.size))) HT.out HX.out HXV.out HK.out HKN.out (.inr HNZ.out)).mono ?_;rintro e w4 ⟨dg,o,rfl,hI,ho,hb⟩;clear t0 t1 t2 t3 t4 t5 t13 ltt_3 x0 x1 x2 x3 x4 ltx_3;obtain ⟨HA0,hbx⟩:=aG hb;replace Bt:=upK Bt hbx;replace Br:=upK Br hbx;replace Bx:=upK Bx hbx;replace Bv:=upK Bv hbx;have Bq:=ae HA0;replace HB:=upB HB hbx;clear hb hbx HA0;have HO:=ae (ho.bs (S':=fun k => w3.heap.size ≤ k) (fun k _ s => by have s2 : (w3.alloc _).heap.size ≤ k:=s;simp at s2;omega));have HBI:=ae hI;clear ho hI;obtain ⟨q0,q1,q2,q3⟩:=cs4 Bq.out;have ltq_4:=aa Bq.out;have ht9:=aa Bt.out;have BT5 : Hid ((w4.alloc (.cells #[.slice dg.a1 dg.l1 dg.c1,.slice dg.a2 dg.l2 dg.c2,.slice dg.a3 dg.l3 dg.c3,.slice dg.a4 dg.l4 dg.c4,.slice dg.a5 dg.l5 dg.c5,.int .i64 o.c.now,.string o.n,.int .i64 o.p] 42)).heap[w.heap.size]? = some (.cells #[.slice d.a1 d.l1 d.c1,.slice d.a2 d.l2 d.c2,.slice d.a3 d.l3 d.c3,.slice d.a4 d.l4 d.c4,.slice d.a5 d.l5 d.c5,.int .i64 c.now,.string p.n,.int .i64 p.c,.string p.z,.slice pa pl pc,.string p.d,.int .i64 p.p,.string n.n,.string n.z,.int .i64 n.c,.int .i64 n.s,.int .i64 n.u,.bool n.d,.slice na nl nc] 76 (0,0))):=(Below.heap_alloc _ _ _ ht9).trans Bt.out;go_wp2_with (refine wpList_load_row (o:=⟨some 55,.load 76 (.tmp 2),_,_,_,none⟩) rfl _ _ rfl w.heap.size rfl _ _ _ _ BT5.out Tryz.underlying76 rfl bG ?_);refine (iC _ _ _ _ _ _ _ _ _ _ _ _ _ _ _ _ _ _ _ (w4.heap.size + 1) 2 2 [(138,.agg #[.string k.n,.bool k.x,.bool k.y,.string k.z],k.x = false),(142,.agg #[.int .i64 o.p],¬ o.p = 0)] _ rfl af aN (fun j T v P hj => by
  rcases j with _ | _ | j
  ·cases hj
   exact ⟨ah (bK _ _ _) 0,yt d c p n pa pl pc na nl nc k _⟩
  ·cases hj
   exact ⟨ah (bK _ _ _) 1,zI d c p n pa pl pc na nl nc o.p _⟩
  ·simp at hj)).mono ?_
 rintro e w5 ⟨⟨rr,rfl,hi⟩,hb⟩;have HHV2 : Hid (∃ e0,gp rr e0 ∧ ((k.x = false ∧ e0 = 11) ∨ (k.x = true ∧ e0 = o.p))):=by
  rcases hi with ⟨j,T,v,P,hj,hp,rfl,hlt⟩ | ⟨rfl,hno⟩
  ·rcases j with _ | _ | j
   ·cases hj;exact ⟨11,.inr ⟨by decide,.inr (.inr (.inr (.inr (.inr (.inl ⟨_,rfl,rfl⟩)))))⟩,.inl ⟨hp,rfl⟩⟩
   ·cases hj;have h1:=hlt 0 _ _ _ af rfl;exact ⟨o.p,.inr ⟨hp,.inr (.inr (.inr (.inr (.inr (.inr (.inl rfl))))))⟩,.inr ⟨by simpa using h1,rfl⟩⟩
   ·simp at hj
  ·have h1:=hno 0 _ _ _ rfl;have h2:=hno 1 _ _ _ rfl;exact ⟨0,.inl ⟨rfl,rfl⟩,.inr ⟨by simpa using h1,(Classical.not_not.1 h2).symm⟩⟩
 clear hi;clear q0 q1 q2 q3 ltq_4;obtain ⟨HA0,HA1,hbx⟩:=cP hb;replace Bt:=upK Bt hbx;replace Br:=upK Br hbx;replace Bx:=upK Bx hbx;replace Bv:=upK Bv hbx;replace Bq:=upK Bq hbx;have Bo:=ae HA0;have Bs:=ae HA1;replace HO:=ae (HO.out.below hbx);replace HB:=upB HB hbx;clear hb hbx HA0 HA1;obtain ⟨o0,o1,o2,o3,o4,o5,o6,o7⟩:=cs8 Bo.out;have lto_5:=aa Bo.out;have ltt:=aa Bt.out;have BT8:=ae (setRow_heap w5 w.heap.size _ #[.slice dg.a1 dg.l1 dg.c1,.slice dg.a2 dg.l2 dg.c2,.slice dg.a3 dg.l3 dg.c3,.slice dg.a4 dg.l4 dg.c4,.slice dg.a5 dg.l5 dg.c5,.int .i64 o.c.now,.string p.n,.int .i64 p.c,.string p.z,.slice pa pl pc,.string p.d,.int .i64 p.p,.string n.n,.string n.z,.int .i64 n.c,.int .i64 n.s,.int .i64 n.u,.bool n.d,.slice na nl nc] _ _ Bt.out);have BR8:=ae ((setRow_other w5 w.heap.size (w.heap.size + 1) #[.slice dg.a1 dg.l1 dg.c1,.slice dg.a2 dg.l2 dg.c2,.slice dg.a3 dg.l3 dg.c3,.slice dg.a4 dg.l4 dg.c4,.slice dg.a5 dg.l5 dg.c5,.int .i64 o.c.now,.string p.n,.int .i64 p.c,.string p.z,.slice pa pl pc,.string p.d,.int .i64 p.p,.string n.n,.string n.z,.int .i64 n.c,.int .i64 n.s,.int .i64 n.u,.bool n.d,.slice na nl nc] af).trans Br.out);have HA6 : Hid ((#[.slice dg.a1 dg.l1 dg.c1,.slice dg.a2 dg.l2 dg.c2,.slice dg.a3 dg.l3 dg.c3,.slice dg.a4 dg.l4 dg.c4,.slice dg.a5 dg.l5 dg.c5,.int .i64 o.c.now] : Array Value).all (·.oneCell') = true):=by show _ = true;simp [Value.oneCell']
 have HA19 : Hid ((#[.slice dg.a1 dg.l1 dg.c1,.slice dg.a2 dg.l2 dg.c2,.slice dg.a3 dg.l3 dg.c3,.slice dg.a4 dg.l4 dg.c4,.slice dg.a5 dg.l5 dg.c5,.int .i64 o.c.now,.string p.n,.int .i64 p.c,.string p.z,.slice pa pl pc,.string p.d,.int .i64 p.p,.string n.n,.string n.z,.int .i64 n.c,.int .i64 n.s,.int .i64 n.u,.bool n.d,.slice na nl nc] : Array Value).all (·.oneCell') = true):=by show _ = true;simp [Value.oneCell']
 go_wp2_with (first
  | refine dG (op:=⟨none,.store 37 (.tmp 67) (.tmp 66),_,_,_,none⟩) rfl _ _ _ rfl w.heap.size 0 #[.slice dg.a1 dg.l1 dg.c1,.slice dg.a2 dg.l2 dg.c2,.slice dg.a3 dg.l3 dg.c3,.slice dg.a4 dg.l4 dg.c4,.slice dg.a5 dg.l5 dg.c5,.int .i64 o.c.now] #[.slice dg.a1 dg.l1 dg.c1,.slice dg.a2 dg.l2 dg.c2,.slice dg.a3 dg.l3 dg.c3,.slice dg.a4 dg.l4 dg.c4,.slice dg.a5 dg.l5 dg.c5,.int .i64 o.c.now,.string p.n,.int .i64 p.c,.string p.z,.slice pa pl pc,.string p.d,.int .i64 p.p,.string n.n,.string n.z,.int .i64 n.c,.int .i64 n.s,.int .i64 n.u,.bool n.d,.slice na nl nc] rfl rfl _ _ Bt.out rL (Nat.le_of_ble_eq_true rfl) HA6.out rfl ?_
  | refine wpList_load_row (o:=⟨some 68,.load 76 (.tmp 2),_,_,_,none⟩) rfl _ _ rfl w.heap.size rfl _ _ _ _ BT8.out Tryz.underlying76 rfl bG ?_
  | refine wpList_store_row (o:=⟨none,.store 76 (.tmp 4) (.tmp 68),_,_,_,none⟩) rfl _ _ _ rfl (w.heap.size + 1) #[.slice dg.a1 dg.l1 dg.c1,.slice dg.a2 dg.l2 dg.c2,.slice dg.a3 dg.l3 dg.c3,.slice dg.a4 dg.l4 dg.c4,.slice dg.a5 dg.l5 dg.c5,.int .i64 o.c.now,.string p.n,.int .i64 p.c,.string p.z,.slice pa pl pc,.string p.d,.int .i64 p.p,.string n.n,.string n.z,.int .i64 n.c,.int .i64 n.s,.int .i64 n.u,.bool n.d,.slice na nl nc] rfl rfl _ _ BR8.out bG rfl HA19.out ?_)
 have HOF:=ae ((HO.out.kept (fY (b:=w.heap.size) (cs:=#[.slice dg.a1 dg.l1 dg.c1,.slice dg.a2 dg.l2 dg.c2,.slice dg.a3 dg.l3 dg.c3,.slice dg.a4 dg.l4 dg.c4,.slice dg.a5 dg.l5 dg.c5,.int .i64 o.c.now,.string p.n,.int .i64 p.c,.string p.z,.slice pa pl pc,.string p.d,.int .i64 p.p,.string n.n,.string n.z,.int .i64 n.c,.int .i64 n.s,.int .i64 n.u,.bool n.d,.slice na nl nc])) (fun k s e => by have s2 : w3.heap.size ≤ k:=s;omega)).kept (fY (b:=w.heap.size + 1) (cs:=#[.slice dg.a1 dg.l1 dg.c1,.slice dg.a2 dg.l2 dg.c2,.slice dg.a3 dg.l3 dg.c3,.slice dg.a4 dg.l4 dg.c4,.slice dg.a5 dg.l5 dg.c5,.int .i64 o.c.now,.string p.n,.int .i64 p.c,.string p.z,.slice pa pl pc,.string p.d,.int .i64 p.p,.string n.n,.string n.z,.int .i64 n.c,.int .i64 n.s,.int .i64 n.u,.bool n.d,.slice na nl nc])) (fun k s e => by have s2 : w3.heap.size ≤ k:=s;omega));obtain ⟨e0,he1,he2⟩:=HHV2.out;exact bodyPost_ret (v:=.tuple #[.agg #[.slice dg.a1 dg.l1 dg.c1,.slice dg.a2 dg.l2 dg.c2,.slice dg.a3 dg.l3 dg.c3,.slice dg.a4 dg.l4 dg.c4,.slice dg.a5 dg.l5 dg.c5,.int .i64 o.c.now,.string p.n,.int .i64 p.c,.string p.z,.slice pa pl pc,.string p.d,.int .i64 p.p,.string n.n,.string n.z,.int .i64 n.c,.int .i64 n.s,.int .i64 n.u,.bool n.d,.slice na nl nc],rr]) (results_cell_tmp rfl _ _ (w.heap.size + 1) _ _ _ _ _ rfl rfl (setRow_heap _ (w.heap.size + 1) _ #[.slice dg.a1 dg.l1 dg.c1,.slice dg.a2 dg.l2 dg.c2,.slice dg.a3 dg.l3 dg.c3,.slice dg.a4 dg.l4 dg.c4,.slice dg.a5 dg.l5 dg.c5,.int .i64 o.c.now,.string p.n,.int .i64 p.c,.string p.z,.slice pa pl pc,.string p.d,.int .i64 p.p,.string n.n,.string n.z,.int .i64 n.c,.int .i64 n.s,.int .i64 n.u,.bool n.d,.slice na nl nc] _ _ BR8.out) Tryz.underlying76 rfl bG) rfl ⟨dg,o.c,e0,rr,rfl,⟨_,x,HX.out,HXN.out,.inr ⟨HXV.out,_,k,o,HK.out,HKN.out,HBI.out,rfl,he2⟩⟩,he1,HOF.out.row,.inr (HOF.out.bs (fun k _ s => by have s2 : w3.heap.size ≤ k:=s;show w.heap.size ≤ k;omega)),below_setRow (below_setRow HB.out (Nat.le_refl _) _) af _⟩

theorem qx (d : Ad) (c : Cl) (x : Pd) (va : Option Addr) (vl vc : Nat) (w : World) (hr : aM w d c.raw) (hs : Sm c) (hx : ay w va vl vc x.zs) (hvl : vl ≤ 8001) (z0 : x.n.size ≤ 9223372036854775807) (z2 : x.z.size ≤ 9223372036854775807) (z4 : x.d.size ≤ 9223372036854775807) :
  Calls Tryz.prog 79 #[.agg #[.slice d.a1 d.l1 d.c1,.slice d.a2 d.l2 d.c2,.slice d.a3 d.l3 d.c3,.slice d.a4 d.l4 d.c4,.slice d.a5 d.l5 d.c5,.int .i64 c.now],.agg #[.string x.n,.int .i64 x.c,.string x.z,.slice va vl vc,.string x.d,.int .i64 x.p]] w fun e w' => ∃ d',e = .returned (.agg #[.slice d'.a1 d'.l1 d'.c1,.slice d'.a2 d'.l2 d'.c2,.slice d'.a3 d'.l3 d'.c3,.slice d'.a4 d'.l4 d'.c4,.slice d'.a5 d'.l5 d'.c5,.int .i64 c.now]) ∧ cf w' d' (lK c x).raw (fun k => w.heap.size ≤ k) ∧ Below w.heap.size w w':=by
 have HR:=ae hr;have HS:=ae hs;have HX:=ae hx;have HB:=ae (Below.refl w.heap.size w);clear hr hs hx;go_enter Tryz.func79,Tryz.ntmps79;go_wp2_with fail;refine (kC d c _ (HR.out.below (HB.out.trans ((br _ _ _ _).mono HB.out.size))) HS.out).mono ?_;rintro e w1 ⟨d',rfl,ho,hb⟩;have HQ2:=ae hb.size;simp only [df] at HQ2 ho;obtain ⟨HA0,HA1,HA2,hbx⟩:=lz hb;have Bk:=ae HA0;have Bp:=ae HA1;have Br:=ae HA2;replace HB:=upB HB hbx;clear hb hbx HA0 HA1 HA2;obtain ⟨P,hP⟩:=ho;have HP:=ae hP;have hq2 : w.heap.size + 1 + 1 + 1 ≤ w1.heap.size:=HQ2.out;clear hP;obtain ⟨p0,p1,p2,p3,p4,p5⟩:=cs6 Bp.out;have ltp_1:=aa Bp.out;have h5:=(HP.out.p.bs (S':=(fun k => (w.heap.size + 1 + 1 + 1 ≤ k ∧ P k = 5) ∧ k < w1.heap.size)) (fun k hk s => ⟨s,hk⟩)).below (an w1 (.cells #[.slice d'.a1 d'.l1 d'.c1,.slice d'.a2 d'.l2 d'.c2,.slice d'.a3 d'.l3 d'.c3,.slice d'.a4 d'.l4 d'.c4,.slice d'.a5 d'.l5 d'.c5,.int .i64 c.now] 37));have hlen : d'.l5 ≤ 8:=by have h6:=HP.out.p.1;have h7 : (c.ps.map pdF).length = d'.l5:=h6;rw [List.length_map] at h7;have:=HS.out.p;omega
 have hbo : Below w1.heap.size w1 (w1.alloc (.cells #[.slice d'.a1 d'.l1 d'.c1,.slice d'.a2 d'.l2 d'.c2,.slice d'.a3 d'.l3 d'.c3,.slice d'.a4 d'.l4 d'.c4,.slice d'.a5 d'.l5 d'.c5,.int .i64 c.now] 37)):=an w1 (.cells #[.slice d'.a1 d'.l1 d'.c1,.slice d'.a2 d'.l2 d'.c2,.slice d'.a3 d'.l3 d'.c3,.slice d'.a4 d'.l4 d'.c4,.slice d'.a5 d'.l5 d'.c5,.int .i64 c.now] 37);have hpk:=aa Bp.out;have hc1 : Calls Tryz.prog 130 #[.slice d'.a5 d'.l5 d'.c5,.string x.n] (w1.alloc (.cells #[.slice d'.a1 d'.l1 d'.c1,.slice d'.a2 d'.l2 d'.c2,.slice d'.a3 d'.l3 d'.c3,.slice d'.a4 d'.l4 d'.c4,.slice d'.a5 d'.l5 d'.c5,.int .i64 c.now] 37)).drew fun e W => ∃ a2 l2 c2,e = .returned (.slice a2 l2 c2) ∧ Hid (aB W a2 l2 c2 6 65 ((wo Pd.n x.n c.ps).map pdF) (fun k => (fun k => (w.heap.size + 1 + 1 + 1 ≤ k ∧ P k = 5) ∧ k < w1.heap.size) k ∨ w1.heap.size + 1 ≤ k)) ∧ Hid (Below (w1.alloc (.cells #[.slice d'.a1 d'.l1 d'.c1,.slice d'.a2 d'.l2 d'.c2,.slice d'.a3 d'.l3 d'.c3,.slice d'.a4 d'.l4 d'.c4,.slice d'.a5 d'.l5 d'.c5,.int .i64 c.now] 37)).heap.size (w1.alloc (.cells #[.slice d'.a1 d'.l1 d'.c1,.slice d'.a2 d'.l2 d'.c2,.slice d'.a3 d'.l3 d'.c3,.slice d'.a4 d'.l4 d'.c4,.slice d'.a5 d'.l5 d'.c5,.int .i64 c.now] 37)) W) ∧ Hid (W.heap[w.heap.size + 1]? = some (.cells #[.string x.n,.int .i64 x.c,.string x.z,.slice va vl vc,.string x.d,.int .i64 x.p] 65 (0,0))) ∧ Hid (W.heap[w1.heap.size]? = some (.cells #[.slice d'.a1 d'.l1 d'.c1,.slice d'.a2 d'.l2 d'.c2,.slice d'.a3 d'.l3 d'.c3,.slice d'.a4 d'.l4 d'.c4,.slice d'.a5 d'.l5 d'.c5,.int .i64 c.now] 37 (0,0))) ∧ Hid (W.heap[w.heap.size + 1 + 1]? = some (.cells #[.slice none 0 0,.slice none 0 0,.slice none 0 0,.slice none 0 0,.slice none 0 0,.int .i64 0] 37 (0,0))):=by
  refine (sE d'.a5 d'.l5 d'.c5 c.ps x.n (fun k => (w.heap.size + 1 + 1 + 1 ≤ k ∧ P k = 5) ∧ k < w1.heap.size) (w1.alloc (.cells #[.slice d'.a1 d'.l1 d'.c1,.slice d'.a2 d'.l2 d'.c2,.slice d'.a3 d'.l3 d'.c3,.slice d'.a4 d'.l4 d'.c4,.slice d'.a5 d'.l5 d'.c5,.int .i64 c.now] 37)).drew (h5.aH (fun _ _ _ => rfl) (fun _ _ s => s)) hlen).mono ?_;rintro e W ⟨a2,l2,c2,rfl,hN,hb⟩;have hb' : Below (w1.alloc (.cells #[.slice d'.a1 d'.l1 d'.c1,.slice d'.a2 d'.l2 d'.c2,.slice d'.a3 d'.l3 d'.c3,.slice d'.a4 d'.l4 d'.c4,.slice d'.a5 d'.l5 d'.c5,.int .i64 c.now] 37)).heap.size (w1.alloc (.cells #[.slice d'.a1 d'.l1 d'.c1,.slice d'.a2 d'.l2 d'.c2,.slice d'.a3 d'.l3 d'.c3,.slice d'.a4 d'.l4 d'.c4,.slice d'.a5 d'.l5 d'.c5,.int .i64 c.now] 37)) W:=⟨hb.os,hb.tape,hb.output,hb.size,hb.block⟩;have hN':=hN.bs (S':=fun k => (fun k => (w.heap.size + 1 + 1 + 1 ≤ k ∧ P k = 5) ∧ k < w1.heap.size) k ∨ w1.heap.size + 1 ≤ k) (fun k _ s => s.imp id (fun q => by have q1 : (w1.alloc (.cells #[.slice d'.a1 d'.l1 d'.c1,.slice d'.a2 d'.l2 d'.c2,.slice d'.a3 d'.l3 d'.c3,.slice d'.a4 d'.l4 d'.c4,.slice d'.a5 d'.l5 d'.c5,.int .i64 c.now] 37)).drew.heap.size ≤ k:=q;simpa using q1));exact ⟨a2,l2,c2,rfl,hN',hb',(hb'.block _ bF).trans ((hbo.block _ hpk).trans Bp.out),(hb'.block _ aN).trans (heap_alloc_new w1 (.cells #[.slice d'.a1 d'.l1 d'.c1,.slice d'.a2 d'.l2 d'.c2,.slice d'.a3 d'.l3 d'.c3,.slice d'.a4 d'.l4 d'.c4,.slice d'.a5 d'.l5 d'.c5,.int .i64 c.now] 37)),(hb'.block _ bF).trans ((hbo.block _ af).trans Br.out)⟩
 have hc2 : ∀ W,Below (w1.alloc (.cells #[.slice d'.a1 d'.l1 d'.c1,.slice d'.a2 d'.l2 d'.c2,.slice d'.a3 d'.l3 d'.c3,.slice d'.a4 d'.l4 d'.c4,.slice d'.a5 d'.l5 d'.c5,.int .i64 c.now] 37)).heap.size (w1.alloc (.cells #[.slice d'.a1 d'.l1 d'.c1,.slice d'.a2 d'.l2 d'.c2,.slice d'.a3 d'.l3 d'.c3,.slice d'.a4 d'.l4 d'.c4,.slice d'.a5 d'.l5 d'.c5,.int .i64 c.now] 37)) W → Hid (W.heap[w.heap.size + 1]? = some (.cells #[.string x.n,.int .i64 x.c,.string x.z,.slice va vl vc,.string x.d,.int .i64 x.p] 65 (0,0))) ∧ Hid (W.heap[w1.heap.size]? = some (.cells #[.slice d'.a1 d'.l1 d'.c1,.slice d'.a2 d'.l2 d'.c2,.slice d'.a3 d'.l3 d'.c3,.slice d'.a4 d'.l4 d'.c4,.slice d'.a5 d'.l5 d'.c5,.int .i64 c.now] 37 (0,0))) ∧ Hid (W.heap[w.heap.size + 1 + 1]? = some (.cells #[.slice none 0 0,.slice none 0 0,.slice none 0 0,.slice none 0 0,.slice none 0 0,.int .i64 0] 37 (0,0))) → Calls Tryz.prog 96 #[.agg #[.string x.n,.int .i64 x.c,.string x.z,.slice va vl vc,.string x.d,.int .i64 x.p]] W fun e W3 => ∃ a3 l3 c3,e = .returned (.agg #[.string x.n,.int .i64 x.c,.string x.z,.slice a3 l3 c3,.string x.d,.int .i64 x.p]) ∧ Hid (bV W3 a3 l3 c3 x.zs (fun k => W.heap.size ≤ k)) ∧ Hid (Below W.heap.size W W3) ∧ Hid (W3.heap[w.heap.size + 1]? = some (.cells #[.string x.n,.int .i64 x.c,.string x.z,.slice va vl vc,.string x.d,.int .i64 x.p] 65 (0,0))) ∧ Hid (W3.heap[w1.heap.size]? = some (.cells #[.slice d'.a1 d'.l1 d'.c1,.slice d'.a2 d'.l2 d'.c2,.slice d'.a3 d'.l3 d'.c3,.slice d'.a4 d'.l4 d'.c4,.slice d'.a5 d'.l5 d'.c5,.int .i64 c.now] 37 (0,0))) ∧ Hid (W3.heap[w.heap.size + 1 + 1]? = some (.cells #[.slice none 0 0,.slice none 0 0,.slice none 0 0,.slice none 0 0,.slice none 0 0,.int .i64 0] 37 (0,0))):=fun W hb hkp => by
  refine (jo x va vl vc W (HX.out.below (HB.out.trans ((hbo.trans (hb.mono aN)).mono HB.out.size))) hvl).mono ?_;rintro e W3 ⟨a3,l3,c3,rfl,hO,hb3⟩;exact ⟨a3,l3,c3,rfl,hO,hb3,(hb3.block _ (aa hkp.1.out)).trans hkp.1.out,(hb3.block _ (aa hkp.2.1.out)).trans hkp.2.1.out,(hb3.block _ (aa hkp.2.2.out)).trans hkp.2.2.out⟩
 have hc3 : ∀ (W W3 : World) a2 l2 c2 a3 l3 c3,Below (w1.alloc (.cells #[.slice d'.a1 d'.l1 d'.c1,.slice d'.a2 d'.l2 d'.c2,.slice d'.a3 d'.l3 d'.c3,.slice d'.a4 d'.l4 d'.c4,.slice d'.a5 d'.l5 d'.c5,.int .i64 c.now] 37)).heap.size (w1.alloc (.cells #[.slice d'.a1 d'.l1 d'.c1,.slice d'.a2 d'.l2 d'.c2,.slice d'.a3 d'.l3 d'.c3,.slice d'.a4 d'.l4 d'.c4,.slice d'.a5 d'.l5 d'.c5,.int .i64 c.now] 37)) W → aB W a2 l2 c2 6 65 ((wo Pd.n x.n c.ps).map pdF) (fun k => (fun k => (w.heap.size + 1 + 1 + 1 ≤ k ∧ P k = 5) ∧ k < w1.heap.size) k ∨ w1.heap.size + 1 ≤ k) → Below W.heap.size W W3 → bV W3 a3 l3 c3 x.zs (fun k => W.heap.size ≤ k) → Hid (W3.heap[w.heap.size + 1]? = some (.cells #[.string x.n,.int .i64 x.c,.string x.z,.slice va vl vc,.string x.d,.int .i64 x.p] 65 (0,0))) ∧ Hid (W3.heap[w1.heap.size]? = some (.cells #[.slice d'.a1 d'.l1 d'.c1,.slice d'.a2 d'.l2 d'.c2,.slice d'.a3 d'.l3 d'.c3,.slice d'.a4 d'.l4 d'.c4,.slice d'.a5 d'.l5 d'.c5,.int .i64 c.now] 37 (0,0))) ∧ Hid (W3.heap[w.heap.size + 1 + 1]? = some (.cells #[.slice none 0 0,.slice none 0 0,.slice none 0 0,.slice none 0 0,.slice none 0 0,.int .i64 0] 37 (0,0))) → Calls Tryz.prog 131 #[.slice a2 l2 c2,.agg #[.string x.n,.int .i64 x.c,.string x.z,.slice a3 l3 c3,.string x.d,.int .i64 x.p]] W3 fun e W4 => ∃ a4 l4 c4,e = .returned (.slice a4 l4 c4) ∧ Hid (aB W4 a4 l4 c4 6 65 ((lK c x).ps.map pdF) (fun k => (fun k => (w.heap.size + 1 + 1 + 1 ≤ k ∧ P k = 5) ∧ k < w1.heap.size) k ∨ w1.heap.size + 1 ≤ k)) ∧ Hid (Below w1.heap.size w1 W4) ∧ Hid (W4.heap[w.heap.size + 1]? = some (.cells #[.string x.n,.int .i64 x.c,.string x.z,.slice va vl vc,.string x.d,.int .i64 x.p] 65 (0,0))) ∧ Hid (W4.heap[w1.heap.size]? = some (.cells #[.slice d'.a1 d'.l1 d'.c1,.slice d'.a2 d'.l2 d'.c2,.slice d'.a3 d'.l3 d'.c3,.slice d'.a4 d'.l4 d'.c4,.slice d'.a5 d'.l5 d'.c5,.int .i64 c.now] 37 (0,0))) ∧ Hid (W4.heap[w.heap.size + 1 + 1]? = some (.cells #[.slice none 0 0,.slice none 0 0,.slice none 0 0,.slice none 0 0,.slice none 0 0,.int .i64 0] 37 (0,0))):=fun W W3 a2 l2 c2 a3 l3 c3 hb hO2 hb3 hO3 hkp => by
  obtain ⟨g,hg⟩:=hO3.fr;have hr2:=(hO2.bs (S':=fun k => ((fun k => (w.heap.size + 1 + 1 + 1 ≤ k ∧ P k = 5) ∧ k < w1.heap.size) k ∨ w1.heap.size + 1 ≤ k) ∧ k < W.heap.size) (fun k hk s => ⟨s,hk⟩)).below hb3;have hl2 : l2 ≤ 8:=by have h6:=hO2.1;rw [List.length_map] at h6;have h7:=iF Pd.n x.n c.ps;have:=HS.out.p;omega
  have hs1:=hb.size;simp only [df] at hs1;refine (oy a2 l2 c2 (wo Pd.n x.n c.ps) x a3 l3 c3 g _ (fun k => W.heap.size ≤ k) W3 hr2 hl2 (fun i f hf => by rcases i with _ | _ | _ | _ | _ | _ | i <;> simp [pdF] at hf <;> subst hf;exact ⟨_,rfl,rfl,z0⟩;exact ⟨_,rfl,rfl⟩;exact ⟨_,rfl,rfl,z2⟩;exact ⟨_,rfl,hg⟩;exact ⟨_,rfl,rfl,z4⟩;exact ⟨_,rfl,rfl⟩) (fun k q1 q2 => by have q3:=q1.2;have q4 : W.heap.size ≤ k:=q2;omega)).mono ?_;rintro e W4 ⟨a4,l4,c4,rfl,hN,hb4⟩;have hs3:=hb3.size;have hb14 : Below w1.heap.size w1 W4:=(hbo.trans (hb.mono aN)).trans ((hb3.mono af).trans (hb4.mono af));have hN':=hN.bs (S':=fun k => (fun k => (w.heap.size + 1 + 1 + 1 ≤ k ∧ P k = 5) ∧ k < w1.heap.size) k ∨ w1.heap.size + 1 ≤ k) (fun k _ s => by
   rcases s with (s | s) | s
   ·exact s.1
   ·have s1 : W.heap.size ≤ k:=s;exact .inr af
   ·have s1 : W3.heap.size ≤ k:=s;exact .inr af)
  exact ⟨a4,l4,c4,rfl,hN',hb14,(hb4.block _ (aa hkp.1.out)).trans hkp.1.out,(hb4.block _ (aa hkp.2.1.out)).trans hkp.2.1.out,(hb4.block _ (aa hkp.2.2.out)).trans hkp.2.2.out⟩
 have C1:=ae hc1;have C2:=ae hc2;have C3:=ae hc3;clear hc1 hc2 hc3 h5 HX;have mixed : Tryz.prog.follows .mixedOrders = true:=aae
 go_wp2;go_region_with (first
  | (go_at_call 130;refine C1.out.mono ?_;rintro e w2 ⟨a2,l2,c2,rfl,HO2,HB2,HKP2⟩;obtain ⟨p0,p1,p2,p3,p4,p5⟩:=cs6 HKP2.1.out)
  | (go_at_call 96;refine (C2.out w2 HB2.out HKP2).mono ?_;rintro e w3 ⟨a3,l3,c3,rfl,HO3,HB3,HKP3⟩)
  | (go_at_call 131;refine (C3.out w2 w3 a2 l2 c2 a3 l3 c3 HB2.out HO2.out HB3.out HO3.out HKP3).mono ?_;rintro e w4 ⟨a4,l4,c4,rfl,HO4,HB4,HKP4⟩;obtain ⟨o0,o1,o2,o3,o4,o5⟩:=cs6 HKP4.2.1.out;have hol:=aa HKP4.2.1.out;have fo4:=au HKP4.2.1.out 4))
 all_goals (
  obtain ⟨r0,r1,r2,r3,r4,r5⟩:=cs6 HKP4.2.2.out;have fr0:=au HKP4.2.2.out 0;have fr1:=au HKP4.2.2.out 1;have fr2:=au HKP4.2.2.out 2;have fr3:=au HKP4.2.2.out 3;have fr4:=au HKP4.2.2.out 4;have fr5:=au HKP4.2.2.out 5;have hrl:=aa HKP4.2.2.out
  have hne : ¬ w.heap.size + 1 + 1 = w1.heap.size:=aaa
  have hne2 : ¬ w1.heap.size = w.heap.size + 1 + 1:=aaa
  go_wp2
  refine bodyPost_ret (v:=.agg #[.slice d'.a1 d'.l1 d'.c1,.slice d'.a2 d'.l2 d'.c2,.slice d'.a3 d'.l3 d'.c3,.slice d'.a4 d'.l4 d'.c4,.slice a4 l4 c4,.int .i64 c.now]) (by simp [results,Tryz.results79,go_sem, *]) rfl ⟨⟨d'.a1,d'.l1,d'.c1,d'.a2,d'.l2,d'.c2,d'.a3,d'.l3,d'.c3,d'.a4,d'.l4,d'.c4,a4,l4,c4⟩,rfl,?_,sb2 (sb2 (sb2 (sb2 (sb2 (sb2 (ag (show w.heap.size ≤ w1.heap.size by omega) (HB.out.trans (HB4.out.mono HB.out.size))))))))⟩;have h9:=HP.out.DL hq2 HO4.out HB4.out (w4:=(((((((w4.setCell ⟨w1.heap.size,4,none⟩ (.slice a4 l4 c4)).setCell ⟨w.heap.size + 1 + 1,0,none⟩ (.slice d'.a1 d'.l1 d'.c1)).setCell ⟨w.heap.size + 1 + 1,1,none⟩ (.slice d'.a2 d'.l2 d'.c2)).setCell ⟨w.heap.size + 1 + 1,2,none⟩ (.slice d'.a3 d'.l3 d'.c3)).setCell ⟨w.heap.size + 1 + 1,3,none⟩ (.slice d'.a4 d'.l4 d'.c4)).setCell ⟨w.heap.size + 1 + 1,4,none⟩ (.slice a4 l4 c4)).setCell ⟨w.heap.size + 1 + 1,5,none⟩ (.int .i64 c.now))) (fun k h1 h2 => by rw [Below.heap_setCell _ _ _ _ (show k ≠ w.heap.size + 1 + 1 by omega),Below.heap_setCell _ _ _ _ (show k ≠ w.heap.size + 1 + 1 by omega),Below.heap_setCell _ _ _ _ (show k ≠ w.heap.size + 1 + 1 by omega),Below.heap_setCell _ _ _ _ (show k ≠ w.heap.size + 1 + 1 by omega),Below.heap_setCell _ _ _ _ (show k ≠ w.heap.size + 1 + 1 by omega),Below.heap_setCell _ _ _ _ (show k ≠ w.heap.size + 1 + 1 by omega),Below.heap_setCell _ _ _ _ (show k ≠ w1.heap.size by omega)])
  exact h9.bs (fun k _ s => by have s1 : w.heap.size + 1 + 1 + 1 ≤ k:=s;show w.heap.size ≤ k;omega))

end Rc
end Go.Proofs.YtdoldaceehdifaaGreatDoor

namespace Go.Proofs.YtdoldaceehdifaaGreatDoor
open Go.RowKit
namespace Gv

def nx (P : Program) (ops : Array Oper) (Q : Exit → Act → World → Prop) (o : Oper) (a : Act) (w : World) (C : Act → World → Prop) : Prop :=
 ∀ K : Act → World → Prop,(∀ a w,C a w → K a w) → if Region.wanted o (yielded ops a.tmps) = true then o.wp P a w K Q else K (a.put o.dst undef) w
def qU (P : Program) (ops : Array Oper) (Q : Exit → Act → World → Prop) (W : World) (a0 : Act) (s u t : Oper) (known : List (Tmp × Fact)) : Prop :=
 ∀ (x : Tmp → Value) (w : World),Below W.heap.size W w → (∀ p ∈ known,p.2 (x p.1) w) → nx P ops Q s (aE a0 known x) w fun a1 w1 => nx P ops Q u a1 w1 fun a2 w2 => nx P ops Q t a2 w2 fun a w => Q .normal a w
def aw (P : Program) (ops : Array Oper) (Q : Exit → Act → World → Prop) (W : World) (a0 : Act) (s u t : Oper) : List Oper → List (Tmp × Fact) → Prop
 | [],known => (∃ φ : Fact,φ.bw ∧ Obl P ops Q W a0 known u φ ∧ Gu.Fin P ops Q W a0 s t (kn u.dst φ known)) ∧ qU P ops Q W a0 s u t known
 | o :: rest,known => ∃ φ : Fact,φ.bw ∧ Obl P ops Q W a0 known o φ ∧ aw P ops Q W a0 s u t rest (kn o.dst φ known)
section
variable {P : Program} {ops : Array Oper} {Q : Exit → Act → World → Prop} {W : World} {a0 : Act} {s u t : Oper}
theorem aw.step {o : Oper} {rest : List Oper} {known : List (Tmp × Fact)} {d : Tmp} (φ : Fact) (hd : o.dst = some d) (hφ : φ.bw) (ho : Obl P ops Q W a0 known o φ)
  (h : aw P ops Q W a0 s u t rest ((d,φ) :: known)) : aw P ops Q W a0 s u t (o :: rest) known:=⟨φ,hφ,ho,(by rw [hd];exact h)⟩
theorem aw.aq {o : Oper} {rest : List Oper} {known : List (Tmp × Fact)} {d : Tmp} (c : Value) (hd : o.dst = some d) (ho : Obl P ops Q W a0 known o (fun v _ => v = c))
  (h : aw P ops Q W a0 s u t rest ((d,fun v _ => v = c) :: known)) : aw P ops Q W a0 s u t (o :: rest) known:=aw.step _ hd (Fact.bR c) ho h
theorem aw.late {known : List (Tmp × Fact)} {d : Tmp} (φ : Fact) (hd : u.dst = some d) (hφ : φ.bw) (ho : Obl P ops Q W a0 known u φ) (h : Gu.Fin P ops Q W a0 s t ((d,φ) :: known)) (hl : qU P ops Q W a0 s u t known) : aw P ops Q W a0 s u t [] known:=⟨⟨φ,hφ,ho,by rw [hd];exact h⟩,hl⟩
theorem aw.spec : ∀ (l : List Oper) (known : List (Tmp × Fact)),aw P ops Q W a0 s u t l known → ∃ φs : List Fact,φs.length = l.length + 1 ∧
  (∀ (i : Nat) (o : Oper) (φ : Fact),(l ++ [u])[i]? = some o → φs[i]? = some φ → φ.bw ∧ Obl P ops Q W a0 (knAll known ((l ++ [u]).take i) (φs.take i)) o φ) ∧ Gu.Fin P ops Q W a0 s t (knAll known (l ++ [u]) φs) ∧ qU P ops Q W a0 s u t (knAll known l (φs.take l.length))
 | [],known,h => by
  obtain ⟨⟨φ,hφ,ho,hf⟩,hl⟩:=h;refine ⟨[φ],rfl,fun i o φ' h1 h2 => ?_,hf,by rw [bT];exact hl⟩
  cases i with
  | zero =>
   simp only [List.nil_append,List.getElem?_cons_zero,Option.some.injEq] at h1 h2;subst h1;subst h2;exact ⟨hφ,ho⟩
  | succ i => simp at h2
 | o :: l,known,h => by
  obtain ⟨φ,hφ,ho,hr⟩:=h;obtain ⟨φs,hl,hs,hf,hll⟩:=aw.spec l _ hr;refine ⟨φ :: φs,by simp [hl],?_,hf,by simpa [knAll] using hll⟩;intro i o' φ' h1 h2
  cases i with
  | zero =>
   simp only [List.cons_append,List.getElem?_cons_zero,Option.some.injEq] at h1 h2;subst h1;subst h2;exact ⟨hφ,ho⟩
  | succ i =>
   simp only [List.cons_append,List.getElem?_cons_succ] at h1 h2
   simpa [knAll] using hs i o' φ' h1 h2
def growB (n : Nat) (front : List Oper) (m : Nat) (s t : Oper) : Bool :=
 let ops:=(front ++ [s,t]).toArray
 decide ((front.filterMap (·.dst)).Nodup) && front.all (fun o => match o.dst with | some d => decide (d < n) | none => true) &&
 (List.range front.length).all (fun j => match front[j]? with
  | some o => (o.looksAt ops).all (fun d => (List.range front.length).all fun i => match front[i]? with
    | some p => p.dst != some d || (decide (i < j) && o.after.any fun e => e.on == i && Region.binds .any e)
    | none => true)
  | none => true) &&
 (List.range ops.size).all (fun j => match ops[j]? with | some o => o.after.all (fun e => !Region.binds .any e || decide (e.on < j)) | none => true) &&
 (List.range m).all (fun i => Gu.waits front i 12 s.after) && t.after.any (fun e => Region.binds .any e && e.on == front.length) && t.after.any (fun e => Region.binds .any e && e.on == m) && decide (m + 1 = front.length)
theorem ct {n m : Nat} {front : List Oper} (h : growB n front m s t = true) :
  (front.filterMap (·.dst)).Nodup ∧ (∀ o ∈ front,∀ d,o.dst = some d → d < n) ∧
  (∀ (j : Nat) (o : Oper),front[j]? = some o → ∀ d ∈ o.looksAt (front ++ [s,t]).toArray,∀ (i : Nat) (p : Oper),front[i]? = some p → p.dst = some d → i < j ∧ ∃ e ∈ o.after,e.on = i ∧ Region.binds .any e = true) ∧
  (∀ (j : Nat) o,(front ++ [s,t]).toArray[j]? = some o → ∀ e ∈ o.after,Region.binds .any e = true → e.on < j) ∧
  (∀ i,i < m → Gu.waits front i 12 s.after = true) ∧ (∃ e ∈ t.after,Region.binds .any e = true ∧ e.on = front.length) ∧ (∃ e ∈ t.after,Region.binds .any e = true ∧ e.on = m) ∧ m + 1 = front.length:=by
 unfold growB at h;simp only [Bool.and_eq_true,decide_eq_true_eq] at h;obtain ⟨⟨⟨⟨⟨⟨⟨h1,h2⟩,h3⟩,h4⟩,h5⟩,h6⟩,h7⟩,h8⟩:=h;refine ⟨h1,?_,?_,?_,?_,?_,?_,h8⟩
 ·intro o ho d hd;have:=List.all_eq_true.1 h2 o ho;rw [hd] at this;simpa using this
 ·exact acG
 ·exact aca
 ·intro i hi;exact List.all_eq_true.1 h5 i (List.mem_range.2 hi)
 ·obtain ⟨k,hk,hx⟩:=Array.any_eq_true.1 h6;exact lI
 ·obtain ⟨k,hk,hx⟩:=Array.any_eq_true.1 h7;exact lI
theorem tk {α : Type} {l : List α} {k j : Nat} {u : α} (h : (l.take k)[j]? = some u) : l[j]? = some u:=by
 rw [List.getElem?_take] at h;split at h
 ·exact h
 ·cases h
theorem qU.last {front : List Oper} {φs : List Fact} {listed : Array Bool} {a : Act} {w : World} (hf : qU P ops Q W a0 s u t (knAll [] front φs)) (hlen : φs.length = front.length) (hin : ∀ o ∈ front,∀ d,o.dst = some d → d < a0.tmps.size)
  (h : At front φs W a0 listed a w) (hall : ∀ i,i < front.length → listed.getD i false = true) : nx P ops Q s a w fun a1 w1 => nx P ops Q u a1 w1 fun a2 w2 => nx P ops Q t a2 w2 fun a w => Q .normal a w:=by
 exact acv
theorem nV {n fuel : Nat} {listed : Array Bool} {a : Act} {w : World} (hsz : ops.size = n + 1) (hot : ops[n]? = some t) (hlt : ∀ (j : Nat) o,ops[j]? = some o → ∀ e ∈ o.after,Region.binds .any e = true → e.on < j) (hz : listed.size = ops.size) (hc : listed.toList.count false ≤ fuel) (hl : ∀ i,i < n → listed.getD i false = true) (hu : listed.getD n false = false) (ht : nx P ops Q t a w fun a w => Q .normal a w) : wpAny P .any ops Q fuel listed a w:=by
 cases fuel with
 | zero =>
  have h9:=di (by omega : listed.toList.count false = 0) n af;rw [hu] at h9
  cases h9
 | succ fuel =>
  refine ⟨fun hr => ?_,fun i hi => ?_⟩
  ·have h9:=Gs.eo hz hlt hr n af;rw [hu] at h9
   cases h9
  ·obtain ⟨hun2,o2,ho2,-⟩:=mem_ready.1 hi;have his : i < ops.size:=(Array.getElem?_eq_some_iff.1 ho2).1
   have hie : i = n:=Classical.byContradiction fun e => by
    have h9:=hl i af;rw [bL af] at h9;rw [h9] at hun2
    cases hun2
   subst hie;obtain rfl : t = o2:=Option.some.inj (hot.symm.trans ho2);refine Gu.oN ho2 (ht _ (fun a3 w3 hq => Gu.zO g8 (fun k hk => ?_) hq))
   by_cases e : i = k
   ·subst e
    simp [Array.getD_eq_getD_getElem?,show i < listed.size from by omega]
   ·exact Gs.tK (hl k af)
theorem bZ {front : List Oper} {φs : List Fact} (hops : ops = (front ++ [s,t]).toArray) {m : Nat} {u : Oper} (hB : growB a0.tmps.size front m s t = true) (hou : front[m]? = some u) (hlen : φs.length = front.length)
  (hs : ∀ (i : Nat) (o : Oper) (φ : Fact),front[i]? = some o → φs[i]? = some φ → φ.bw ∧ Obl P ops Q W a0 (knAll [] (front.take i) (φs.take i)) o φ) (hf : Gu.Fin P ops Q W a0 s t (knAll [] front φs)) (hl : qU P ops Q W a0 s u t (knAll [] (front.take m) (φs.take m))) :
  ∀ (fuel : Nat) (listed : Array Bool) (a : Act) (w : World),listed.size = ops.size → listed.toList.count false ≤ fuel → listed.getD front.length false = false → listed.getD (front.length + 1) false = false → Gt.Ac front φs W a0 listed a w → wpAny P .any ops Q fuel listed a w:=by
 obtain ⟨hn,hin,hdep,hlt,hwait,⟨e2,he2,hb2,hon2⟩,⟨e3,he3,hb3,hon3⟩,hm1⟩:=ct hB;rw [← hops] at hdep hlt;have hsz : ops.size = front.length + 2:=by rw [hops];simp
 have hos : ops[front.length]? = some s:=by rw [hops];simp
 have hot : ops[front.length + 1]? = some t:=by rw [hops];simp
 intro fuel;induction fuel with
 | zero =>
  intro listed a w hz hc hb hb' h;have h9:=di (by omega : listed.toList.count false = 0) front.length af;rw [hb] at h9
  cases h9
 | succ fuel ih =>
  intro listed a w hz hc hb hb' h;refine ⟨fun hr => ?_,fun j hj => ?_⟩
  ·have h9:=Gs.eo hz hlt hr front.length af;rw [hb] at h9
   cases h9
  obtain ⟨hun,o,ho,hall⟩:=mem_ready.1 hj;have hjs : j < ops.size:=(Array.getElem?_eq_some_iff.1 ho).1;have hcs:=count_set (listed:=listed) (i:=j) af hun
  by_cases hjf : j < front.length
  ·have hof : front[j]? = some o:=by rw [hops] at ho;simpa [List.getElem?_append_left hjf] using ho
   have hφ : φs[j]? = some (φs[j]'(by omega)):=List.getElem?_eq_getElem _;obtain ⟨hm,hob⟩:=hs j o _ hof hφ
   have hfacts : ∀ t ∈ o.looksAt ops,ai a0 (knAll [] (front.take j) (φs.take j)) a w t:=by
    intro t ht;unfold ai
    cases hk : (knAll [] (front.take j) (φs.take j)).lookup t with
    | some φ =>
     rcases bW _ _ _ hk with ⟨i,p,h1,h2,h3⟩ | h1
     ·have hij : i < j:=by have:=(List.getElem?_eq_some_iff.1 h1).1;simp at this;omega
      rw [List.getElem?_take,if_pos hij] at h1 h3;obtain ⟨-,e,he,hon,hbi⟩:=hdep j o hof t ht i p h1 h2;have hl:=hall e he hbi;rw [hon] at hl;exact h.old.known i p φ h1 h3 t h2 hl
     ·simp at h1
    | none =>
     refine h.old.other t (fun i p hp hd => ?_)
     exfalso
     obtain ⟨hij,-⟩:=hdep j o hof t ht i p hp hd;have hi:=(List.getElem?_eq_some_iff.1 hp).1;exact (bY _ _ _ hk).2 i p (φs[i]'(by omega)) mQ mU hd
   have hkeep : ∀ i,¬ j = i → listed.getD i false = false → (listed.setIfInBounds j true).getD i false = false:=fun i e h2 => by
    simpa [Array.getD_eq_getD_getElem?,Array.getElem?_setIfInBounds,e] using h2
   exact Gu.oN ho (hob a w _ h.old.size h.old.below hfacts (fun v w' hbw hv => ih _ _ _ g8 af (hkeep _ af hb) (hkeep _ af hb') ⟨h.old.step hn hin (fun i o φ h1 h2 => (hs i o φ h1 h2).1) hof hφ af hbw hv,fun j' o' ho' hl e he hbe => (by
     by_cases ej : j = j'
     ·subst ej;obtain rfl : o = o':=Option.some.inj (hof.symm.trans ho');exact Gs.tK (hall e he hbe)
     ·exact Gs.tK (h.cl j' o' ho' (Gs.sj ej hl) e he hbe))⟩))
  ·by_cases hj1 : j = front.length
   ·subst hj1;obtain rfl : s = o:=Option.some.inj (hos.symm.trans ho);have hfl : ∀ i,i < m → listed.getD i false = true:=fun i hi => Gu.iG h.cl 12 s.after (hwait i hi) (fun e he hbe => hall e he hbe)
    have hz2 : (listed.setIfInBounds front.length true).size = ops.size:=by simpa using hz
    have hu2 : (listed.setIfInBounds front.length true).getD (front.length + 1) false = false:=by
     have e : ¬ front.length = front.length + 1:=aaa
     simpa [Array.getD_eq_getD_getElem?,Array.getElem?_setIfInBounds,e] using hb'
    have hs2 : (listed.setIfInBounds front.length true).getD front.length false = true:=by
     simp [Array.getD_eq_getD_getElem?,show front.length < listed.size from by omega]
    cases hu : listed.getD m false with
    | true =>
     have hfa : ∀ i,i < front.length → listed.getD i false = true:=fun i hi => by
      by_cases e : i = m
      ·rw [e];exact hu
      ·exact hfl i af
     refine Gu.oN ho (Gu.Fin.last hf hlen hin h.old hfa _ (fun a' w' ht => ?_));refine nV (n:=front.length + 1) hsz hot hlt hz2 af (fun i hi => ?_) hu2 ht
     by_cases e : front.length = i
     ·rw [← e];exact hs2
     ·exact Gs.tK (hfa i af)
    | false =>
     have hAt : At (front.take m) (φs.take m) W a0 listed a w:=⟨h.old.size,h.old.defers,h.old.below,fun i o φ h1 h2 => h.old.known i o φ (tk h1) (tk h2),fun d hd => h.old.other d (fun i o h1 h2 => by
      by_cases e : i < m
      ·exact hd i o (by rw [List.getElem?_take,if_pos e];exact h1) h2
      ·have h9:=(List.getElem?_eq_some_iff.1 h1).1
       obtain rfl : i = m:=aaa
       exact hu)⟩
     refine Gu.oN ho (qU.last hl (by simp [List.length_take];omega) (fun o ho => hin o (List.mem_of_mem_take ho)) hAt (fun i hi => hfl i (by rw [List.length_take] at hi;omega)) _ (fun a' w' hnu => ?_))
     have hm2 : (listed.setIfInBounds front.length true).getD m false = false:=by
      have e : ¬ front.length = m:=aaa
      simpa [Array.getD_eq_getD_getElem?,Array.getElem?_setIfInBounds,e] using hu
     cases fuel with
     | zero =>
      have h9:=di (by omega : (listed.setIfInBounds front.length true).toList.count false = 0) m af;rw [hm2] at h9
      cases h9
     | succ fuel =>
      refine ⟨fun hr => ?_,fun i hi => ?_⟩
      ·have h9:=Gs.eo hz2 hlt hr m af;rw [hm2] at h9
       cases h9
      ·obtain ⟨hun2,o2,ho2,hall2⟩:=mem_ready.1 hi;have his : i < ops.size:=(Array.getElem?_eq_some_iff.1 ho2).1;have hcs2:=count_set (listed:=listed.setIfInBounds front.length true) (i:=i) af hun2
       have him : i = m:=Classical.byContradiction fun e => by
        by_cases e1 : i = front.length + 1
        ·subst e1;obtain rfl : t = o2:=Option.some.inj (hot.symm.trans ho2);have h9:=hall2 e3 he3 hb3;rw [hon3,hm2] at h9
         cases h9
        ·have h9 : (listed.setIfInBounds front.length true).getD i false = true:=by
          by_cases e2 : front.length = i
          ·rw [← e2];exact hs2
          ·exact Gs.tK (hfl i af)
         rw [bL af] at h9;rw [h9] at hun2
         cases hun2
       subst him
       have hou2 : ops[i]? = some u:=by rw [hops];simpa [List.getElem?_append_left (show i < front.length by omega)] using hou
       obtain rfl : u = o2:=Option.some.inj (hou2.symm.trans ho2);refine Gu.oN ho2 (hnu _ (fun a2 w2 ht => ?_));refine nV (n:=front.length + 1) hsz hot hlt (by simpa using hz2) af (fun k hk => ?_) ?_ ht
       ·by_cases e : i = k
        ·subst e
         simp [Array.getD_eq_getD_getElem?,show i < listed.size from by omega]
        ·refine Gs.tK ?_
         by_cases e2 : front.length = k
         ·rw [← e2];exact hs2
         ·exact Gs.tK (hfl k af)
       ·have e : ¬ i = front.length + 1:=aaa
        simpa [Array.getD_eq_getD_getElem?,Array.getElem?_setIfInBounds,e] using hu2
   ·obtain rfl : j = front.length + 1:=aaa
    obtain rfl : t = o:=Option.some.inj (hot.symm.trans ho);have h9:=hall e2 he2 hb2;rw [hon2,bL af] at h9;rw [bL af] at hb;rw [hb] at h9
    cases h9
end
theorem oj {P : Program} {id : Nat} {Q : Exit → Act → World → Prop} {a0 : Act} {W : World} {l : List Oper} {fr : List Oper} {u s t : Oper} (hm : P.follows .mixedOrders = true) (hfr : l.dropLast.dropLast.dropLast = fr) (huu : l.dropLast.dropLast.getLast? = some u) (hss : l.dropLast.getLast? = some s) (htt : l.getLast? = some t) (hB : growB a0.tmps.size (fr ++ [u]) fr.length s t = true)
  (h : aw P l.toArray Q W a0 s u t fr []) : (Code.region id l.toArray true).wp P Q a0 W:=by
 have hl : l = (fr ++ [u]) ++ [s,t]:=by
  obtain ⟨l',rfl⟩:=List.getLast?_eq_some_iff.1 htt;rw [List.dropLast_concat] at hfr hss huu;obtain ⟨l2,rfl⟩:=List.getLast?_eq_some_iff.1 hss;rw [List.dropLast_concat] at hfr huu;obtain ⟨l3,rfl⟩:=List.getLast?_eq_some_iff.1 huu;rw [List.dropLast_concat] at hfr;rw [← hfr];simp
 obtain ⟨φs,hlen,hs,hfi,hli⟩:=aw.spec _ _ h;refine wp_region_any hm (bZ (front:=fr ++ [u]) (m:=fr.length) (u:=u) (by rw [hl]) hB aN (by simp [hlen]) hs hfi (by simpa using hli) _ _ _ _ aN ?_ ?_ ?_ ⟨⟨rfl,rfl,(Below.refl _ _).drew,fun i o φ h1 h2 d hd hx => ?_,fun d _ => rfl⟩,fun j o h1 hx => ?_⟩)
 ·exact np
 ·exact a_ _ _
 ·exact a_ _ _
 ·rw [a_] at hx;cases hx
 ·rw [a_] at hx;cases hx
end Gv
end Go.Proofs.YtdoldaceehdifaaGreatDoor

namespace Go.Proofs.YtdoldaceehdifaaGreatDoor
open Go.RowKit
namespace Rc
open Mk

theorem gp.nil {hv : Value} {e : Int} (h : gp hv e) (h0 : e = 0) : hv = .nilIface:=by
 rcases h with ⟨h,_⟩ | ⟨h,_⟩
 ·exact h
 ·exact absurd h0 h
theorem gp.some {hv : Value} {e : Int} (h : gp hv e) (h0 : ¬ e = 0) : ∃ T v,hv = .iface T v:=by
 rcases h with ⟨_,h⟩ | ⟨_,⟨v,h,_⟩ | ⟨v,h,_⟩ | ⟨v,h,_⟩ | ⟨v,h,_⟩ | ⟨v,h,_⟩ | ⟨v,h,_⟩ | h | ⟨v,h,_⟩⟩
 ·exact absurd h h0
 all_goals exact ⟨_,_,h⟩
def kS (c : Cl) (p : Pd) (n : Nd) (e : Int) : Prop:=(iu c n ∧ e = 11) ∨ (¬ iu c n ∧ ((im p n ∧ e = 8) ∨ (¬ im p n ∧ ((lZ c p n ∧ e = 9) ∨ (¬ lZ c p n ∧ e = 0)))))
def yJ (c : Cl) (p : Pd) (n : Nd) (k : Nat) (hv : Value) (ck : Cl) : Prop:=(hv = .nilIface ∧ kS c p n 0 ∧ cO c n p.zs k ck) ∨ (∃ T v e0,hv = .iface T v ∧ gp hv e0 ∧ ¬ e0 = 0 ∧ (kS c p n e0 ∨ (kS c p n 0 ∧ oi c n p.zs ck e0)))
def jy (d : Ad) (c : Cl) (b : Nat) (w : World) (dk : Ad) (ck : Cl) : Prop:=(dk = d ∧ ck = c) ∨ cf w dk ck.raw (fun k => b ≤ k)

theorem jy.row {d : Ad} {c : Cl} {b : Nat} {w wr : World} {dk : Ad} {ck : Cl} (h : jy d c b wr dk ck) (hr : aM w d c.raw) (hb : Below w.heap.size w wr) : aM wr dk ck.raw:=by
 rcases h with ⟨rfl,rfl⟩ | h
 ·exact hr.below hb
 ·exact h.row
theorem jy.below {d : Ad} {c : Cl} {b : Nat} {w w' : World} {dk : Ad} {ck : Cl} (h : jy d c b w dk ck) (hb : Below w.heap.size w w') : jy d c b w' dk ck:=h.imp id (fun h => h.below hb)
theorem jy.set {d : Ad} {c : Cl} {b b' : Nat} {cs : Array Value} {w : World} {dk : Ad} {ck : Cl} (h : jy d c b w dk ck) (hb : b' < b) : jy d c b (w.setRow b' cs) dk ck:=h.imp id (fun h => h.kept fY (fun k s e => by have s2 : b ≤ k:=s;omega))
theorem yJ.next {c : Cl} {p : Pd} {n : Nd} {k : Nat} {ck c1 : Cl} {tt : ByteArray} {e1 : Int} {hv : Value} (h1 : kS c p n 0) (h2 : cO c n p.zs k ck) (hx : p.zs[k]? = some tt) (h3 : cW ck n tt c1 e1) (h4 : gp hv e1) : yJ c p n (k + 1) hv c1:=by
 by_cases e : e1 = 0
 ·subst e;exact .inl ⟨h4.nil rfl,h1,ck,tt,h2,hx,h3⟩
 ·obtain ⟨T,v,rfl⟩:=h4.some e;exact .inr ⟨T,v,e1,rfl,h4,e,.inr ⟨h1,.inr ⟨k,ck,tt,h2,hx,h3,e⟩⟩⟩
def Dh (_d : Ad) (c : Cl) (p : Pd) (n : Nd) (pa : Option Addr) (pl pc : Nat) (na : Option Addr) (nl nc : Nat) (i : Nat) (w : World) (e : Ending) (w' : World) : Prop:=∃ (d' : Ad) (c' c3 : Cl) (p' : Pd) (e0 : Int) (hv : Value),e = .returned (.tuple #[.agg #[.slice d'.a1 d'.l1 d'.c1,.slice d'.a2 d'.l2 d'.c2,.slice d'.a3 d'.l3 d'.c3,.slice d'.a4 d'.l4 d'.c4,.slice d'.a5 d'.l5 d'.c5,.int .i64 c3.now,.string p'.n,.int .i64 p'.c,.string p'.z,.slice pa pl pc,.string p'.d,.int .i64 p'.p,.string n.n,.string n.z,.int .i64 n.c,.int .i64 n.s,.int .i64 n.u,.bool n.d,.slice na nl nc],hv]) ∧ dK c i p n c' e0 ∧ gp hv e0 ∧ (e0 = 0 → c3 = c' ∧ cf w' d' c'.raw (fun k => w.heap.size ≤ k)) ∧ Below w.heap.size w w'
theorem dK.B8 {c c' : Cl} {i : Nat} {p : Pd} {n : Nd} {e : Int} (h : kS c p n e) (h0 : ¬ e = 0) : dK c i p n c' e:=by
 rcases h with ⟨a,b⟩ | ⟨a,⟨b,d⟩ | ⟨b,⟨d,f⟩ | ⟨_,f⟩⟩⟩
 ·exact .inl ⟨a,b⟩
 ·exact .inr ⟨a,.inl ⟨b,d⟩⟩
 ·exact .inr ⟨a,.inr ⟨b,.inl ⟨d,f⟩⟩⟩
 ·exact absurd f h0
theorem dK.xQ {c c1 c' : Cl} {i : Nat} {p : Pd} {n : Nd} {e1 e : Int} (h : kS c p n 0) (ha : oi c n p.zs c1 e1) (hz : (¬ e1 = 0 ∧ e = e1) ∨ (e1 = 0 ∧ ((fC c1 i p n ∧ e = 9) ∨ (¬ fC c1 i p n ∧ e = 0 ∧ c' = plC c1 i p n.n)))) : dK c i p n c' e:=by
 rcases h with ⟨a,b⟩ | ⟨a,⟨b,d⟩ | ⟨b,⟨d,f⟩ | ⟨d,_⟩⟩⟩
 ·exact absurd b al
 ·exact absurd d al
 ·exact absurd f al
 ·exact .inr ⟨a,.inr ⟨b,.inr ⟨d,c1,e1,ha,hz⟩⟩⟩
theorem nS {x : ByteArray} (h : aL x) : x.size ≤ 9223372036854775807:=by
 have:=h.2.1;omega
def HsG (cs : Array Value) : Fact:=fun v w => ∃ b,v = .slice (some ⟨b,0,none⟩) 1 1 ∧ w.heap[b]? = some (.cells cs 78 (0,0))
theorem HsG.mono (cs : Array Value) : Fact.bw (HsG cs):=by
 rintro v w w' ⟨b,h1,h2⟩ hb;exact ⟨b,h1,(hb.block _ (aa h2)).trans h2⟩
def SsF (P : Prop) : Fact:=fun r _ => ∃ e0,gp r e0 ∧ ((P ∧ e0 = 9) ∨ (¬ P ∧ e0 = 0))
theorem SsF.mono (P : Prop) : Fact.bw (SsF P):=fun _ _ _ h _ => h
def TuF (d : Ad) (c : Cl) (_dk : Ad) (ck : Cl) (p : Pd) (n : Nd) (pa : Option Addr) (pl pc : Nat) (na : Option Addr) (nl nc : Nat) (t : ByteArray) (b : Nat) : Fact:=fun v w => ∃ (d' : Ad) (c' : Cl) (e0 : Int) (hv : Value),v = .tuple #[.agg #[.slice d'.a1 d'.l1 d'.c1,.slice d'.a2 d'.l2 d'.c2,.slice d'.a3 d'.l3 d'.c3,.slice d'.a4 d'.l4 d'.c4,.slice d'.a5 d'.l5 d'.c5,.int .i64 c'.now,.string p.n,.int .i64 p.c,.string p.z,.slice pa pl pc,.string p.d,.int .i64 p.p,.string n.n,.string n.z,.int .i64 n.c,.int .i64 n.s,.int .i64 n.u,.bool n.d,.slice na nl nc],hv] ∧ cW ck n t c' e0 ∧ gp hv e0 ∧ jy d c b w d' c'
theorem TuF.mono (d : Ad) (c : Cl) (dk : Ad) (ck : Cl) (p : Pd) (n : Nd) (pa : Option Addr) (pl pc : Nat) (na : Option Addr) (nl nc : Nat) (t : ByteArray) (b : Nat) : Fact.bw (TuF d c dk ck p n pa pl pc na nl nc t b):=by
 rintro v w w' ⟨d',c',e0,hv,h1,h2,h3,h4⟩ hb;exact ⟨d',c',e0,hv,h1,h2,h3,h4.below hb⟩
def TrF (d : Ad) (c : Cl) (ck : Cl) (p : Pd) (n : Nd) (pa : Option Addr) (pl pc : Nat) (na : Option Addr) (nl nc : Nat) (t : ByteArray) (b : Nat) : Fact:=fun v w => ∃ (d' : Ad) (c' : Cl) (e0 : Int),v = .agg #[.slice d'.a1 d'.l1 d'.c1,.slice d'.a2 d'.l2 d'.c2,.slice d'.a3 d'.l3 d'.c3,.slice d'.a4 d'.l4 d'.c4,.slice d'.a5 d'.l5 d'.c5,.int .i64 c'.now,.string p.n,.int .i64 p.c,.string p.z,.slice pa pl pc,.string p.d,.int .i64 p.p,.string n.n,.string n.z,.int .i64 n.c,.int .i64 n.s,.int .i64 n.u,.bool n.d,.slice na nl nc] ∧ cW ck n t c' e0 ∧ jy d c b w d' c'
theorem TrF.mono (d : Ad) (c : Cl) (ck : Cl) (p : Pd) (n : Nd) (pa : Option Addr) (pl pc : Nat) (na : Option Addr) (nl nc : Nat) (t : ByteArray) (b : Nat) : Fact.bw (TrF d c ck p n pa pl pc na nl nc t b):=by
 rintro v w w' ⟨d',c',e0,h1,h2,h4⟩ hb;exact ⟨d',c',e0,h1,h2,h4.below hb⟩
def HvF (ck : Cl) (n : Nd) (t : ByteArray) : Fact:=fun v _ => ∃ (c' : Cl) (e0 : Int),gp v e0 ∧ cW ck n t c' e0
theorem HvF.mono (ck : Cl) (n : Nd) (t : ByteArray) : Fact.bw (HvF ck n t):=fun _ _ _ h _ => h

theorem xY (d : Ad) (c : Cl) (p : Pd) (n : Nd) (pa : Option Addr) (pl pc : Nat) (na : Option Addr) (nl nc : Nat) (i : Nat) (w : World) (hr : aM w d c.raw) (hT : aC c) (hp : c.ps[i]? = some p) (hpz : ay w pa pl pc p.zs) (E : Nat → Addr) (hG : Ers w E) (hn : nQ n) :
  Calls Tryz.prog 34 #[.agg #[.slice d.a1 d.l1 d.c1,.slice d.a2 d.l2 d.c2,.slice d.a3 d.l3 d.c3,.slice d.a4 d.l4 d.c4,.slice d.a5 d.l5 d.c5,.int .i64 c.now,.string p.n,.int .i64 p.c,.string p.z,.slice pa pl pc,.string p.d,.int .i64 p.p,.string n.n,.string n.z,.int .i64 n.c,.int .i64 n.s,.int .i64 n.u,.bool n.d,.slice na nl nc]] w fun e w' => Dh d c p n pa pl pc na nl nc i w e w':=by
 have HR:=ae hr;have HT:=ae hT;have HP:=ae hp;have HPZ:=ae hpz;have HE:=ae hG;have HN:=ae hn;have HB:=ae (Below.refl w.heap.size w);clear hr hT hp hpz hG hn;go_enter Tryz.func34,Tryz.ntmps34;have BT2 : Hid (((w.alloc (.cells #[.slice d.a1 d.l1 d.c1,.slice d.a2 d.l2 d.c2,.slice d.a3 d.l3 d.c3,.slice d.a4 d.l4 d.c4,.slice d.a5 d.l5 d.c5,.int .i64 c.now,.string p.n,.int .i64 p.c,.string p.z,.slice pa pl pc,.string p.d,.int .i64 p.p,.string n.n,.string n.z,.int .i64 n.c,.int .i64 n.s,.int .i64 n.u,.bool n.d,.slice na nl nc] 76)).alloc (.cells #[.slice none 0 0,.slice none 0 0,.slice none 0 0,.slice none 0 0,.slice none 0 0,.int .i64 0,.string ⟨#[]⟩,.int .i64 0,.string ⟨#[]⟩,.slice none 0 0,.string ⟨#[]⟩,.int .i64 0,.string ⟨#[]⟩,.string ⟨#[]⟩,.int .i64 0,.int .i64 0,.int .i64 0,.bool false,.slice none 0 0] 76)).heap[w.heap.size]? = some (.cells #[.slice d.a1 d.l1 d.c1,.slice d.a2 d.l2 d.c2,.slice d.a3 d.l3 d.c3,.slice d.a4 d.l4 d.c4,.slice d.a5 d.l5 d.c5,.int .i64 c.now,.string p.n,.int .i64 p.c,.string p.z,.slice pa pl pc,.string p.d,.int .i64 p.p,.string n.n,.string n.z,.int .i64 n.c,.int .i64 n.s,.int .i64 n.u,.bool n.d,.slice na nl nc] 76 (0,0))):=cK _ _ _;go_wp2_with (refine wpList_load_row (o:=⟨some 6,.load 76 (.tmp 1),_,_,_,none⟩) rfl _ _ rfl w.heap.size rfl _ _ _ _ BT2.out Tryz.underlying76 rfl bG ?_);clear BT2;refine (iC _ _ _ _ _ _ _ _ _ _ _ _ _ _ _ _ _ _ _ (w.heap.size + 1 + 1) 3 3 [(131,.agg #[],iu c n),(132,.agg #[],im p n),(133,.agg #[],lZ c p n)] _ rfl af aN (fun j T v P hj => by
  rcases j with _ | _ | _ | j
  ·cases hj
   exact ⟨ah (cz _ _ _ _) 0,zJ d c p n pa pl pc na nl nc _⟩
  ·cases hj
   exact ⟨ah (cz _ _ _ _) 1,zG d c p n pa pl pc na nl nc _⟩
  ·cases hj
   exact ⟨ah (cz _ _ _ _) 2,CA d c p n pa pl pc na nl nc _ (HR.out.below (br _ _ _ _)) HT.out HN.out.2.2.1⟩
  ·simp at hj)).mono ?_
 rintro e w1 ⟨⟨h1,rfl,hi⟩,hb⟩;have HF : Hid (yJ c p n 0 h1 c):=by
  rcases hi with ⟨j,T,v,P,hj,hp,rfl,hlt⟩ | ⟨rfl,hno⟩
  ·rcases j with _ | _ | _ | j
   ·cases hj;exact .inr ⟨_,_,11,rfl,.inr ⟨by decide,.inl ⟨_,rfl,rfl⟩⟩,by decide,.inl (.inl ⟨hp,rfl⟩)⟩
   ·cases hj;exact .inr ⟨_,_,8,rfl,.inr ⟨by decide,.inr (.inl ⟨_,rfl,rfl⟩)⟩,by decide,.inl (.inr ⟨hlt 0 _ _ _ af rfl,.inl ⟨hp,rfl⟩⟩)⟩
   ·cases hj;exact .inr ⟨_,_,9,rfl,.inr ⟨by decide,.inr (.inr (.inl ⟨_,rfl,rfl⟩))⟩,by decide,.inl (.inr ⟨hlt 0 _ _ _ af rfl,.inr ⟨hlt 1 _ _ _ af rfl,.inl ⟨hp,rfl⟩⟩⟩)⟩
   ·simp at hj
  ·exact .inl ⟨rfl,.inr ⟨hno 0 _ _ _ rfl,.inr ⟨hno 1 _ _ _ rfl,.inr ⟨hno 2 _ _ _ rfl,rfl⟩⟩⟩,rfl⟩
 clear hi;obtain ⟨HA0,HA1,HA2,hbx⟩:=lz hb;have Bt:=ae HA0;have Br:=ae HA1;have Bs:=ae HA2;replace HB:=upB HB hbx;clear hb hbx HA0 HA1 HA2;have hpl : p.zs.length = pl:=HPZ.out.1;have hpm : pl ≤ 9223372036854775807:=Nat.le_trans HPZ.out.2.1 HPZ.out.2.2.1;go_wp2;go_loopw [4,5] (fun h i wr => ∃ (k : Nat) (dk : Ad) (ck : Cl),k ≤ pl ∧ i = .int .i64 k ∧ Hid (yJ c p n k h ck) ∧ Hid (Below w.heap.size w wr) ∧ Hid (wr.heap[w.heap.size]? = some (.cells #[.slice dk.a1 dk.l1 dk.c1,.slice dk.a2 dk.l2 dk.c2,.slice dk.a3 dk.l3 dk.c3,.slice dk.a4 dk.l4 dk.c4,.slice dk.a5 dk.l5 dk.c5,.int .i64 ck.now,.string p.n,.int .i64 p.c,.string p.z,.slice pa pl pc,.string p.d,.int .i64 p.p,.string n.n,.string n.z,.int .i64 n.c,.int .i64 n.s,.int .i64 n.u,.bool n.d,.slice na nl nc] 76 (0,0))) ∧ Hid (wr.heap[w.heap.size + 1]? = some (.cells #[.slice none 0 0,.slice none 0 0,.slice none 0 0,.slice none 0 0,.slice none 0 0,.int .i64 0,.string ⟨#[]⟩,.int .i64 0,.string ⟨#[]⟩,.slice none 0 0,.string ⟨#[]⟩,.int .i64 0,.string ⟨#[]⟩,.string ⟨#[]⟩,.int .i64 0,.int .i64 0,.int .i64 0,.bool false,.slice none 0 0] 76 (0,0))) ∧ Hid (jy d c (w.heap.size + 2) wr dk ck)) (fun _ i _ => pl - (intOf i).toNat);case atStart => exact ⟨0,d,c,by omega,rfl,HF,HB,Bt,Br,.inl ⟨rfl,rfl⟩⟩
 case round =>
  clear HF HB Bt Br Bs;obtain ⟨k,dk,ck,hk,rfl,HS,HB,Bt,Br,HOK⟩:=hrel;have ltt:=aa Bt.out;have ltr:=aa Br.out;have t9 : wr.cell? ⟨w.heap.size,9,none⟩ = some (.slice pa pl pc):=ah Bt.out 9;rcases HS.out with ⟨rfl,hs1,hs2⟩ | ⟨T,v,e0,rfl,hs1,hs2,hs3⟩
  ·have HS1:=ae hs1;have HS2:=ae hs2;clear hs1 hs2 HS;by_cases hlt : k < pl
   ·have hlt2 : (k : Int) < (pl : Int):=aaa
    obtain ⟨b2,o2,tt,rfl,hb2,hx,hc,-⟩:=(HPZ.out.below HB.out).at hlt;have HX:=ae hx;have hRR:=cO.right HT.out HN.out.2.1 k ck HS2.out;have HTk:=ae hRR.1;have HHk:=ae (hRR.2.2.2.2.2 tt ((HT.out.2.2.2.1.1 _ _ HP.out).1 k tt hx));have HRk:=ae (HOK.out.row HR.out HB.out);clear hx hRR;go_wp2_with fail;rename_i K0 hK0;refine Gv.oj av rfl rfl rfl rfl av ?_;refine' Gv.aw.aq (.agg #[.slice dk.a1 dk.l1 dk.c1,.slice dk.a2 dk.l2 dk.c2,.slice dk.a3 dk.l3 dk.c3,.slice dk.a4 dk.l4 dk.c4,.slice dk.a5 dk.l5 dk.c5,.int .i64 ck.now,.string p.n,.int .i64 p.c,.string p.z,.slice (some ⟨b2,o2,none⟩) pl pc,.string p.d,.int .i64 p.p,.string n.n,.string n.z,.int .i64 n.c,.int .i64 n.s,.int .i64 n.u,.bool n.d,.slice na nl nc]) rfl ?_ ?_
    ·refine Obl.plain rfl ?_;intro ac wg K hsz hW hf hK;clear hsz;have e1:=hf 1 al;simp [ai,List.lookup] at e1;clear hf;refine wp_load_row _ _ rfl w.heap.size (by simpa [Act.eval] using e1) _ _ _ _ ((hW.block _ (aa Bt.out)).trans Bt.out) Tryz.underlying76 rfl bG ?_;exact hK _ _ (Below.refl _ _) rfl
    refine' Gv.aw.aq _ rfl ?_ ?_;rotate_left 1
    ·exact u_
    refine' Gv.aw.aq _ rfl ?_ ?_;rotate_left 1
    ·refine Obl.plain rfl ?_;intro ac wg K hsz hW hf hK;clear hsz;have e29:=hf 29 al;simp [ai,List.lookup] at e29;clear hf;exact aO
    refine' Gv.aw.aq _ rfl ?_ ?_;rotate_left 1
    ·refine Obl.plain rfl ?_;intro ac wg K hsz hW hf hK;clear hsz;have e30:=hf 30 al;simp [ai,List.lookup] at e30;clear hf;have c9 : wg.cell? ⟨w.heap.size,9,none⟩ = some (.slice (some ⟨b2,o2,none⟩) pl pc):=(hW.cell ltt).trans t9;have l9:=Nat.lt_of_lt_of_le ltt hW.size;exact aO
    refine' Gv.aw.aq _ rfl ?_ ?_;rotate_left 1
    ·exact abm
    refine' Gv.aw.aq _ rfl ?_ ?_;rotate_left 1
    ·refine Obl.plain rfl ?_;intro ac wg K hsz hW hf hK;clear hsz;have e31:=hf 31 al;simp [ai,List.lookup] at e31;have e32:=hf 32 al;simp [ai,List.lookup] at e32;clear hf;exact aO
    refine' Gv.aw.aq _ rfl ?_ ?_;rotate_left 1
    ·refine Obl.plain rfl ?_;intro ac wg K hsz hW hf hK;clear hsz;have e33:=hf 33 al;simp [ai,List.lookup] at e33;clear hf;have c0 : wg.cell? ⟨b2,o2 + k,none⟩ = some (.string tt):=(hW.cell hb2).trans hc;have l0:=Nat.lt_of_lt_of_le hb2 hW.size;exact aO
    refine Gv.aw.step (TuF d c dk ck p n (some ⟨b2,o2,none⟩) pl pc na nl nc tt (w.heap.size + 2)) rfl (TuF.mono _ _ _ _ _ _ _ _ _ _ _ _ _ _) ?_ ?_
    ·refine Obl.plain rfl ?_;intro ac wg K hsz hW hf hK;clear hsz;have e28:=hf 28 al;simp [ai,List.lookup] at e28;have e34:=hf 34 al;simp [ai,List.lookup] at e34;clear hf;go_simp;refine (xX dk ck p n (some ⟨b2,o2,none⟩) pl pc na nl nc tt wg (HRk.out.below hW) HTk.out HHk.out E (HE.out.below (HB.out.trans (hW.mono HB.out.size))) HN.out.2.1).mono ?_;rintro e w6 ⟨d',c',e0,hv,rfl,h1,h2,h3,h4,hb6⟩;refine hK _ _ hb6 ⟨d',c',e0,hv,rfl,h1,h2,?_⟩;rcases h4 with ⟨rfl,rfl⟩ | h4
     ·exact (HOK.out.below hW).below hb6
     ·exact .inr (h4.bs (fun j _ s => by have s2 : wg.heap.size ≤ j:=s;have s3:=hW.size;show w.heap.size + 2 ≤ j;omega))
    refine Gv.aw.step (TuF d c dk ck p n (some ⟨b2,o2,none⟩) pl pc na nl nc tt (w.heap.size + 2)) rfl (TuF.mono _ _ _ _ _ _ _ _ _ _ _ _ _ _) ?_ ?_
    ·refine Obl.plain rfl ?_;intro ac wg K hsz hW hf hK;clear hsz;have e35:=hf 35 al;simp [ai,List.lookup] at e35;clear hf;obtain ⟨d',c',e0,hv,e35,h1,h2,h3⟩:=e35;go_simp;exact hK _ _ (Below.refl _ _) ⟨d',c',e0,hv,rfl,h1,h2,h3⟩
    refine Gv.aw.step (TrF d c ck p n (some ⟨b2,o2,none⟩) pl pc na nl nc tt (w.heap.size + 2)) rfl (TrF.mono _ _ _ _ _ _ _ _ _ _ _ _ _) ?_ ?_
    ·refine Obl.plain rfl ?_;intro ac wg K hsz hW hf hK;clear hsz;have e27:=hf 27 al;simp [ai,List.lookup] at e27;clear hf;obtain ⟨d',c',e0,hv,e27,h1,h2,h3⟩:=e27;go_simp;exact hK _ _ (Below.refl _ _) ⟨d',c',e0,rfl,h1,h3⟩
    refine Gv.aw.late (HvF ck n tt) rfl (HvF.mono _ _ _) ?_ ?_ ?_
    ·refine Obl.plain rfl ?_;intro ac wg K hsz hW hf hK;clear hsz;have e27:=hf 27 al;simp [ai,List.lookup] at e27;clear hf;obtain ⟨d',c',e0,hv,e27,h1,h2,h3⟩:=e27;go_simp;exact hK _ _ (Below.refl _ _) ⟨c',e0,h2,h1⟩
    ·intro q wz hW hf;simp only [List.forall_mem_cons] at hf;obtain ⟨⟨c2,e2,hv2,hn2⟩,⟨d1,c1,e1,h36,hn1,hown⟩,-,-,h34,h33,h32,h31,h30,h29,h28,-⟩:=hf;obtain ⟨rfl,rfl⟩:=hn1.same HTk.out hn2;obtain ⟨HWZ,Bt6,Br6,HSK,H3⟩:=acj;clear hW hv2 hn1 hn2 hown;have HA19 : Hid ((#[.slice d1.a1 d1.l1 d1.c1,.slice d1.a2 d1.l2 d1.c2,.slice d1.a3 d1.l3 d1.c3,.slice d1.a4 d1.l4 d1.c4,.slice d1.a5 d1.l5 d1.c5,.int .i64 c1.now,.string p.n,.int .i64 p.c,.string p.z,.slice (some ⟨b2,o2,none⟩) pl pc,.string p.d,.int .i64 p.p,.string n.n,.string n.z,.int .i64 n.c,.int .i64 n.s,.int .i64 n.u,.bool n.d,.slice na nl nc] : Array Value).all (·.oneCell') = true):=by show _ = true;simp [Value.oneCell']
     intro K hK;rw [if_pos bH];simp only [aE,List.foldr,Act.put,List.setIfInBounds_toArray,List.set_cons_zero,List.set_cons_succ,h36,h34,h33,h32,h31,h30,h29,h28];refine wp_store_row _ _ _ rfl w.heap.size #[.slice d1.a1 d1.l1 d1.c1,.slice d1.a2 d1.l2 d1.c2,.slice d1.a3 d1.l3 d1.c3,.slice d1.a4 d1.l4 d1.c4,.slice d1.a5 d1.l5 d1.c5,.int .i64 c1.now,.string p.n,.int .i64 p.c,.string p.z,.slice (some ⟨b2,o2,none⟩) pl pc,.string p.d,.int .i64 p.p,.string n.n,.string n.z,.int .i64 n.c,.int .i64 n.s,.int .i64 n.u,.bool n.d,.slice na nl nc] rfl rfl _ _ Bt6.out bG rfl HA19.out ?_;exact abX
    ·intro q wz hW hf;simp only [List.forall_mem_cons] at hf;obtain ⟨⟨d1,c1,e1,h36,hn1,hown⟩,⟨d2,c2,e2,hvv,h27,hn2,hv2,-⟩,-,h34,h33,h32,h31,h30,h29,h28,-⟩:=hf;obtain ⟨rfl,rfl⟩:=hn1.same HTk.out hn2;obtain ⟨HWZ,Bt6,Br6,HSK,H3⟩:=acj;clear hW hv2 hn1 hn2 hown;have HA19 : Hid ((#[.slice d1.a1 d1.l1 d1.c1,.slice d1.a2 d1.l2 d1.c2,.slice d1.a3 d1.l3 d1.c3,.slice d1.a4 d1.l4 d1.c4,.slice d1.a5 d1.l5 d1.c5,.int .i64 c1.now,.string p.n,.int .i64 p.c,.string p.z,.slice (some ⟨b2,o2,none⟩) pl pc,.string p.d,.int .i64 p.p,.string n.n,.string n.z,.int .i64 n.c,.int .i64 n.s,.int .i64 n.u,.bool n.d,.slice na nl nc] : Array Value).all (·.oneCell') = true):=by show _ = true;simp [Value.oneCell']
     intro K hK;rw [if_pos bH];simp only [aE,List.foldr,Act.put,List.setIfInBounds_toArray,List.set_cons_zero,List.set_cons_succ,h36,h27,h34,h33,h32,h31,h30,h29,h28];refine wp_store_row _ _ _ rfl w.heap.size #[.slice d1.a1 d1.l1 d1.c1,.slice d1.a2 d1.l2 d1.c2,.slice d1.a3 d1.l3 d1.c3,.slice d1.a4 d1.l4 d1.c4,.slice d1.a5 d1.l5 d1.c5,.int .i64 c1.now,.string p.n,.int .i64 p.c,.string p.z,.slice (some ⟨b2,o2,none⟩) pl pc,.string p.d,.int .i64 p.p,.string n.n,.string n.z,.int .i64 n.c,.int .i64 n.s,.int .i64 n.u,.bool n.d,.slice na nl nc] rfl rfl _ _ Bt6.out bG rfl HA19.out ?_;refine hK _ _ ?_;clear hK K;intro K hK;rw [if_pos bH];go_simp;exact abX
   ·obtain rfl : pl = k:=aaa
    have HAll : Hid (oi c n p.zs ck 0):=.inl ⟨by rw [hpl];exact HS2.out,rfl⟩;have hRR:=cO.right HT.out HN.out.2.1 pl ck HS2.out;have HTk:=ae hRR.1;have HPk : Hid (ck.ps[i]? = some p):=by rw [hRR.2.2.2.1];exact HP.out
    have HRk:=ae (HOK.out.row HR.out HB.out);have HNO : Hid (c.now = ck.now):=hRR.2.2.2.2.1.symm;clear hRR t9;have t0 : wr.cell? ⟨w.heap.size,0,none⟩ = some (.slice dk.a1 dk.l1 dk.c1):=ah Bt.out 0;have t1 : wr.cell? ⟨w.heap.size,1,none⟩ = some (.slice dk.a2 dk.l2 dk.c2):=ah Bt.out 1;have t2 : wr.cell? ⟨w.heap.size,2,none⟩ = some (.slice dk.a3 dk.l3 dk.c3):=ah Bt.out 2;have t3 : wr.cell? ⟨w.heap.size,3,none⟩ = some (.slice dk.a4 dk.l4 dk.c4):=ah Bt.out 3;have t4 : wr.cell? ⟨w.heap.size,4,none⟩ = some (.slice dk.a5 dk.l5 dk.c5):=ah Bt.out 4;have t5 : wr.cell? ⟨w.heap.size,5,none⟩ = some (.int .i64 ck.now):=ah Bt.out 5;have t6 : wr.cell? ⟨w.heap.size,6,none⟩ = some (.string p.n):=ah Bt.out 6;have t7 : wr.cell? ⟨w.heap.size,7,none⟩ = some (.int .i64 p.c):=ah Bt.out 7;have t8 : wr.cell? ⟨w.heap.size,8,none⟩ = some (.string p.z):=ah Bt.out 8;have t9 : wr.cell? ⟨w.heap.size,9,none⟩ = some (.slice pa pl pc):=ah Bt.out 9;have t10 : wr.cell? ⟨w.heap.size,10,none⟩ = some (.string p.d):=ah Bt.out 10;have t11 : wr.cell? ⟨w.heap.size,11,none⟩ = some (.int .i64 p.p):=ah Bt.out 11;have t12 : wr.cell? ⟨w.heap.size,12,none⟩ = some (.string n.n):=ah Bt.out 12;have f10:=au Bt.out 10;have f11:=au Bt.out 11;go_wp2_with fail;have e9 : (wr.setCell ⟨w.heap.size,10,none⟩ (.string n.n)).setCell ⟨w.heap.size,11,none⟩ (.int .i64 1) = wr.setRow w.heap.size #[.slice dk.a1 dk.l1 dk.c1,.slice dk.a2 dk.l2 dk.c2,.slice dk.a3 dk.l3 dk.c3,.slice dk.a4 dk.l4 dk.c4,.slice dk.a5 dk.l5 dk.c5,.int .i64 ck.now,.string p.n,.int .i64 p.c,.string p.z,.slice pa pl pc,.string n.n,.int .i64 1,.string n.n,.string n.z,.int .i64 n.c,.int .i64 n.s,.int .i64 n.u,.bool n.d,.slice na nl nc]:=by
     rw [setCell_eq_setRow _ _ _ _ _ _ _ Bt.out,setCell_eq_setRow _ _ _ _ _ _ _ (setRow_heap _ _ _ _ _ _ Bt.out),setRow_setRow];rfl
    obtain ⟨W,hW0⟩ : ∃ W,W = wr.setRow w.heap.size #[.slice dk.a1 dk.l1 dk.c1,.slice dk.a2 dk.l2 dk.c2,.slice dk.a3 dk.l3 dk.c3,.slice dk.a4 dk.l4 dk.c4,.slice dk.a5 dk.l5 dk.c5,.int .i64 ck.now,.string p.n,.int .i64 p.c,.string p.z,.slice pa pl pc,.string n.n,.int .i64 1,.string n.n,.string n.z,.int .i64 n.c,.int .i64 n.s,.int .i64 n.u,.bool n.d,.slice na nl nc]:=⟨_,rfl⟩;have BtW:=ae (setRow_heap wr w.heap.size _ #[.slice dk.a1 dk.l1 dk.c1,.slice dk.a2 dk.l2 dk.c2,.slice dk.a3 dk.l3 dk.c3,.slice dk.a4 dk.l4 dk.c4,.slice dk.a5 dk.l5 dk.c5,.int .i64 ck.now,.string p.n,.int .i64 p.c,.string p.z,.slice pa pl pc,.string n.n,.int .i64 1,.string n.n,.string n.z,.int .i64 n.c,.int .i64 n.s,.int .i64 n.u,.bool n.d,.slice na nl nc] _ _ Bt.out);have BrW:=ae ((setRow_other wr w.heap.size (w.heap.size + 1) #[.slice dk.a1 dk.l1 dk.c1,.slice dk.a2 dk.l2 dk.c2,.slice dk.a3 dk.l3 dk.c3,.slice dk.a4 dk.l4 dk.c4,.slice dk.a5 dk.l5 dk.c5,.int .i64 ck.now,.string p.n,.int .i64 p.c,.string p.z,.slice pa pl pc,.string n.n,.int .i64 1,.string n.n,.string n.z,.int .i64 n.c,.int .i64 n.s,.int .i64 n.u,.bool n.d,.slice na nl nc] af).trans Br.out);have HBX:=ae (below_setRow HB.out (Nat.le_refl _) #[.slice dk.a1 dk.l1 dk.c1,.slice dk.a2 dk.l2 dk.c2,.slice dk.a3 dk.l3 dk.c3,.slice dk.a4 dk.l4 dk.c4,.slice dk.a5 dk.l5 dk.c5,.int .i64 ck.now,.string p.n,.int .i64 p.c,.string p.z,.slice pa pl pc,.string n.n,.int .i64 1,.string n.n,.string n.z,.int .i64 n.c,.int .i64 n.s,.int .i64 n.u,.bool n.d,.slice na nl nc]);have HOW:=ae (HOK.out.set (b':=w.heap.size) (cs:=#[.slice dk.a1 dk.l1 dk.c1,.slice dk.a2 dk.l2 dk.c2,.slice dk.a3 dk.l3 dk.c3,.slice dk.a4 dk.l4 dk.c4,.slice dk.a5 dk.l5 dk.c5,.int .i64 ck.now,.string p.n,.int .i64 p.c,.string p.z,.slice pa pl pc,.string n.n,.int .i64 1,.string n.n,.string n.z,.int .i64 n.c,.int .i64 n.s,.int .i64 n.u,.bool n.d,.slice na nl nc]) af);rw [e9,← hW0];rw [← hW0] at BtW BrW HBX HOW;have HRW:=ae (HOW.out.row HR.out HBX.out);clear e9 hW0 Bt Br HB HOK HRk f10 f11 ltt ltr t0 t1 t2 t3 t4 t5 t6 t7 t8 t9 t10 t11 t12;have hpo:=HT.out.2.1.2.2.2.2.2.1 i p HP.out;have hp8 : pl ≤ 8001:=by have h9:=hpo.2.2.2.1.1;omega
    have hil : i < d.l5:=by
     have h8 : (c.ps.map pdF).length = d.l5:=HR.out.p.1;rw [List.length_map] at h8;have h9:=(List.getElem?_eq_some_iff.1 HP.out).1;omega
    obtain ⟨b3,o3,p3,-,-,hp3,hat3⟩:=bQ HR.out.p hil;rw [HP.out] at hp3;cases hp3;obtain ⟨_,_,_,-,z0,z2,z4,-⟩:=aU hat3;have zn : n.n.size ≤ 9223372036854775807:=nS HN.out.1;refine (qx dk ck (onP p n.n) pa pl pc W HRW.out HTk.out.sm (HPZ.out.below HBX.out) hp8 z0 z2 zn).mono ?_;clear hpo hp8 hat3 z0 z2 z4 zn hil;rintro e w2 ⟨d2,rfl,ho,hb⟩;have HO2:=ae (ho.bs (S':=fun k => w.heap.size + 2 ≤ k) (fun k _ s => by have s2 : W.heap.size ≤ k:=s;have s3:=aa BrW.out;show w.heap.size + 2 ≤ k;omega));have Bt2:=upK BtW hb;have Br2:=upK BrW hb;have HB2:=upB HBX hb;clear ho hb BtW BrW HBX HOW HRW;have HA6 : Hid ((#[.slice d2.a1 d2.l1 d2.c1,.slice d2.a2 d2.l2 d2.c2,.slice d2.a3 d2.l3 d2.c3,.slice d2.a4 d2.l4 d2.c4,.slice d2.a5 d2.l5 d2.c5,.int .i64 ck.now] : Array Value).all (·.oneCell') = true):=by show _ = true;simp [Value.oneCell']
    go_wp2_with (refine dG (op:=⟨none,.store 37 (.tmp 54) (.tmp 53),_,_,_,none⟩) rfl _ _ _ rfl w.heap.size 0 #[.slice d2.a1 d2.l1 d2.c1,.slice d2.a2 d2.l2 d2.c2,.slice d2.a3 d2.l3 d2.c3,.slice d2.a4 d2.l4 d2.c4,.slice d2.a5 d2.l5 d2.c5,.int .i64 ck.now] #[.slice d2.a1 d2.l1 d2.c1,.slice d2.a2 d2.l2 d2.c2,.slice d2.a3 d2.l3 d2.c3,.slice d2.a4 d2.l4 d2.c4,.slice d2.a5 d2.l5 d2.c5,.int .i64 ck.now,.string p.n,.int .i64 p.c,.string p.z,.slice pa pl pc,.string n.n,.int .i64 1,.string n.n,.string n.z,.int .i64 n.c,.int .i64 n.s,.int .i64 n.u,.bool n.d,.slice na nl nc] rfl rfl _ _ Bt2.out rL (Nat.le_of_ble_eq_true rfl) HA6.out rfl ?_);obtain ⟨W3,hW3⟩ : ∃ W,W = w2.setRow w.heap.size #[.slice d2.a1 d2.l1 d2.c1,.slice d2.a2 d2.l2 d2.c2,.slice d2.a3 d2.l3 d2.c3,.slice d2.a4 d2.l4 d2.c4,.slice d2.a5 d2.l5 d2.c5,.int .i64 ck.now,.string p.n,.int .i64 p.c,.string p.z,.slice pa pl pc,.string n.n,.int .i64 1,.string n.n,.string n.z,.int .i64 n.c,.int .i64 n.s,.int .i64 n.u,.bool n.d,.slice na nl nc]:=⟨_,rfl⟩;have Bt3:=ae (setRow_heap w2 w.heap.size _ #[.slice d2.a1 d2.l1 d2.c1,.slice d2.a2 d2.l2 d2.c2,.slice d2.a3 d2.l3 d2.c3,.slice d2.a4 d2.l4 d2.c4,.slice d2.a5 d2.l5 d2.c5,.int .i64 ck.now,.string p.n,.int .i64 p.c,.string p.z,.slice pa pl pc,.string n.n,.int .i64 1,.string n.n,.string n.z,.int .i64 n.c,.int .i64 n.s,.int .i64 n.u,.bool n.d,.slice na nl nc] _ _ Bt2.out);have Br3:=ae ((setRow_other w2 w.heap.size (w.heap.size + 1) #[.slice d2.a1 d2.l1 d2.c1,.slice d2.a2 d2.l2 d2.c2,.slice d2.a3 d2.l3 d2.c3,.slice d2.a4 d2.l4 d2.c4,.slice d2.a5 d2.l5 d2.c5,.int .i64 ck.now,.string p.n,.int .i64 p.c,.string p.z,.slice pa pl pc,.string n.n,.int .i64 1,.string n.n,.string n.z,.int .i64 n.c,.int .i64 n.s,.int .i64 n.u,.bool n.d,.slice na nl nc] af).trans Br2.out);have HB3:=ae (below_setRow HB2.out (Nat.le_refl _) #[.slice d2.a1 d2.l1 d2.c1,.slice d2.a2 d2.l2 d2.c2,.slice d2.a3 d2.l3 d2.c3,.slice d2.a4 d2.l4 d2.c4,.slice d2.a5 d2.l5 d2.c5,.int .i64 ck.now,.string p.n,.int .i64 p.c,.string p.z,.slice pa pl pc,.string n.n,.int .i64 1,.string n.n,.string n.z,.int .i64 n.c,.int .i64 n.s,.int .i64 n.u,.bool n.d,.slice na nl nc]);have HO3:=ae (HO2.out.kept (fY (b:=w.heap.size) (cs:=#[.slice d2.a1 d2.l1 d2.c1,.slice d2.a2 d2.l2 d2.c2,.slice d2.a3 d2.l3 d2.c3,.slice d2.a4 d2.l4 d2.c4,.slice d2.a5 d2.l5 d2.c5,.int .i64 ck.now,.string p.n,.int .i64 p.c,.string p.z,.slice pa pl pc,.string n.n,.int .i64 1,.string n.n,.string n.z,.int .i64 n.c,.int .i64 n.s,.int .i64 n.u,.bool n.d,.slice na nl nc])) (fun k s e => by have s2 : w.heap.size + 2 ≤ k:=s;omega));rw [← hW3] at Bt3 Br3 HB3 HO3 ⊢;clear hW3 Bt2 Br2 HB2 HO2;have HPL : Hid (lK ck (onP p n.n) = plC ck i p n.n):=ze n.n HTk.out.2.1.2.2.2.2.2.2 HPk.out;rename_i K0 hK0;refine Gu.ot av rfl rfl rfl av ?_;refine' Gu.aw.aq (.agg #[.slice d2.a1 d2.l1 d2.c1,.slice d2.a2 d2.l2 d2.c2,.slice d2.a3 d2.l3 d2.c3,.slice d2.a4 d2.l4 d2.c4,.slice d2.a5 d2.l5 d2.c5,.int .i64 ck.now,.string p.n,.int .i64 p.c,.string p.z,.slice pa pl pc,.string n.n,.int .i64 1,.string n.n,.string n.z,.int .i64 n.c,.int .i64 n.s,.int .i64 n.u,.bool n.d,.slice na nl nc]) rfl ?_ ?_
    ·exact acS
    refine' Gu.aw.aq (.agg #[.slice d2.a1 d2.l1 d2.c1,.slice d2.a2 d2.l2 d2.c2,.slice d2.a3 d2.l3 d2.c3,.slice d2.a4 d2.l4 d2.c4,.slice d2.a5 d2.l5 d2.c5,.int .i64 ck.now,.string p.n,.int .i64 p.c,.string p.z,.slice pa pl pc,.string n.n,.int .i64 1,.string n.n,.string n.z,.int .i64 n.c,.int .i64 n.s,.int .i64 n.u,.bool n.d,.slice na nl nc]) rfl ?_ ?_
    ·exact acS
    refine' Gu.aw.aq _ rfl ?_ ?_;rotate_left 1
    ·refine Obl.plain rfl ?_;intro ac wg K hsz hW hf hK;clear hsz;clear hf;exact aO
    refine' Gu.aw.aq _ rfl ?_ ?_;rotate_left 1
    ·refine Obl.plain rfl ?_;intro ac wg K hsz hW hf hK;clear hsz;have e57:=hf 57 al;simp [ai,List.lookup] at e57;clear hf;exact aO
    refine Gu.aw.step (HsG #[.iface 136 (.agg #[])]) rfl (HsG.mono _) ?_ ?_
    ·refine Obl.plain rfl ?_;intro ac wg K hsz hW hf hK;clear hsz;have e58:=hf 58 al;simp [ai,List.lookup] at e58;clear hf;go_simp;exact hK _ _ (an _ _) ⟨wg.heap.size,rfl,heap_alloc_new wg _⟩
    refine Gu.aw.step (SsF (fC ck i p n)) rfl (SsF.mono _) ?_ ?_
    ·refine Obl.plain rfl ?_;intro ac wg K hsz hW hf hK;clear hsz;have e56:=hf 56 al;simp [ai,List.lookup] at e56;have e59:=hf 59 al;simp [ai,List.lookup] at e59;clear hf;obtain ⟨b,e59,hb59⟩:=e59;go_simp;have hv8 : (lK ck (onP p n.n)).vs.length ≤ 8:=HTk.out.sm.v;refine (iC _ _ _ _ _ _ _ _ _ _ _ _ _ _ _ _ _ _ _ b 1 1 [(136,.agg #[],n.s < ((dm (lK ck (onP p n.n)) n.n (lK ck (onP p n.n)).vs).length : Int))] wg rfl af (aa hb59) (fun j T u P hj => by
      rcases j with _ | j
      ·cases hj
       exact ⟨ah hb59 0,zH d2 (lK ck (onP p n.n)) (onP p n.n) n pa pl pc na nl nc _ (HO3.out.row.below hW) hv8⟩
      ·simp at hj)).mono ?_
     rintro e w6 ⟨⟨rr,rfl,hi⟩,hb6⟩;refine hK _ _ hb6 ?_;rw [HPL.out] at hi;rcases hi with ⟨j,T,u,P,hj,hp,rfl,hlt⟩ | ⟨rfl,hno⟩
     ·rcases j with _ | j
      ·cases hj;exact ⟨9,.inr ⟨by decide,.inr (.inr (.inr (.inr (.inr (.inr (.inr ⟨_,rfl,rfl⟩))))))⟩,.inl ⟨hp,rfl⟩⟩
      ·simp at hj
     ·exact ⟨0,.inl ⟨rfl,rfl⟩,.inr ⟨hno 0 _ _ _ rfl,rfl⟩⟩
    refine Gu.aw.done ?_;intro q wz hW hf;simp only [List.forall_mem_cons] at hf;obtain ⟨⟨e0,he1,he2⟩,⟨b,h59,-⟩,h58,h57,h56,h55,-⟩:=hf;have HWZ:=upB HB3 hW;have Br6:=upK Br3 hW;have HO6:=ae ((HO3.out.below hW).kept (fY (b:=w.heap.size + 1) (cs:=#[.slice d2.a1 d2.l1 d2.c1,.slice d2.a2 d2.l2 d2.c2,.slice d2.a3 d2.l3 d2.c3,.slice d2.a4 d2.l4 d2.c4,.slice d2.a5 d2.l5 d2.c5,.int .i64 ck.now,.string p.n,.int .i64 p.c,.string p.z,.slice pa pl pc,.string n.n,.int .i64 1,.string n.n,.string n.z,.int .i64 n.c,.int .i64 n.s,.int .i64 n.u,.bool n.d,.slice na nl nc])) (fun k s e => by have s2 : w.heap.size + 2 ≤ k:=s;omega));have H1:=ae he1;have H2:=ae he2;clear hW he1 he2;have HA19 : Hid ((#[.slice d2.a1 d2.l1 d2.c1,.slice d2.a2 d2.l2 d2.c2,.slice d2.a3 d2.l3 d2.c3,.slice d2.a4 d2.l4 d2.c4,.slice d2.a5 d2.l5 d2.c5,.int .i64 ck.now,.string p.n,.int .i64 p.c,.string p.z,.slice pa pl pc,.string n.n,.int .i64 1,.string n.n,.string n.z,.int .i64 n.c,.int .i64 n.s,.int .i64 n.u,.bool n.d,.slice na nl nc] : Array Value).all (·.oneCell') = true):=by show _ = true;simp [Value.oneCell']
    intro K hK;rw [if_pos bH];simp only [aE,List.foldr,Act.put,List.setIfInBounds_toArray,List.set_cons_zero,List.set_cons_succ,h59,h58,h57,h56,h55];refine wp_store_row _ _ _ rfl (w.heap.size + 1) #[.slice d2.a1 d2.l1 d2.c1,.slice d2.a2 d2.l2 d2.c2,.slice d2.a3 d2.l3 d2.c3,.slice d2.a4 d2.l4 d2.c4,.slice d2.a5 d2.l5 d2.c5,.int .i64 ck.now,.string p.n,.int .i64 p.c,.string p.z,.slice pa pl pc,.string n.n,.int .i64 1,.string n.n,.string n.z,.int .i64 n.c,.int .i64 n.s,.int .i64 n.u,.bool n.d,.slice na nl nc] rfl rfl _ _ Br6.out bG rfl HA19.out ?_;refine hK _ _ ?_;clear hK K;intro K hK;rw [if_pos bH];go_simp;refine hK _ _ ?_;refine hK0 _ _ ?_;clear hK hK0 K K0;go_wp2;rw [HPL.out] at HO6;exact bodyPost_ret (v:=.tuple #[.agg #[.slice d2.a1 d2.l1 d2.c1,.slice d2.a2 d2.l2 d2.c2,.slice d2.a3 d2.l3 d2.c3,.slice d2.a4 d2.l4 d2.c4,.slice d2.a5 d2.l5 d2.c5,.int .i64 ck.now,.string p.n,.int .i64 p.c,.string p.z,.slice pa pl pc,.string n.n,.int .i64 1,.string n.n,.string n.z,.int .i64 n.c,.int .i64 n.s,.int .i64 n.u,.bool n.d,.slice na nl nc],q 60]) (results_cell_tmp rfl _ _ (w.heap.size + 1) _ _ _ _ _ rfl rfl (setRow_heap _ (w.heap.size + 1) _ #[.slice d2.a1 d2.l1 d2.c1,.slice d2.a2 d2.l2 d2.c2,.slice d2.a3 d2.l3 d2.c3,.slice d2.a4 d2.l4 d2.c4,.slice d2.a5 d2.l5 d2.c5,.int .i64 ck.now,.string p.n,.int .i64 p.c,.string p.z,.slice pa pl pc,.string n.n,.int .i64 1,.string n.n,.string n.z,.int .i64 n.c,.int .i64 n.s,.int .i64 n.u,.bool n.d,.slice na nl nc] _ _ Br6.out) Tryz.underlying76 rfl bG) rfl ⟨d2,plC ck i p n.n,plC ck i p n.n,onP p n.n,e0,q 60,rfl,dK.xQ HS1.out HAll.out (.inr ⟨rfl,H2.out.elim (fun h => .inl h) (fun h => .inr ⟨h.1,h.2,rfl⟩)⟩),H1.out,fun _ => ⟨rfl,HO6.out.bs (fun k _ s => by have s2 : w.heap.size + 2 ≤ k:=s;show w.heap.size ≤ k;omega)⟩,below_setRow HWZ.out af _⟩
  ·have HS1:=ae hs1;have HS3:=ae hs3;have HNE:=ae hs2;clear hs1 hs2 hs3 HS;have HA19 : Hid ((#[.slice dk.a1 dk.l1 dk.c1,.slice dk.a2 dk.l2 dk.c2,.slice dk.a3 dk.l3 dk.c3,.slice dk.a4 dk.l4 dk.c4,.slice dk.a5 dk.l5 dk.c5,.int .i64 ck.now,.string p.n,.int .i64 p.c,.string p.z,.slice pa pl pc,.string p.d,.int .i64 p.p,.string n.n,.string n.z,.int .i64 n.c,.int .i64 n.s,.int .i64 n.u,.bool n.d,.slice na nl nc] : Array Value).all (·.oneCell') = true):=by show _ = true;simp [Value.oneCell']
   go_wp2_with (first
    | refine wpList_load_row (o:=⟨some 40,.load 76 (.tmp 1),_,_,_,none⟩) rfl _ _ rfl w.heap.size rfl _ _ _ _ Bt.out Tryz.underlying76 rfl bG ?_
    | refine wpList_store_row (o:=⟨none,.store 76 (.tmp 2) (.tmp 40),_,_,_,none⟩) rfl _ _ _ rfl (w.heap.size + 1) #[.slice dk.a1 dk.l1 dk.c1,.slice dk.a2 dk.l2 dk.c2,.slice dk.a3 dk.l3 dk.c3,.slice dk.a4 dk.l4 dk.c4,.slice dk.a5 dk.l5 dk.c5,.int .i64 ck.now,.string p.n,.int .i64 p.c,.string p.z,.slice pa pl pc,.string p.d,.int .i64 p.p,.string n.n,.string n.z,.int .i64 n.c,.int .i64 n.s,.int .i64 n.u,.bool n.d,.slice na nl nc] rfl rfl _ _ Br.out bG rfl HA19.out ?_)
   exact bodyPost_ret (v:=.tuple #[.agg #[.slice dk.a1 dk.l1 dk.c1,.slice dk.a2 dk.l2 dk.c2,.slice dk.a3 dk.l3 dk.c3,.slice dk.a4 dk.l4 dk.c4,.slice dk.a5 dk.l5 dk.c5,.int .i64 ck.now,.string p.n,.int .i64 p.c,.string p.z,.slice pa pl pc,.string p.d,.int .i64 p.p,.string n.n,.string n.z,.int .i64 n.c,.int .i64 n.s,.int .i64 n.u,.bool n.d,.slice na nl nc],.iface T v]) (results_cell_tmp rfl _ _ (w.heap.size + 1) _ _ _ _ _ rfl rfl (setRow_heap _ (w.heap.size + 1) _ #[.slice dk.a1 dk.l1 dk.c1,.slice dk.a2 dk.l2 dk.c2,.slice dk.a3 dk.l3 dk.c3,.slice dk.a4 dk.l4 dk.c4,.slice dk.a5 dk.l5 dk.c5,.int .i64 ck.now,.string p.n,.int .i64 p.c,.string p.z,.slice pa pl pc,.string p.d,.int .i64 p.p,.string n.n,.string n.z,.int .i64 n.c,.int .i64 n.s,.int .i64 n.u,.bool n.d,.slice na nl nc] _ _ Br.out) Tryz.underlying76 rfl bG) rfl ⟨dk,ck,ck,p,e0,_,rfl,HS3.out.elim (fun h => dK.B8 h HNE.out) (fun h => dK.xQ h.1 h.2 (.inl ⟨HNE.out,rfl⟩)),HS1.out,fun h => absurd h HNE.out,below_setRow HB.out af _⟩

end Rc
end Go.Proofs.YtdoldaceehdifaaGreatDoor

namespace Go.Proofs.YtdoldaceehdifaaGreatDoor
open Go.RowKit
namespace Rc

theorem sf (v : Value) (w : World) : (Instr.typeAssert (.iface 131 v) 78 131 true).run Tryz.prog w = .ok (.tuple #[v,.bool true]) w:=by kernel_rfl
theorem jM (v : Value) (w : World) : (Instr.typeAssert (.iface 131 v) 78 138 true).run Tryz.prog w = .ok (.tuple #[.agg #[.string ⟨#[]⟩,.bool false,.bool false,.string ⟨#[]⟩],.bool false]) w:=by kernel_rfl
theorem lp (v : Value) (w : World) : (Instr.typeAssert (.iface 131 v) 78 132 true).run Tryz.prog w = .ok (.tuple #[.agg #[],.bool false]) w:=by kernel_rfl
theorem jL (v : Value) (w : World) : (Instr.typeAssert (.iface 131 v) 78 140 true).run Tryz.prog w = .ok (.tuple #[.agg #[.string ⟨#[]⟩,.int .i64 0,.string ⟨#[]⟩,.string ⟨#[]⟩,.bool false,.string ⟨#[]⟩,.bool false,.slice none 0 0],.bool false]) w:=by kernel_rfl
theorem mv (v : Value) (w : World) : (Instr.typeAssert (.iface 131 v) 78 133 true).run Tryz.prog w = .ok (.tuple #[.agg #[],.bool false]) w:=by kernel_rfl
theorem lq (v : Value) (w : World) : (Instr.typeAssert (.iface 131 v) 78 136 true).run Tryz.prog w = .ok (.tuple #[.agg #[],.bool false]) w:=by kernel_rfl
theorem lr (v : Value) (w : World) : (Instr.typeAssert (.iface 131 v) 78 142 true).run Tryz.prog w = .ok (.tuple #[.agg #[.int .i64 0],.bool false]) w:=by kernel_rfl
theorem jU (v : Value) (w : World) : (Instr.typeAssert (.iface 138 v) 78 131 true).run Tryz.prog w = .ok (.tuple #[.agg #[],.bool false]) w:=by kernel_rfl
theorem oE (v : Value) (w : World) : (Instr.typeAssert (.iface 138 v) 78 138 true).run Tryz.prog w = .ok (.tuple #[v,.bool true]) w:=by kernel_rfl
theorem jR (v : Value) (w : World) : (Instr.typeAssert (.iface 138 v) 78 132 true).run Tryz.prog w = .ok (.tuple #[.agg #[],.bool false]) w:=by kernel_rfl
theorem iL (v : Value) (w : World) : (Instr.typeAssert (.iface 138 v) 78 140 true).run Tryz.prog w = .ok (.tuple #[.agg #[.string ⟨#[]⟩,.int .i64 0,.string ⟨#[]⟩,.string ⟨#[]⟩,.bool false,.string ⟨#[]⟩,.bool false,.slice none 0 0],.bool false]) w:=by kernel_rfl
theorem lv (v : Value) (w : World) : (Instr.typeAssert (.iface 138 v) 78 133 true).run Tryz.prog w = .ok (.tuple #[.agg #[],.bool false]) w:=by kernel_rfl
theorem jS (v : Value) (w : World) : (Instr.typeAssert (.iface 138 v) 78 136 true).run Tryz.prog w = .ok (.tuple #[.agg #[],.bool false]) w:=by kernel_rfl
theorem jT (v : Value) (w : World) : (Instr.typeAssert (.iface 138 v) 78 142 true).run Tryz.prog w = .ok (.tuple #[.agg #[.int .i64 0],.bool false]) w:=by kernel_rfl
theorem k9 (v : Value) (w : World) : (Instr.typeAssert (.iface 132 v) 78 131 true).run Tryz.prog w = .ok (.tuple #[.agg #[],.bool false]) w:=by kernel_rfl
theorem jC (v : Value) (w : World) : (Instr.typeAssert (.iface 132 v) 78 138 true).run Tryz.prog w = .ok (.tuple #[.agg #[.string ⟨#[]⟩,.bool false,.bool false,.string ⟨#[]⟩],.bool false]) w:=by kernel_rfl
theorem sb (v : Value) (w : World) : (Instr.typeAssert (.iface 132 v) 78 132 true).run Tryz.prog w = .ok (.tuple #[v,.bool true]) w:=by kernel_rfl
theorem jB (v : Value) (w : World) : (Instr.typeAssert (.iface 132 v) 78 140 true).run Tryz.prog w = .ok (.tuple #[.agg #[.string ⟨#[]⟩,.int .i64 0,.string ⟨#[]⟩,.string ⟨#[]⟩,.bool false,.string ⟨#[]⟩,.bool false,.slice none 0 0],.bool false]) w:=by kernel_rfl
theorem mj (v : Value) (w : World) : (Instr.typeAssert (.iface 132 v) 78 133 true).run Tryz.prog w = .ok (.tuple #[.agg #[],.bool false]) w:=by kernel_rfl
theorem k7 (v : Value) (w : World) : (Instr.typeAssert (.iface 132 v) 78 136 true).run Tryz.prog w = .ok (.tuple #[.agg #[],.bool false]) w:=by kernel_rfl
theorem k8 (v : Value) (w : World) : (Instr.typeAssert (.iface 132 v) 78 142 true).run Tryz.prog w = .ok (.tuple #[.agg #[.int .i64 0],.bool false]) w:=by kernel_rfl
theorem jQ (v : Value) (w : World) : (Instr.typeAssert (.iface 140 v) 78 131 true).run Tryz.prog w = .ok (.tuple #[.agg #[],.bool false]) w:=by kernel_rfl
theorem iK (v : Value) (w : World) : (Instr.typeAssert (.iface 140 v) 78 138 true).run Tryz.prog w = .ok (.tuple #[.agg #[.string ⟨#[]⟩,.bool false,.bool false,.string ⟨#[]⟩],.bool false]) w:=by kernel_rfl
theorem jN (v : Value) (w : World) : (Instr.typeAssert (.iface 140 v) 78 132 true).run Tryz.prog w = .ok (.tuple #[.agg #[],.bool false]) w:=by kernel_rfl
theorem oD (v : Value) (w : World) : (Instr.typeAssert (.iface 140 v) 78 140 true).run Tryz.prog w = .ok (.tuple #[v,.bool true]) w:=by kernel_rfl
theorem lu (v : Value) (w : World) : (Instr.typeAssert (.iface 140 v) 78 133 true).run Tryz.prog w = .ok (.tuple #[.agg #[],.bool false]) w:=by kernel_rfl
theorem jO (v : Value) (w : World) : (Instr.typeAssert (.iface 140 v) 78 136 true).run Tryz.prog w = .ok (.tuple #[.agg #[],.bool false]) w:=by kernel_rfl
theorem jP (v : Value) (w : World) : (Instr.typeAssert (.iface 140 v) 78 142 true).run Tryz.prog w = .ok (.tuple #[.agg #[.int .i64 0],.bool false]) w:=by kernel_rfl
theorem mu (v : Value) (w : World) : (Instr.typeAssert (.iface 133 v) 78 131 true).run Tryz.prog w = .ok (.tuple #[.agg #[],.bool false]) w:=by kernel_rfl
theorem ln (v : Value) (w : World) : (Instr.typeAssert (.iface 133 v) 78 138 true).run Tryz.prog w = .ok (.tuple #[.agg #[.string ⟨#[]⟩,.bool false,.bool false,.string ⟨#[]⟩],.bool false]) w:=by kernel_rfl
theorem mo (v : Value) (w : World) : (Instr.typeAssert (.iface 133 v) 78 132 true).run Tryz.prog w = .ok (.tuple #[.agg #[],.bool false]) w:=by kernel_rfl
theorem lk (v : Value) (w : World) : (Instr.typeAssert (.iface 133 v) 78 140 true).run Tryz.prog w = .ok (.tuple #[.agg #[.string ⟨#[]⟩,.int .i64 0,.string ⟨#[]⟩,.string ⟨#[]⟩,.bool false,.string ⟨#[]⟩,.bool false,.slice none 0 0],.bool false]) w:=by kernel_rfl
theorem tx (v : Value) (w : World) : (Instr.typeAssert (.iface 133 v) 78 133 true).run Tryz.prog w = .ok (.tuple #[v,.bool true]) w:=by kernel_rfl
theorem mq (v : Value) (w : World) : (Instr.typeAssert (.iface 133 v) 78 136 true).run Tryz.prog w = .ok (.tuple #[.agg #[],.bool false]) w:=by kernel_rfl
theorem mr (v : Value) (w : World) : (Instr.typeAssert (.iface 133 v) 78 142 true).run Tryz.prog w = .ok (.tuple #[.agg #[.int .i64 0],.bool false]) w:=by kernel_rfl
theorem lf (v : Value) (w : World) : (Instr.typeAssert (.iface 136 v) 78 131 true).run Tryz.prog w = .ok (.tuple #[.agg #[],.bool false]) w:=by kernel_rfl
theorem jI (v : Value) (w : World) : (Instr.typeAssert (.iface 136 v) 78 138 true).run Tryz.prog w = .ok (.tuple #[.agg #[.string ⟨#[]⟩,.bool false,.bool false,.string ⟨#[]⟩],.bool false]) w:=by kernel_rfl
theorem la (v : Value) (w : World) : (Instr.typeAssert (.iface 136 v) 78 132 true).run Tryz.prog w = .ok (.tuple #[.agg #[],.bool false]) w:=by kernel_rfl
theorem jH (v : Value) (w : World) : (Instr.typeAssert (.iface 136 v) 78 140 true).run Tryz.prog w = .ok (.tuple #[.agg #[.string ⟨#[]⟩,.int .i64 0,.string ⟨#[]⟩,.string ⟨#[]⟩,.bool false,.string ⟨#[]⟩,.bool false,.slice none 0 0],.bool false]) w:=by kernel_rfl
theorem mm (v : Value) (w : World) : (Instr.typeAssert (.iface 136 v) 78 133 true).run Tryz.prog w = .ok (.tuple #[.agg #[],.bool false]) w:=by kernel_rfl
theorem sd (v : Value) (w : World) : (Instr.typeAssert (.iface 136 v) 78 136 true).run Tryz.prog w = .ok (.tuple #[v,.bool true]) w:=by kernel_rfl
theorem ld (v : Value) (w : World) : (Instr.typeAssert (.iface 136 v) 78 142 true).run Tryz.prog w = .ok (.tuple #[.agg #[.int .i64 0],.bool false]) w:=by kernel_rfl
theorem lj (v : Value) (w : World) : (Instr.typeAssert (.iface 142 v) 78 131 true).run Tryz.prog w = .ok (.tuple #[.agg #[],.bool false]) w:=by kernel_rfl
theorem jK (v : Value) (w : World) : (Instr.typeAssert (.iface 142 v) 78 138 true).run Tryz.prog w = .ok (.tuple #[.agg #[.string ⟨#[]⟩,.bool false,.bool false,.string ⟨#[]⟩],.bool false]) w:=by kernel_rfl
theorem lg (v : Value) (w : World) : (Instr.typeAssert (.iface 142 v) 78 132 true).run Tryz.prog w = .ok (.tuple #[.agg #[],.bool false]) w:=by kernel_rfl
theorem jJ (v : Value) (w : World) : (Instr.typeAssert (.iface 142 v) 78 140 true).run Tryz.prog w = .ok (.tuple #[.agg #[.string ⟨#[]⟩,.int .i64 0,.string ⟨#[]⟩,.string ⟨#[]⟩,.bool false,.string ⟨#[]⟩,.bool false,.slice none 0 0],.bool false]) w:=by kernel_rfl
theorem mn (v : Value) (w : World) : (Instr.typeAssert (.iface 142 v) 78 133 true).run Tryz.prog w = .ok (.tuple #[.agg #[],.bool false]) w:=by kernel_rfl
theorem lh (v : Value) (w : World) : (Instr.typeAssert (.iface 142 v) 78 136 true).run Tryz.prog w = .ok (.tuple #[.agg #[],.bool false]) w:=by kernel_rfl
theorem se (v : Value) (w : World) : (Instr.typeAssert (.iface 142 v) 78 142 true).run Tryz.prog w = .ok (.tuple #[v,.bool true]) w:=by kernel_rfl
theorem jG (v : Value) (w : World) : (Instr.typeAssert (.iface 182 v) 78 131 true).run Tryz.prog w = .ok (.tuple #[.agg #[],.bool false]) w:=by kernel_rfl
theorem iJ (v : Value) (w : World) : (Instr.typeAssert (.iface 182 v) 78 138 true).run Tryz.prog w = .ok (.tuple #[.agg #[.string ⟨#[]⟩,.bool false,.bool false,.string ⟨#[]⟩],.bool false]) w:=by kernel_rfl
theorem jD (v : Value) (w : World) : (Instr.typeAssert (.iface 182 v) 78 132 true).run Tryz.prog w = .ok (.tuple #[.agg #[],.bool false]) w:=by kernel_rfl
theorem iI (v : Value) (w : World) : (Instr.typeAssert (.iface 182 v) 78 140 true).run Tryz.prog w = .ok (.tuple #[.agg #[.string ⟨#[]⟩,.int .i64 0,.string ⟨#[]⟩,.string ⟨#[]⟩,.bool false,.string ⟨#[]⟩,.bool false,.slice none 0 0],.bool false]) w:=by kernel_rfl
theorem k_ (v : Value) (w : World) : (Instr.typeAssert (.iface 182 v) 78 133 true).run Tryz.prog w = .ok (.tuple #[.agg #[],.bool false]) w:=by kernel_rfl
theorem jE (v : Value) (w : World) : (Instr.typeAssert (.iface 182 v) 78 136 true).run Tryz.prog w = .ok (.tuple #[.agg #[],.bool false]) w:=by kernel_rfl
theorem jF (v : Value) (w : World) : (Instr.typeAssert (.iface 182 v) 78 142 true).run Tryz.prog w = .ok (.tuple #[.agg #[.int .i64 0],.bool false]) w:=by kernel_rfl

theorem Cu (w : World) :
  Calls Tryz.prog 35 #[.nilIface] w fun e w' => e = .returned (.int .i64 0) ∧ Below w.heap.size w w':=by
 have HB:=ae (Below.refl w.heap.size w);exact aai

theorem zE (v : Value) (w : World) :
  Calls Tryz.prog 35 #[.iface 131 (v)] w fun e w' => e = .returned (.int .i64 11) ∧ Below w.heap.size w w':=by
 have HB:=ae (Below.refl w.heap.size w);have g0:=sf;have g1:=jM;have g2:=lp;have g3:=jL;have g4:=mv;have g5:=lq;have g6:=lr;exact aai

theorem yo (v : Value) (w : World) :
  Calls Tryz.prog 35 #[.iface 138 (v)] w fun e w' => e = .returned (.int .i64 11) ∧ Below w.heap.size w w':=by
 have HB:=ae (Below.refl w.heap.size w);have g0:=jU;have g1:=oE;have g2:=jR;have g3:=iL;have g4:=lv;have g5:=jS;have g6:=jT;exact aai

theorem zB (v : Value) (w : World) :
  Calls Tryz.prog 35 #[.iface 132 (v)] w fun e w' => e = .returned (.int .i64 8) ∧ Below w.heap.size w w':=by
 have HB:=ae (Below.refl w.heap.size w);have g0:=k9;have g1:=jC;have g2:=sb;have g3:=jB;have g4:=mj;have g5:=k7;have g6:=k8;exact aai

theorem ym (v : Value) (w : World) :
  Calls Tryz.prog 35 #[.iface 140 (v)] w fun e w' => e = .returned (.int .i64 8) ∧ Below w.heap.size w w':=by
 have HB:=ae (Below.refl w.heap.size w);have g0:=jQ;have g1:=iK;have g2:=jN;have g3:=oD;have g4:=lu;have g5:=jO;have g6:=jP;exact aai

theorem Cw (v : Value) (w : World) :
  Calls Tryz.prog 35 #[.iface 133 (v)] w fun e w' => e = .returned (.int .i64 9) ∧ Below w.heap.size w w':=by
 have HB:=ae (Below.refl w.heap.size w);have g0:=mu;have g1:=ln;have g2:=mo;have g3:=lk;have g4:=tx;have g5:=mq;have g6:=mr;exact aai

theorem zC (v : Value) (w : World) :
  Calls Tryz.prog 35 #[.iface 136 (v)] w fun e w' => e = .returned (.int .i64 9) ∧ Below w.heap.size w w':=by
 have HB:=ae (Below.refl w.heap.size w);have g0:=lf;have g1:=jI;have g2:=la;have g3:=jH;have g4:=mm;have g5:=sd;have g6:=ld;exact aai

theorem zD (c : Int) (w : World) :
  Calls Tryz.prog 35 #[.iface 142 (.agg #[.int .i64 c])] w fun e w' => e = .returned (.int .i64 c) ∧ Below w.heap.size w w':=by
 have HB:=ae (Below.refl w.heap.size w);have g0:=lj;have g1:=jK;have g2:=lg;have g3:=jJ;have g4:=mn;have g5:=lh;have g6:=se;go_enter Tryz.func35,Tryz.ntmps35;go_wp2;go_ret;exact ⟨rfl,an _ _⟩

theorem yk (v : Value) (w : World) :
  Calls Tryz.prog 35 #[.iface 182 (v)] w fun e w' => e = .returned (.int .i64 10) ∧ Below w.heap.size w w':=by
 have HB:=ae (Below.refl w.heap.size w);have g0:=jG;have g1:=iJ;have g2:=jD;have g3:=iI;have g4:=k_;have g5:=jE;have g6:=jF;exact aai

end Rc
end Go.Proofs.YtdoldaceehdifaaGreatDoor

namespace Go.Proofs.YtdoldaceehdifaaGreatDoor
open Go.RowKit
namespace Rc
open Mk

theorem zA (hv : Value) (e0 : Int) (w : World) (h : gp hv e0) : Calls Tryz.prog 35 #[hv] w fun e w' => e = .returned (.int .i64 e0) ∧ Below w.heap.size w w':=by
 rcases h with ⟨rfl,rfl⟩ | ⟨_,⟨v,rfl,rfl⟩ | ⟨v,rfl,rfl⟩ | ⟨v,rfl,rfl⟩ | ⟨v,rfl,rfl⟩ | ⟨v,rfl,rfl⟩ | ⟨v,rfl,rfl⟩ | rfl | ⟨v,rfl,rfl⟩⟩
 ·exact Cu w
 ·exact zE v w
 ·exact zB v w
 ·exact Cw v w
 ·exact ym v w
 ·exact yk v w
 ·exact yo v w
 ·exact zD e0 w
 ·exact zC v w
theorem AskPWhy.fits {c : Cl} {t s : ByteArray} {i : Nat} (h : AskPWhy c t i) (hs : ¬ 8000 < s.size) : gX c t s (cM i):=by
 rcases i with _ | _ | _ | i <;> simp only [AskPWhy] at h
 ·exact .inl ⟨.inr h,rfl⟩
 ·exact .inr ⟨hs,h.1,.inl ⟨h.2,rfl⟩⟩
 ·exact .inr ⟨hs,h.1,.inr ⟨h.2.1,.inl ⟨.inl h.2.2,rfl⟩⟩⟩

theorem sM (d : Ad) (c : Cl) (t s : ByteArray) (E : Nat → Addr) (w : World) (hr : aM w d c.raw) (hG : Ers w E) :
  Calls Tryz.prog 8 #[.agg #[.slice d.a1 d.l1 d.c1,.slice d.a2 d.l2 d.c2,.slice d.a3 d.l3 d.c3,.slice d.a4 d.l4 d.c4,.slice d.a5 d.l5 d.c5,.int .i64 c.now],.string t,.string s] w fun e w' => (∃ e0,e = .returned (.int .i64 e0) ∧ gX c t s e0) ∧ Below w.heap.size w w':=by
 obtain ⟨HR,HE,HB⟩:=mY;clear hr hG;go_enter Tryz.func8,Tryz.ntmps8;go_wp2_with fail;by_cases hls : 8000 < s.size
 ·refine (fV s _ hls).mono ?_;rintro e w1 ⟨rfl,rfl⟩;go_wp2;go_ret;exact ⟨⟨_,rfl,.inl ⟨.inl hls,rfl⟩⟩,an _ _⟩
 refine (fW s _ hls).mono ?_;rintro e w0 ⟨rfl,rfl⟩;have HLS:=ae hls;clear hls;go_wp2_with fail;refine (sO d c t E _ (HR.out.below (HB.out.trans ((an _ _).mono HB.out.size))) (HE.out.below (HB.out.trans ((an _ _).mono HB.out.size)))).mono ?_;rintro e w1 ⟨hb,hf⟩;have HBW:=ae hb;obtain ⟨HA0,hbx⟩:=aG hb;have Bk:=ae HA0;replace HB:=upB HB hbx;clear hb hbx HA0;rcases hf with ⟨i,hi8,hwhy,rfl⟩ | ⟨hl,hT,x,va,vl,vc,hx,hn,rfl,hvr⟩
 ·have HW:=ae (hwhy.fits HLS.out);clear hwhy;obtain ⟨cc,hcc⟩ : ∃ cc,cc = cM i:=⟨_,rfl⟩;rw [← hcc] at HW;obtain ⟨k0,k1,k2,k3,k4,k5⟩:=cs6 Bk.out;have ltk_1:=aa Bk.out;go_wp2_with fail;refine (gY E i _ (HE.out.below (HB.out.trans ((an _ _).mono HB.out.size))) hi8).mono ?_;rintro e w2 ⟨rfl,rfl⟩;rw [← hcc];clear hcc;go_wp2;go_ret;exact ⟨⟨_,rfl,HW.out⟩,HB.out.trans ((an _ _).mono HB.out.size)⟩
 have HT:=ae hT;have HX:=ae hx;have HXN:=ae hn;have HL:=ae hl;have HVR:=ae (hvr.below HBW.out);clear hx hn hl hT hvr;obtain ⟨k0,k1,k2,k3,k4,k5⟩:=cs6 Bk.out;have ltk_1:=aa Bk.out;go_wp2_with fail;refine (eO d c.now c.ns s w _ HR.out.n (HB.out.trans ((an _ _).mono HB.out.size))).mono ?_;rintro e w2 ⟨hb,hf⟩;clear k0 k1 k2 k3 k4 k5 ltk_1;obtain ⟨HA0,hbx⟩:=aG hb;replace Bk:=upK Bk hbx;have Bp:=ae HA0;replace HVR:=ae (HVR.out.below hbx);replace HB:=upB HB hbx;clear hb hbx HA0;rcases hf with ⟨hh,n,na,nl,nc,hx,hnn,rfl,z0,z1,hz⟩ | ⟨hh,rfl⟩;rotate_left
 ·obtain ⟨k0,k1,k2,k3,k4,k5⟩:=cs6 Bk.out;have ltk_2:=aa Bk.out;obtain ⟨p0,p1,p2,p3,p4,p5⟩:=cs6 Bp.out;have ltp_2:=aa Bp.out;go_wp2;go_ret;exact ⟨⟨_,rfl,.inr ⟨HLS.out,HL.out,.inr ⟨HT.out,.inl ⟨.inr hh,rfl⟩⟩⟩⟩,HB.out.trans ((an _ _).mono HB.out.size)⟩
 have HN:=ae hx;have HNN:=ae hnn;clear hx hnn hh z0 z1 hz HBW;by_cases h0 : x.p = 0;rotate_left
 ·have hq : (x.p == 0) = false:=by simpa using h0
  have H0:=ae h0;clear h0;obtain ⟨k0,k1,k2,k3,k4,k5⟩:=cs6 Bk.out;have ltk_2:=aa Bk.out;obtain ⟨p0,p1,p2,p3,p4,p5⟩:=cs6 Bp.out;have ltp_2:=aa Bp.out;go_wp2;go_ret;exact ⟨⟨_,rfl,.inr ⟨HLS.out,HL.out,.inr ⟨HT.out,.inr ⟨_,_,x,n,HX.out,HXN.out,HN.out,HNN.out,.inl ⟨H0.out,rfl⟩⟩⟩⟩⟩,HB.out.trans ((an _ _).mono HB.out.size)⟩
 have H0:=ae h0;rw [h0] at Bp;clear h0;obtain ⟨k0,k1,k2,k3,k4,k5⟩:=cs6 Bk.out;have ltk_2:=aa Bk.out;obtain ⟨p0,p1,p2,p3,p4,p5⟩:=cs6 Bp.out;have ltp_2:=aa Bp.out;go_wp2_with fail;have hz:=xY d c x n va vl vc na nl nc _ (w2.alloc (.cells #[.string n.n,.string n.z,.int .i64 n.c,.int .i64 n.s,.int .i64 n.u,.bool n.d,.slice na nl nc] 72)) (HR.out.below (HB.out.trans ((an _ _).mono HB.out.size))) HT.out HX.out (HVR.out.below (an _ _)) E (HE.out.below (HB.out.trans ((an _ _).mono HB.out.size))) (HT.out.2.1.1.2.1 _ _ HN.out);rw [H0.out] at hz;refine hz.mono ?_;clear hz;rintro e w3 ⟨d',c',c3,p',e0,hv,rfl,hset,hin,-,hb⟩;have HSET:=ae hset;have HIN:=ae hin;clear hset hin;clear k0 k1 k2 k3 k4 k5 ltk_2 p0 p1 p2 p3 p4 p5 ltp_2;obtain ⟨HA0,hbx⟩:=aG hb;replace Bk:=upK Bk hbx;replace Bp:=upK Bp hbx;have Bn:=ae HA0;replace HB:=upB HB hbx;clear hb hbx HA0;have HA19 : Hid ((#[.slice d'.a1 d'.l1 d'.c1,.slice d'.a2 d'.l2 d'.c2,.slice d'.a3 d'.l3 d'.c3,.slice d'.a4 d'.l4 d'.c4,.slice d'.a5 d'.l5 d'.c5,.int .i64 c3.now,.string p'.n,.int .i64 p'.c,.string p'.z,.slice va vl vc,.string p'.d,.int .i64 p'.p,.string n.n,.string n.z,.int .i64 n.c,.int .i64 n.s,.int .i64 n.u,.bool n.d,.slice na nl nc] : Array Value).all (·.oneCell') = true):=by show _ = true;simp [Value.oneCell']
 have HG9:=ae (heap_alloc_new w3 (.cells #[.slice none 0 0,.slice none 0 0,.slice none 0 0,.slice none 0 0,.slice none 0 0,.int .i64 0,.string ⟨#[]⟩,.int .i64 0,.string ⟨#[]⟩,.slice none 0 0,.string ⟨#[]⟩,.int .i64 0,.string ⟨#[]⟩,.string ⟨#[]⟩,.int .i64 0,.int .i64 0,.int .i64 0,.bool false,.slice none 0 0] 76));go_wp2_with (refine wpList_store_row (o:=⟨none,.store 76 (.tmp 11) (.tmp 42),_,_,_,none⟩) rfl _ _ _ rfl w3.heap.size #[.slice d'.a1 d'.l1 d'.c1,.slice d'.a2 d'.l2 d'.c2,.slice d'.a3 d'.l3 d'.c3,.slice d'.a4 d'.l4 d'.c4,.slice d'.a5 d'.l5 d'.c5,.int .i64 c3.now,.string p'.n,.int .i64 p'.c,.string p'.z,.slice va vl vc,.string p'.d,.int .i64 p'.p,.string n.n,.string n.z,.int .i64 n.c,.int .i64 n.s,.int .i64 n.u,.bool n.d,.slice na nl nc] rfl rfl _ _ HG9.out bG rfl HA19.out ?_);refine (zA hv e0 _ HIN.out).mono ?_;rintro e w4 ⟨rfl,hb⟩;have HB4:=ae ((below_setRow (HB.out.trans ((an _ _).mono HB.out.size)) HB.out.size _).trans (hb.mono (by simp;have:=HB.out.size;omega)));clear hb;go_wp2;go_ret;exact ⟨⟨_,rfl,.inr ⟨HLS.out,HL.out,.inr ⟨HT.out,.inr ⟨_,_,x,n,HX.out,HXN.out,HN.out,HNN.out,.inr ⟨H0.out,_,HSET.out⟩⟩⟩⟩⟩,HB4.out⟩

theorem gA (d : Ad) (c : Cl) (m s : ByteArray) (w : World) (hr : aM w d c.raw) :
  Calls Tryz.prog 119 #[.agg #[.slice d.a1 d.l1 d.c1,.slice d.a2 d.l2 d.c2,.slice d.a3 d.l3 d.c3,.slice d.a4 d.l4 d.c4,.slice d.a5 d.l5 d.c5,.int .i64 c.now],.string m,.string s] w (ar (∃ (j : Nat) (p : Pd),c.ps[j]? = some p ∧ OtP p s m) w):=by
 obtain ⟨a1,l1,y1,a2,l2,y2,a3,l3,y3,a4,l4,y4,a5,l5,y5⟩:=d;dsimp only;have HR:=ae hr.p;have hl5 : c.ps.length = l5:=by simpa using (show (c.ps.map pdF).length = l5 from hr.p.1)
 have hm5 : l5 ≤ 9223372036854775807:=Nat.le_trans hr.p.2.1 hr.p.2.2.1;clear hr;go_enter Tryz.func119,Tryz.ntmps119;go_wp2;go_loopw [7] (fun i wr => ∃ k : Nat,k ≤ l5 ∧ i = .int .i64 k ∧ Hid (∀ (j : Nat) (p : Pd),j < k → c.ps[j]? = some p → ¬ OtP p s m) ∧ Hid (Below w.heap.size w wr) ∧ Hid (wr.heap[w.heap.size]? = some (.cells #[.slice a1 l1 y1,.slice a2 l2 y2,.slice a3 l3 y3,.slice a4 l4 y4,.slice a5 l5 y5,.int .i64 c.now] 37 (0,0)))) (fun i _ => l5 - (intOf i).toNat);case atStart => exact ⟨0,by omega,rfl,fun _ _ h => absurd h af,an _ _,heap_alloc_new _ _⟩
 case round =>
  obtain ⟨k,hk,rfl,HE,HB,Bk⟩:=hrel;have ltk:=aa Bk.out;by_cases hlt : k < l5
  ·have hlt2 : (k : Int) < (l5 : Int):=aaa
   obtain ⟨b,o,p,rfl,hb,hx,hat⟩:=bQ (HR.out.below HB.out) hlt;obtain ⟨va,vl,vc,hvr,z0,z2,z4,c0,c1,c2,c3,c4,c5⟩:=aU hat;have HX:=ae hx;have HV:=ae hvr;have k4 : wr.cell? ⟨w.heap.size,4,none⟩ = some (.slice (some ⟨b,o,none⟩) l5 y5):=ah Bk.out 4;clear hat hx hvr z0 z2 z4;by_cases h0 : p.d = ⟨#[]⟩
   ·have hq:=cA h0;have H0:=ae h0;clear h0;go_wp2;refine ⟨⟨k + 1,by omega,by go_num,fun j z hj hz => ?_,HB.out.alloc HB.out.size _,(Below.heap_alloc _ _ _ ltk).trans Bk.out⟩,by simp [intOf];omega⟩;by_cases e : j = k
    ·subst e;rw [HX.out] at hz;obtain rfl:=Option.some.inj hz;exact fun h => h.1 H0.out
    ·exact HE.out j z af hz
   have hq0:=aY h0;have H0:=ae h0;clear h0;by_cases h1 : p.d = s
   ·have hq:=aV h1;have H1:=ae h1;clear h1;go_wp2;refine ⟨⟨k + 1,by omega,by go_num,fun j z hj hz => ?_,HB.out.alloc HB.out.size _,(Below.heap_alloc _ _ _ ltk).trans Bk.out⟩,by simp [intOf];omega⟩;by_cases e : j = k
    ·subst e;rw [HX.out] at hz;obtain rfl:=Option.some.inj hz;exact fun h => h.2.1 H1.out
    ·exact HE.out j z af hz
   have hq:=bo h1;have H1:=ae h1;clear h1;go_wp2_with fail;refine (cQ va vl vc p.zs m _ (HV.out.below (an _ _))).mono ?_;rintro e w1 ⟨r,rfl,hi,hb1⟩;obtain ⟨HA0,hbx⟩:=aG hb1;have HI:=ae hi;have HB1:=upB HB hbx;have Bk1:=ae ((hbx.block _ ltk).trans Bk.out);clear hi hb1 hbx HA0 c0 c1 c2 c3 c4 c5 k4;cases r
   ·go_wp2;refine ⟨⟨k + 1,by omega,by go_num,fun j z hj hz => ?_,HB1.out,Bk1.out⟩,by simp [intOf];omega⟩;by_cases e : j = k
    ·subst e;rw [HX.out] at hz;obtain rfl:=Option.some.inj hz;exact fun h => by have:=HI.out.2 h.2.2;cases this
    ·exact HE.out j z af hz
   ·go_wp2;go_ret;exact ar.t ⟨k,p,HX.out,H0.out,H1.out,HI.out.1 bS⟩ HB1.out
  ·obtain rfl : l5 = k:=aaa
   have k4 : wr.cell? ⟨w.heap.size,4,none⟩ = some (.slice a5 l5 y5):=ah Bk.out 4;go_wp2;go_ret;exact ar.f (fun ⟨j,p,hj,hp⟩ => HE.out j p mT hj hp) HB.out

theorem gE {w : World} {base : Nat} {t ty e : TypeId} {i : TypeInfo} {size : Nat} (ht : Tryz.prog.underlying t = some (.slice e)) (hi : Tryz.prog.info? e = some i) {v : Value} {n : Nat} {xs : List Value} (hown : w.ownsRow base e size v n xs) (ax : Option Addr) (cx : Nat) :
  (Builtin.append_ #[t,t] ty #[v,.slice ax 0 cx]).run Tryz.prog w = .ok v w:=by
 exact AR
theorem aZ {w : World} {ops : Array Oper} {rest : List Oper} {o : Oper} {a : Act} {Q : Exit → Act → World → Prop} (hgd : o.guard = none) (s x : Operand) (t : TypeId)
  (ho : o.op = .call { callee:=.builtin .append,args:=#[s,x],argTypes:=#[t,t] })
  (base : Nat) (e : TypeId) (i : TypeInfo) (z : Value) (size bytes : Nat) (ht : Tryz.prog.underlying t = some (.slice e)) (hi : Tryz.prog.info? e = some i) (hz : i.zero = some z)
  (hsize : i.size = size) (hby : i.bytes = bytes) (hzs : z.cells.size = size) (hsz : 0 < size)
  (v : Value) (n : Nat) (xs : List Value) (hs : a.eval s = v) (hown : w.ownsRow base e size v n xs)
  (ax : Option Addr) (l c : Nat) (news : List Value) (hx : a.eval x = .slice ax l c) (hl : news.length = l * size) (hnews : ∀ (j : Nat) u,news[j]? = some u → ∃ ad : Addr,ax = some ad ∧ w.cell? (ad.add j) = some u) (h1 : ∀ u ∈ news,u.oneCell' = true)
  (h63 : n + l ≤ maxLen) (hbytes : (n + l) * bytes ≤ 140737488355328) (hbase : base ≤ w.heap.size)
  (h : ∀ v' w',w'.ownsRow base e size v' (n + l) (xs ++ news) → w.grownBy w' v.ownBlock → wpList Tryz.prog ops Q rest (a.put o.dst v') w') : wpList Tryz.prog ops Q (o :: rest) a w:=by
 rcases news with _ | ⟨u,news⟩
 ·have hl0 : l = 0:=by
   rcases Nat.eq_zero_or_pos l with e | e
   ·exact e
   ·have:=Nat.mul_pos e hsz;simp at hl;omega
  subst hl0;refine wpList_plain hgd fun K hK => ?_;have hr:=gE (ty:=o.type) ht hi hown ax c;exact xv
 ·obtain ⟨ad,rfl,_⟩:=hnews 0 u rfl;exact bm hgd s x t t ho base e e i z size bytes ht ht hi hz hsize hby hzs hsz v n xs hs hown ad l c (u :: news) hx hl (fun j y hy => by
   obtain ⟨ad',e,h2⟩:=hnews j y hy
   cases e
   exact h2) h1 h63 hbytes hbase h

theorem mE (many most : Nat) (w : World) : Calls Tryz.prog 156 #[.bool true,.int .i64 many,.int .i64 most] w fun e w' => e = .returned (.int .i64 7) ∧ Below w.heap.size w w':=by
 exact abr

theorem oK (many most : Nat) (hm : most ≤ many) (w : World) : Calls Tryz.prog 156 #[.bool false,.int .i64 many,.int .i64 most] w fun e w' => e = .returned (.int .i64 9) ∧ Below w.heap.size w w':=by
 have h1 : ¬ ((many : Int) < (most : Int)):=aaa
 exact abr

theorem tM (many most : Nat) (hm : many < most) (w : World) : Calls Tryz.prog 156 #[.bool false,.int .i64 many,.int .i64 most] w fun e w' => e = .returned (.int .i64 0) ∧ Below w.heap.size w w':=by
 have h1 : (many : Int) < (most : Int):=aaa
 exact abr

theorem eM.below {w w' : World} {d : Ad} {c : Cr} {S : Nat → Prop} (h : eM w d c S) (hb : Below w.heap.size w w') : eM w' d c S:=⟨h.n.below hb,h.k.below hb,h.v.below hb,h.x.below hb,h.p.below hb⟩

theorem BJ {w w4 : World} {v4 : Value} {base n j hh : Nat} {xs : List Vd} {x : Vd} {va : Option Addr} {vl vc : Nat} {vss : List (List Value)} {H : Nat → Nat → Nat} {Q Q2 : Nat → Prop} (hV : aS w Q 8 (xs.map vdF) vss H) (hxl : xs.length = n) (hj : j = pl Vd.n xs x.n) (hbs : w.heap.size ≤ base) (hB4 : Below w.heap.size w w4)
  (hxf : ∀ (i : Nat) f,(vdF x)[i]? = some f → ∃ v,[.string x.n,.int .i64 x.c,.string x.z,.string x.k,.bool x.x,.string x.m,.bool x.y,.slice va vl vc][i]? = some v ∧ f.Fr w hh Q2 v) (hq : ∀ k,Q k → Q2 k → False) (ho4 : w4.ownsRow base 118 8 v4 (n + 1) (bh j [.string x.n,.int .i64 x.c,.string x.z,.string x.k,.bool x.x,.string x.m,.bool x.y,.slice va vl vc] vss).flatten) :
  ∃ a' c',v4 = .slice a' (n + 1) c' ∧ aB w4 a' (n + 1) c' 8 118 ((bh (pl Vd.n xs x.n) x xs).map vdF) (fun k => (Q k ∨ Q2 k) ∨ w.heap.size ≤ k):=by
 have hjn : j ≤ n:=by rw [hj,← hxl];exact List.findIdx_le_length
 have hV4:=(hV.below hB4).aH (w':=w4) (S':=fun k => (Q k ∨ Q2 k) ∨ w.heap.size ≤ k) (fun _ _ _ _ => rfl) (fun _ _ s => .inl (.inl s));obtain ⟨H4,hV5⟩:=hV4.ins (p:=j) (r:=vdF x) (vs:=[.string x.n,.int .i64 x.c,.string x.z,.string x.k,.bool x.x,.string x.m,.bool x.y,.slice va vl vc]) (hh:=fun _ => hh) rfl rfl (fun i f hf => by
   obtain ⟨v,h1,h2⟩:=hxf i f hf
   exact ⟨v,h1,h2.aH (fun cu _ q => hB4.block _ (aa q)) (fun _ s => .inl (.inr s))⟩) (fun i zs h hz k r i2 zs2 hr2 hz2 hne e => by
  obtain ⟨v,_,h2⟩:=hxf i _ h;obtain ⟨_,_,_,_,_,_,_,_,h3⟩:=h2
  have hkv : k < vss.length:=by rw [hV.len];exact (List.getElem?_eq_some_iff.1 hr2).1
  obtain ⟨v',_,h5⟩:=hV.cell k r _ hr2 (List.getElem?_eq_getElem hkv) i2 _ hz2;obtain ⟨_,_,_,_,_,_,_,_,h6⟩:=h5
  rcases h3 with h3 | ⟨_,h3,_⟩
  ·exact hz h3
  ·rcases h6 with h6 | ⟨_,h6,_⟩
   ·exact hne h6
   ·rw [e] at h6
    exact hq _ h6 h3) (fun i i2 zs zs2 h _ h2 _ => by
  rcases i with _ | _ | _ | _ | _ | _ | _ | _ | i <;> simp [vdF] at h <;> rcases i2 with _ | _ | _ | _ | _ | _ | _ | _ | i2 <;> simp [vdF] at h2 <;> rfl) aaC
 exact acy

theorem mA (g : Option Addr) (l n : Nat) (vs : List Vd) (x : Vd) (va : Option Addr) (vl vc hh : Nat) (Q Q2 : Nat → Prop) (w : World) (ho : aB w g l n 8 118 (vs.map vdF) Q) (hl8 : l ≤ 8) (hxf : ∀ (i : Nat) f,(vdF x)[i]? = some f → ∃ v,[.string x.n,.int .i64 x.c,.string x.z,.string x.k,.bool x.x,.string x.m,.bool x.y,.slice va vl vc][i]? = some v ∧ f.Fr w hh Q2 v) (hq : ∀ k,Q k → Q2 k → False) :
  Calls Tryz.prog 157 #[.slice g l n,.agg #[.string x.n,.int .i64 x.c,.string x.z,.string x.k,.bool x.x,.string x.m,.bool x.y,.slice va vl vc]] w fun e w' => ∃ a' c',e = .returned (.slice a' (l + 1) c') ∧ aB w' a' (l + 1) c' 8 118 ((bh (pl Vd.n vs x.n) x vs).map vdF) (fun k => (Q k ∨ Q2 k) ∨ w.heap.size ≤ k) ∧ Below w.heap.size w w':=by
 have hll : vs.length = l:=by simpa using ho.1
 have hln : l ≤ n:=ho.2.1;have hnm : n ≤ 9223372036854775807:=ho.2.2.1;have HR:=ae ho.row;obtain ⟨vss,H,hV,hcell⟩:=ho.lA;have hvl : vss.length = l:=by rw [hV.len,List.length_map,hll]
 have HC : Hid (∀ (j : Nat) u,vss.flatten[j]? = some u → ∃ b,g = some ⟨b,0,none⟩ ∧ w.cell? ⟨b,j,none⟩ = some u):=fun j u hj => by
  obtain ⟨b,e,_,h3⟩:=hcell j u hj;exact ⟨b,e,h3⟩
 have HVA:=ae hV.all;have HV1:=ae hV.one;have HFIN : Hid (∀ (w4 : World) v4 base k,k = pl Vd.n vs x.n → w.heap.size ≤ base → Below w.heap.size w w4 → w4.ownsRow base 118 8 v4 (l + 1) (bh k [.string x.n,.int .i64 x.c,.string x.z,.string x.k,.bool x.x,.string x.m,.bool x.y,.slice va vl vc] vss).flatten → ∃ a' c',v4 = .slice a' (l + 1) c' ∧ aB w4 a' (l + 1) c' 8 118 ((bh (pl Vd.n vs x.n) x vs).map vdF) (fun k => (Q k ∨ Q2 k) ∨ w.heap.size ≤ k)):=fun w4 v4 base k hk hbs hB4 ho4 => BJ hV hll hk hbs hB4 hxf hq ho4;obtain ⟨i5,hi5',hz0,hz1,hz2⟩:=info_parts fy;have HI0:=ae (And.intro hi5' (And.intro hz0 (And.intro hz1 hz2)));clear hi5' hz0 hz1 hz2 hV hcell ho hxf hq;go_enter Tryz.func157,Tryz.ntmps157;go_wp2;go_loopw [5] (fun vi wr => ∃ k : Nat,k ≤ l ∧ vi = .int .i64 k ∧ Hid (∀ (j : Nat) y,j < k → vs[j]? = some y → Op.bytesLess y.n.toList x.n.toList = true) ∧ Hid (Below (w.heap.size + 1) (w.alloc (.cells #[.string x.n,.int .i64 x.c,.string x.z,.string x.k,.bool x.x,.string x.m,.bool x.y,.slice va vl vc] 118)) wr)) (fun vi _ => l - (intOf vi).toNat);case atStart => exact ⟨0,by omega,rfl,fun j y hj => by omega,Below.refl _ _⟩
 case round =>
  obtain ⟨k,hk,rfl,HE,HL⟩:=hrel;have hLs : w.heap.size + 1 ≤ wr.heap.size:=by have:=HL.out.size;simpa using this
  have HB:=ae ((an w (.cells #[.string x.n,.int .i64 x.c,.string x.z,.string x.k,.bool x.x,.string x.m,.bool x.y,.slice va vl vc] 118)).trans (HL.out.mono af));have Bx:=ae ((HL.out.block w.heap.size af).trans (heap_alloc_new w (.cells #[.string x.n,.int .i64 x.c,.string x.z,.string x.k,.bool x.x,.string x.m,.bool x.y,.slice va vl vc] 118)));by_cases hlt : k < l
  ·obtain ⟨b,o,y,rfl,hb,hx,hat⟩:=bC (HR.out.below HB.out) hlt;obtain ⟨ya,yl,yc,-,-,-,-,-,hc0,-,-,-,-,-,-,-⟩:=aK hat;have HXy:=ae hx;have hbw : b < wr.heap.size:=hb;have hk1 : (k : Int) < l:=aaa
   have hk2 : decide ((k : Int) < l) = true:=by simp;omega
   clear hb hat hx;cases hless : Op.bytesLess y.n.toList x.n.toList
   ·obtain ⟨Gx,HW,x0,yn,hne0⟩:=ab8;go_wp2_with fail;refine aj av av ?_;repeat (go_big_quiet_step (first | fail))
    refine wpQuiet_nil ?_;rintro _ ⟨q2,rfl⟩;have HB1:=upB HW q2.b;have Cx:=upK Gx q2.b;clear hne0 HW HB x0 yn Gx Bx hc0 hbw;have HB:=HB1;clear HB1;have Bx:=Cx;clear Cx;have HPL : Hid (k = pl Vd.n vs x.n):=(nL HE.out HXy.out hless).symm;have HCQ : Hid (∀ (j : Nat) u,vss.flatten[j]? = some u → ∃ b9,(some ⟨b,o,none⟩ : Option Addr) = some ⟨b9,0,none⟩ ∧ b9 < q2.w.heap.size ∧ q2.w.cell? ⟨b9,j,none⟩ = some u):=fun j u hj => by
     exact abE
    obtain ⟨HOW,hik,hkn⟩:=ab6;have hcap : ¬ n = k:=aaa
    all_goals (
     go_wp2_with (first | (at_builtin;refine aZ rfl _ _ 33 rfl q2.w.heap.size 118 i5 (.agg #[.string ⟨#[]⟩,.int .i64 0,.string ⟨#[]⟩,.string ⟨#[]⟩,.bool false,.string ⟨#[]⟩,.bool false,.slice none 0 0]) 8 112 Tryz.underlying33 HI0.out.1 HI0.out.2.1 HI0.out.2.2.1 HI0.out.2.2.2 rfl al _ _ _ rfl (HOW.out) _ k _ (vss.take k).flatten rfl (dQ HVA.out af) (fun j u hu => by obtain ⟨g,e,hgl,h3⟩:=HCQ.out _ _ (kZ hu);cases e <;> exact ⟨_,rfl,by simp only [Addr.add_lit,Nat.zero_add];exact (ak (an q2.w _) hgl).trans h3⟩) (cw HV1.out k).1 cd af aN ?_))
     intro v5 w5 hown5 hgr5
     replace hown5 : w5.ownsRow q2.w.heap.size 118 8 v5 k (vss.take k).flatten:=aap
     have hb5 : Below q2.w.heap.size q2.w w5:=(an q2.w (.cells #[] 118)).grown hgr5 aN (fun g hg => by simp [Value.ownBlock] at hg;omega);obtain ⟨s1,s2,s3,rfl⟩:=bj hown5;have HO5:=ae hown5;have H5:=ae hb5;have hs6:=hb5.size;have Bx5:=upK Bx hb5;obtain ⟨x0,x1,x2,x3,x4,x5,x6,x7⟩:=cs8 Bx5.out;have hxl:=aa Bx5.out;clear hown5 hgr5 hb5 HOW
     go_wp2_with (first | (at_builtin;refine aZ rfl _ _ 33 rfl q2.w.heap.size 118 i5 (.agg #[.string ⟨#[]⟩,.int .i64 0,.string ⟨#[]⟩,.string ⟨#[]⟩,.bool false,.string ⟨#[]⟩,.bool false,.slice none 0 0]) 8 112 Tryz.underlying33 HI0.out.1 HI0.out.2.1 HI0.out.2.2.1 HI0.out.2.2.2 rfl al _ _ _ rfl (HO5.out.alloc _) _ 1 _ [.string x.n,.int .i64 x.c,.string x.z,.string x.k,.bool x.x,.string x.m,.bool x.y,.slice va vl vc] rfl rfl (fun j u hu => ⟨_,rfl,by rw [Addr.add_lit,Nat.zero_add,ah (heap_alloc_new w5 _)];simpa using hu⟩) aab cd af bF ?_))
     intro v6 w6 hown6 hgr6;have hb6 : Below q2.w.heap.size q2.w w6:=(H5.out.alloc H5.out.size _).grown hgr6 bF (fun g hg => (HO5.out.lt g hg).1);obtain ⟨r1,r2,r3,rfl⟩:=bj hown6;have HO6:=ae hown6;have H6:=ae hb6;have hs7:=hb6.size;clear hown6 hgr6 hb6 x0 x1 x2 x3 x4 x5 x6 x7 hxl
     go_wp2_with (first | (at_builtin;refine aZ rfl _ _ 33 rfl q2.w.heap.size 118 i5 (.agg #[.string ⟨#[]⟩,.int .i64 0,.string ⟨#[]⟩,.string ⟨#[]⟩,.bool false,.string ⟨#[]⟩,.bool false,.slice none 0 0]) 8 112 Tryz.underlying33 HI0.out.1 HI0.out.2.1 HI0.out.2.2.1 HI0.out.2.2.2 rfl al _ _ _ rfl (HO6.out) _ (l - k) _ (vss.drop k).flatten rfl (by rw [gS HVA.out,hvl]) (fun j u hu => by first | (rw [List.drop_eq_nil_of_le af] at hu;simp at hu;done) | (obtain ⟨g,e,hgl,h3⟩:=HCQ.out _ _ (lT HVA.out af hu);cases e <;> exact ⟨_,rfl,by simp only [Addr.add_lit,Nat.zero_add];exact (ak H6.out hgl).trans h3⟩)) (cw HV1.out k).2 cd af af ?_))
     intro v7 w7 hown7 hgr7;have hb7 : Below q2.w.heap.size q2.w w7:=H6.out.grown hgr7 af (fun g hg => (HO6.out.lt g hg).1)
     replace hown7 : w7.ownsRow q2.w.heap.size 118 8 v7 (l + 1) (bh k [.string x.n,.int .i64 x.c,.string x.z,.string x.k,.bool x.x,.string x.m,.bool x.y,.slice va vl vc] vss).flatten:=by
      have e9 : k + 1 + (l - k) = l + 1:=aaa
      try rw [e9] at hown7
      simpa [bh] using hown7
     have HB7:=upB HB hb7;obtain ⟨a',c',rfl,hR⟩:=HFIN.out w7 v7 q2.w.heap.size k HPL.out HB.out.size HB7.out hown7;have HR7:=ae hR;clear hown7 hgr7 hb7 hR hik hkn hcap
     go_wp2
     go_ret
     exact ⟨a',c',rfl,HR7.out,HB7.out⟩)
   ·obtain ⟨Gx,HW,x0,yn,hne0⟩:=ab8;go_wp2_with fail;refine aj av av ?_;repeat (go_big_quiet_step (first | fail))
    refine wpQuiet_nil ?_;rintro _ ⟨q2,rfl⟩;have HB1:=upB HW q2.b;have Cx:=upK Gx q2.b;clear hne0 HW HB x0 yn Gx Bx hc0 hbw;have HB:=HB1;clear HB1;have Bx:=Cx;clear Cx;go_wp2;refine ⟨⟨k + 1,by omega,by go_num,fun j z hj hz => ?_,HL.out.trans (q2.b.mono af)⟩,by simp [intOf];omega⟩;by_cases e : j = k
    ·subst e;rw [HXy.out] at hz;obtain rfl:=Option.some.inj hz;exact hless
    ·exact HE.out j z af hz
  ·have hk1 : ¬ (k : Int) < l:=aaa
   have hk2 : decide ((k : Int) < l) = false:=by simp;omega
   have Gx:=Bx;have HW:=HB;have x0:=fun q : Wd wr => q.slot (o:=0) Gx.out rfl;have hne0:=Wd.ne wr;go_wp2_with fail;refine aj av av ?_;repeat (go_big_quiet_step (first | fail))
   refine wpQuiet_nil ?_;rintro _ ⟨q2,rfl⟩;have HB1:=upB HW q2.b;have Cx:=upK Gx q2.b;clear hne0 HW HB x0 Gx Bx;have HB:=HB1;clear HB1;have Bx:=Cx;clear Cx;have HPL : Hid (k = pl Vd.n vs x.n):=by show k = _;rw [fw (nm:=Vd.n) (xs:=vs) (t:=x.n) (fun j y hy => HE.out j y ke hy)];omega
   have HCQ : Hid (∀ (j : Nat) u,vss.flatten[j]? = some u → ∃ b9,g = some ⟨b9,0,none⟩ ∧ b9 < q2.w.heap.size ∧ q2.w.cell? ⟨b9,j,none⟩ = some u):=fun j u hj => by
    exact abE
   obtain ⟨HOW,hik,hkn⟩:=ab6;rcases g with _ | ⟨b2,f2,sp⟩
   ·have hl0 : l = 0:=Classical.byContradiction fun hne0 => by
     have h1 : vss[0]? = some (vss[0]'(by omega)):=List.getElem?_eq_getElem _;have h2 : 0 < (vss[0]'(by omega)).length:=by rw [HVA.out 0 _ h1];decide
     obtain ⟨g,e,_⟩:=HCQ.out _ _ (gg HVA.out h1 (List.getElem?_eq_getElem h2));cases e
    obtain rfl : k = 0:=aaa
    subst hl0;by_cases hcap : n = 0;all_goals (
     go_wp2_with (first | (at_builtin;refine aZ rfl _ _ 33 rfl q2.w.heap.size 118 i5 (.agg #[.string ⟨#[]⟩,.int .i64 0,.string ⟨#[]⟩,.string ⟨#[]⟩,.bool false,.string ⟨#[]⟩,.bool false,.slice none 0 0]) 8 112 Tryz.underlying33 HI0.out.1 HI0.out.2.1 HI0.out.2.2.1 HI0.out.2.2.2 rfl al _ _ _ rfl (HOW.out) _ 0 _ (vss.take 0).flatten rfl (dQ HVA.out af) (fun j u hu => by obtain ⟨g,e,hgl,h3⟩:=HCQ.out _ _ (kZ hu);cases e <;> exact ⟨_,rfl,by simp only [Addr.add_lit,Nat.zero_add];exact (ak (an q2.w _) hgl).trans h3⟩) (cw HV1.out 0).1 cd af aN ?_))
     intro v5 w5 hown5 hgr5
     replace hown5 : w5.ownsRow q2.w.heap.size 118 8 v5 0 (vss.take 0).flatten:=aap
     have hb5 : Below q2.w.heap.size q2.w w5:=(an q2.w (.cells #[] 118)).grown hgr5 aN (fun g hg => by simp [Value.ownBlock] at hg;omega);obtain ⟨s1,s2,s3,rfl⟩:=bj hown5;have HO5:=ae hown5;have H5:=ae hb5;have hs6:=hb5.size;have Bx5:=upK Bx hb5;obtain ⟨x0,x1,x2,x3,x4,x5,x6,x7⟩:=cs8 Bx5.out;have hxl:=aa Bx5.out;clear hown5 hgr5 hb5 HOW
     go_wp2_with (first | (at_builtin;refine aZ rfl _ _ 33 rfl q2.w.heap.size 118 i5 (.agg #[.string ⟨#[]⟩,.int .i64 0,.string ⟨#[]⟩,.string ⟨#[]⟩,.bool false,.string ⟨#[]⟩,.bool false,.slice none 0 0]) 8 112 Tryz.underlying33 HI0.out.1 HI0.out.2.1 HI0.out.2.2.1 HI0.out.2.2.2 rfl al _ _ _ rfl (HO5.out.alloc _) _ 1 _ [.string x.n,.int .i64 x.c,.string x.z,.string x.k,.bool x.x,.string x.m,.bool x.y,.slice va vl vc] rfl rfl (fun j u hu => ⟨_,rfl,by rw [Addr.add_lit,Nat.zero_add,ah (heap_alloc_new w5 _)];simpa using hu⟩) aab cd af bF ?_))
     intro v6 w6 hown6 hgr6;have hb6 : Below q2.w.heap.size q2.w w6:=(H5.out.alloc H5.out.size _).grown hgr6 bF (fun g hg => (HO5.out.lt g hg).1);obtain ⟨r1,r2,r3,rfl⟩:=bj hown6;have HO6:=ae hown6;have H6:=ae hb6;have hs7:=hb6.size;clear hown6 hgr6 hb6 x0 x1 x2 x3 x4 x5 x6 x7 hxl
     go_wp2_with (first | (at_builtin;refine aZ rfl _ _ 33 rfl q2.w.heap.size 118 i5 (.agg #[.string ⟨#[]⟩,.int .i64 0,.string ⟨#[]⟩,.string ⟨#[]⟩,.bool false,.string ⟨#[]⟩,.bool false,.slice none 0 0]) 8 112 Tryz.underlying33 HI0.out.1 HI0.out.2.1 HI0.out.2.2.1 HI0.out.2.2.2 rfl al _ _ _ rfl (HO6.out) _ (0 - 0) _ (vss.drop 0).flatten rfl (by rw [gS HVA.out,hvl]) (fun j u hu => by first | (rw [List.drop_eq_nil_of_le af] at hu;simp at hu;done) | (obtain ⟨g,e,hgl,h3⟩:=HCQ.out _ _ (lT HVA.out af hu);cases e <;> exact ⟨_,rfl,by simp only [Addr.add_lit,Nat.zero_add];exact (ak H6.out hgl).trans h3⟩)) (cw HV1.out 0).2 cd af af ?_))
     intro v7 w7 hown7 hgr7;have hb7 : Below q2.w.heap.size q2.w w7:=H6.out.grown hgr7 af (fun g hg => (HO6.out.lt g hg).1)
     replace hown7 : w7.ownsRow q2.w.heap.size 118 8 v7 (1) (bh 0 [.string x.n,.int .i64 x.c,.string x.z,.string x.k,.bool x.x,.string x.m,.bool x.y,.slice va vl vc] vss).flatten:=by
      have e9 : 0 + 1 + (0 - 0) = 1:=aaa
      try rw [e9] at hown7
      simpa [bh] using hown7
     have HB7:=upB HB hb7;obtain ⟨a',c',rfl,hR⟩:=HFIN.out w7 v7 q2.w.heap.size 0 HPL.out HB.out.size HB7.out hown7;have HR7:=ae hR;clear hown7 hgr7 hb7 hR hik hkn hcap
     go_wp2
     go_ret
     exact ⟨a',c',rfl,HR7.out,HB7.out⟩)
   by_cases hcap : n = k;all_goals (
    go_wp2_with (first | (at_builtin;refine aZ rfl _ _ 33 rfl q2.w.heap.size 118 i5 (.agg #[.string ⟨#[]⟩,.int .i64 0,.string ⟨#[]⟩,.string ⟨#[]⟩,.bool false,.string ⟨#[]⟩,.bool false,.slice none 0 0]) 8 112 Tryz.underlying33 HI0.out.1 HI0.out.2.1 HI0.out.2.2.1 HI0.out.2.2.2 rfl al _ _ _ rfl (HOW.out) _ k _ (vss.take k).flatten rfl (dQ HVA.out af) (fun j u hu => by obtain ⟨g,e,hgl,h3⟩:=HCQ.out _ _ (kZ hu);cases e <;> exact ⟨_,rfl,by simp only [Addr.add_lit,Nat.zero_add];exact (ak (an q2.w _) hgl).trans h3⟩) (cw HV1.out k).1 cd af aN ?_))
    intro v5 w5 hown5 hgr5
    replace hown5 : w5.ownsRow q2.w.heap.size 118 8 v5 k (vss.take k).flatten:=aap
    have hb5 : Below q2.w.heap.size q2.w w5:=(an q2.w (.cells #[] 118)).grown hgr5 aN (fun g hg => by simp [Value.ownBlock] at hg;omega);obtain ⟨s1,s2,s3,rfl⟩:=bj hown5;have HO5:=ae hown5;have H5:=ae hb5;have hs6:=hb5.size;have Bx5:=upK Bx hb5;obtain ⟨x0,x1,x2,x3,x4,x5,x6,x7⟩:=cs8 Bx5.out;have hxl:=aa Bx5.out;clear hown5 hgr5 hb5 HOW
    go_wp2_with (first | (at_builtin;refine aZ rfl _ _ 33 rfl q2.w.heap.size 118 i5 (.agg #[.string ⟨#[]⟩,.int .i64 0,.string ⟨#[]⟩,.string ⟨#[]⟩,.bool false,.string ⟨#[]⟩,.bool false,.slice none 0 0]) 8 112 Tryz.underlying33 HI0.out.1 HI0.out.2.1 HI0.out.2.2.1 HI0.out.2.2.2 rfl al _ _ _ rfl (HO5.out.alloc _) _ 1 _ [.string x.n,.int .i64 x.c,.string x.z,.string x.k,.bool x.x,.string x.m,.bool x.y,.slice va vl vc] rfl rfl (fun j u hu => ⟨_,rfl,by rw [Addr.add_lit,Nat.zero_add,ah (heap_alloc_new w5 _)];simpa using hu⟩) aab cd af bF ?_))
    intro v6 w6 hown6 hgr6;have hb6 : Below q2.w.heap.size q2.w w6:=(H5.out.alloc H5.out.size _).grown hgr6 bF (fun g hg => (HO5.out.lt g hg).1);obtain ⟨r1,r2,r3,rfl⟩:=bj hown6;have HO6:=ae hown6;have H6:=ae hb6;have hs7:=hb6.size;clear hown6 hgr6 hb6 x0 x1 x2 x3 x4 x5 x6 x7 hxl
    go_wp2_with (first | (at_builtin;refine aZ rfl _ _ 33 rfl q2.w.heap.size 118 i5 (.agg #[.string ⟨#[]⟩,.int .i64 0,.string ⟨#[]⟩,.string ⟨#[]⟩,.bool false,.string ⟨#[]⟩,.bool false,.slice none 0 0]) 8 112 Tryz.underlying33 HI0.out.1 HI0.out.2.1 HI0.out.2.2.1 HI0.out.2.2.2 rfl al _ _ _ rfl (HO6.out) _ (l - k) _ (vss.drop k).flatten rfl (by rw [gS HVA.out,hvl]) (fun j u hu => by first | (rw [List.drop_eq_nil_of_le af] at hu;simp at hu;done) | (obtain ⟨g,e,hgl,h3⟩:=HCQ.out _ _ (lT HVA.out af hu);cases e <;> exact ⟨_,rfl,by simp only [Addr.add_lit,Nat.zero_add];exact (ak H6.out hgl).trans h3⟩)) (cw HV1.out k).2 cd af af ?_))
    intro v7 w7 hown7 hgr7;have hb7 : Below q2.w.heap.size q2.w w7:=H6.out.grown hgr7 af (fun g hg => (HO6.out.lt g hg).1)
    replace hown7 : w7.ownsRow q2.w.heap.size 118 8 v7 (l + 1) (bh k [.string x.n,.int .i64 x.c,.string x.z,.string x.k,.bool x.x,.string x.m,.bool x.y,.slice va vl vc] vss).flatten:=by
     have e9 : k + 1 + (l - k) = l + 1:=aaa
     try rw [e9] at hown7
     simpa [bh] using hown7
    have HB7:=upB HB hb7;obtain ⟨a',c',rfl,hR⟩:=HFIN.out w7 v7 q2.w.heap.size k HPL.out HB.out.size HB7.out hown7;have HR7:=ae hR;clear hown7 hgr7 hb7 hR hik hkn hcap
    go_wp2
    go_ret
    exact ⟨a',c',rfl,HR7.out,HB7.out⟩)

end Rc
end Go.Proofs.YtdoldaceehdifaaGreatDoor

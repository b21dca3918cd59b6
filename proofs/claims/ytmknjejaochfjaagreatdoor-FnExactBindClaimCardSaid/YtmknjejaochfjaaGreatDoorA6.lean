import Derived.Test.YtmknjejaochfjaaGreatDoorA5
import Derived.Stop.LaidErr
import Derived.ChangeVars
import Derived.Deep.Strs
import Derived.Deep.Fields
import Derived.WideShapes
import Derived.ChangeArms
/-
 A claim bound by its name, as the program tells it.
-/
set_option maxRecDepth 100000
set_option maxHeartbeats 12800000
namespace Go.Proofs.YtmknjejaochfjaaGreatDoor
open Go.RowKit
namespace Rc
open Mk

theorem ibind_any (d : Ad) (c : Cl) (t : ByteArray) (E : Nat → Addr) (w : World) (hr : ClRow w d c.raw) (hG : Ers w E) :
  Calls Tryz.prog 7 #[.agg #[.slice d.a1 d.l1 d.c1,.slice d.a2 d.l2 d.c2,.slice d.a3 d.l3 d.c3,.slice d.a4 d.l4 d.c4,.slice d.a5 d.l5 d.c5,.int .i64 c.now],.string t] w (OutI (BindIs c t) w):=by
 have HR:=hidK hr;have HE:=hidK hG;have HB:=hidK (Below.refl w.heap.size w);clear hr hG
 go_enter Tryz.func7,Tryz.ntmps7
 go_wp2_with fail;refine (iask_any d c t E _ (HR.out.below (HB.out.trans ((below2 _ _ _).mono HB.out.size))) (HE.out.below (HB.out.trans ((below2 _ _ _).mono HB.out.size)))).mono ?_;rintro e w1 ⟨hb,hf⟩;obtain ⟨HA0,HA1,hbx⟩:=slots2 hb;have Bk:=hidK HA0;have Br:=hidK HA1;replace HB:=upB HB hbx;clear hb hbx HA0 HA1
 rcases hf with ⟨n,hn9,hwhy,rfl⟩ | ⟨hl,hT,x,hx,hn,rfl,z0,z2,z4⟩
 ·obtain ⟨k0,k1,k2,k3,k4,k5⟩:=cs6 Bk.out;have ltk_1:=lt_of_some Bk.out;have HV : Hid (BindIs c t (co0 (codeOf n))):=.inl ⟨n,hn9,hwhy,rfl⟩;obtain ⟨cc,hcc⟩ : ∃ cc,cc = codeOf n:=⟨_,rfl⟩;rw [← hcc] at HV;go_wp2_with fail;refine (refused_any E n cc hcc _ (HE.out.below (HB.out.trans ((below1 _ _).mono HB.out.size))) (by first | decide | omega)).mono ?_;rintro e w2 ⟨rfl,hb⟩;clear k0 k1 k2 k3 k4 k5 ltk_1;obtain ⟨HA0,hbx⟩:=slots1 hb;replace Bk:=upK Bk hbx;replace Br:=upK Br hbx;have Bx:=hidK HA0;replace HB:=upB HB hbx;clear hb hbx HA0;clear hcc;obtain ⟨r0,r1,r2,r3,r4,r5,r6,r7⟩:=cs8 Br.out;have ltr_2:=lt_of_some Br.out;have fr0:=froK Br.out 0;have fr1:=froK Br.out 1;have fr2:=froK Br.out 2;have fr3:=froK Br.out 3;have fr4:=froK Br.out 4;have fr5:=froK Br.out 5;have fr6:=froK Br.out 6;have fr7:=froK Br.out 7;have hrl : w.heap.size + 1 < w2.heap.size:=lt_of_some Br.out
  go_wp2
  exact bodyPost_ret (v:=.agg #[.slice none 0 0,.slice none 0 0,.slice none 0 0,.slice none 0 0,.slice none 0 0,.int .i64 0,.string ⟨#[]⟩,.int .i64 cc]) (by simp [results,Tryz.results7,go_sem, *]) rfl ⟨ad0,co0 cc,rfl,HV.out,own0 _ _,sb1 (sb1 (sb1 (sb1 (sb1 (sb1 (sb1 (sb1 (HB.out))))))))⟩
 have HT:=hidK hT;have HX:=hidK (And.intro hx hn);obtain ⟨kd,hk,hkn⟩:=hit_yes (hT.2.2.1.2 _ x hx).1;have HK:=hidK (And.intro hk hkn);clear hT hx hn z0 z2 z4 hk hkn;obtain ⟨k0,k1,k2,k3,k4,k5⟩:=cs6 Bk.out;have ltk_1:=lt_of_some Bk.out;go_wp2_with fail;refine (iunb_any d c x _ kd E _ (HR.out.below (HB.out.trans ((below1 _ _).mono HB.out.size))) (HE.out.below (HB.out.trans ((below1 _ _).mono HB.out.size))) HK.out.1 HK.out.2 HT.out.2.1.2.1.2.2).mono ?_;rintro e w2 ⟨hb,hf⟩;clear k0 k1 k2 k3 k4 k5 ltk_1;obtain ⟨HA0,hbx⟩:=slots1 hb;replace Bk:=upK Bk hbx;replace Br:=upK Br hbx;have Bx:=hidK HA0;replace HB:=upB HB hbx;clear hb hbx HA0
 rcases hf with ⟨hv,rfl⟩ | ⟨hv,hkx,rfl⟩ | ⟨hv,hkx,rfl⟩
 ·obtain ⟨k0,k1,k2,k3,k4,k5⟩:=cs6 Bk.out;have ltk_2:=lt_of_some Bk.out;obtain ⟨x0,x1,x2,x3,x4⟩:=cs5 Bx.out;have ltx_2:=lt_of_some Bx.out;have HV : Hid (BindIs c t (co0 (codeOf 6))):=.inr ⟨hl,HT.out,_,x,_,kd,HX.out.1,HX.out.2,HK.out.1,HK.out.2,.inl ⟨hv,rfl⟩⟩;obtain ⟨cc,hcc⟩ : ∃ cc,cc = codeOf 6:=⟨_,rfl⟩;rw [← hcc] at HV;go_wp2_with fail;refine (refused_any E 6 cc hcc _ (HE.out.below HB.out) (by first | decide | omega)).mono ?_;rintro e w3 ⟨rfl,hb⟩;clear k0 k1 k2 k3 k4 k5 ltk_2 x0 x1 x2 x3 x4 ltx_2;replace Bk:=upK Bk hb;replace Br:=upK Br hb;replace Bx:=upK Bx hb;replace HB:=upB HB hb;clear hb;clear hcc;obtain ⟨r0,r1,r2,r3,r4,r5,r6,r7⟩:=cs8 Br.out;have ltr_3:=lt_of_some Br.out;have fr0:=froK Br.out 0;have fr1:=froK Br.out 1;have fr2:=froK Br.out 2;have fr3:=froK Br.out 3;have fr4:=froK Br.out 4;have fr5:=froK Br.out 5;have fr6:=froK Br.out 6;have fr7:=froK Br.out 7;have hrl : w.heap.size + 1 < w3.heap.size:=lt_of_some Br.out
  go_wp2
  exact bodyPost_ret (v:=.agg #[.slice none 0 0,.slice none 0 0,.slice none 0 0,.slice none 0 0,.slice none 0 0,.int .i64 0,.string ⟨#[]⟩,.int .i64 cc]) (by simp [results,Tryz.results7,go_sem, *]) rfl ⟨ad0,co0 cc,rfl,HV.out,own0 _ _,sb1 (sb1 (sb1 (sb1 (sb1 (sb1 (sb1 (sb1 (HB.out))))))))⟩
 ·obtain ⟨k0,k1,k2,k3,k4,k5⟩:=cs6 Bk.out;have ltk_2:=lt_of_some Bk.out;obtain ⟨x0,x1,x2,x3,x4⟩:=cs5 Bx.out;have ltx_2:=lt_of_some Bx.out;have HV : Hid (BindIs c t (co0 (codeOf 7))):=.inr ⟨hl,HT.out,_,x,_,kd,HX.out.1,HX.out.2,HK.out.1,HK.out.2,.inr ⟨hv,.inl ⟨hkx,rfl⟩⟩⟩;obtain ⟨cc,hcc⟩ : ∃ cc,cc = codeOf 7:=⟨_,rfl⟩;rw [← hcc] at HV;go_wp2_with fail;refine (refused_any E 7 cc hcc _ (HE.out.below HB.out) (by first | decide | omega)).mono ?_;rintro e w3 ⟨rfl,hb⟩;clear k0 k1 k2 k3 k4 k5 ltk_2 x0 x1 x2 x3 x4 ltx_2;replace Bk:=upK Bk hb;replace Br:=upK Br hb;replace Bx:=upK Bx hb;replace HB:=upB HB hb;clear hb;clear hcc;obtain ⟨r0,r1,r2,r3,r4,r5,r6,r7⟩:=cs8 Br.out;have ltr_3:=lt_of_some Br.out;have fr0:=froK Br.out 0;have fr1:=froK Br.out 1;have fr2:=froK Br.out 2;have fr3:=froK Br.out 3;have fr4:=froK Br.out 4;have fr5:=froK Br.out 5;have fr6:=froK Br.out 6;have fr7:=froK Br.out 7;have hrl : w.heap.size + 1 < w3.heap.size:=lt_of_some Br.out
  go_wp2
  exact bodyPost_ret (v:=.agg #[.slice none 0 0,.slice none 0 0,.slice none 0 0,.slice none 0 0,.slice none 0 0,.int .i64 0,.string ⟨#[]⟩,.int .i64 cc]) (by simp [results,Tryz.results7,go_sem, *]) rfl ⟨ad0,co0 cc,rfl,HV.out,own0 _ _,sb1 (sb1 (sb1 (sb1 (sb1 (sb1 (sb1 (sb1 (HB.out))))))))⟩
 have HVX:=hidK (And.intro hv hkx);clear hv hkx;obtain ⟨k0,k1,k2,k3,k4,k5⟩:=cs6 Bk.out;have ltk_2:=lt_of_some Bk.out;obtain ⟨x0,x1,x2,x3,x4⟩:=cs5 Bx.out;have ltx_2:=lt_of_some Bx.out;go_wp2_with fail;refine (ibindIn_any d c x ⟨#[]⟩ _ _ kd E _ (HR.out.below HB.out) (HE.out.below HB.out) HT.out HX.out.1 HVX.out.1 HK.out.1 HK.out.2 (.inl rfl)).mono ?_;rintro e w3 ⟨g,o9,rfl,hI,ho,hb⟩;have HO:=hidK ho;have HQ:=hidK hb.size;have hw2 : w.heap.size + 1 < w2.heap.size:=lt_of_some Br.out;have HV : Hid (BindIs c t o9):=.inr ⟨hl,HT.out,_,x,_,kd,HX.out.1,HX.out.2,HK.out.1,HK.out.2,.inr ⟨HVX.out.1,.inr ⟨HVX.out.2,hI⟩⟩⟩;clear hI ho;clear k0 k1 k2 k3 k4 k5 ltk_2 x0 x1 x2 x3 x4 ltx_2;replace Bk:=upK Bk hb;replace Br:=upK Br hb;replace Bx:=upK Bx hb;replace HB:=upB HB hb;clear hb;obtain ⟨r0,r1,r2,r3,r4,r5,r6,r7⟩:=cs8 Br.out;have ltr_3:=lt_of_some Br.out;have fr0:=froK Br.out 0;have fr1:=froK Br.out 1;have fr2:=froK Br.out 2;have fr3:=froK Br.out 3;have fr4:=froK Br.out 4;have fr5:=froK Br.out 5;have fr6:=froK Br.out 6;have fr7:=froK Br.out 7;have hrl : w.heap.size + 1 < w3.heap.size:=lt_of_some Br.out
 go_wp2
 refine bodyPost_ret (v:=.agg #[.slice g.a1 g.l1 g.c1,.slice g.a2 g.l2 g.c2,.slice g.a3 g.l3 g.c3,.slice g.a4 g.l4 g.c4,.slice g.a5 g.l5 g.c5,.int .i64 o9.c.now,.string o9.n,.int .i64 o9.p]) (by simp [results,Tryz.results7,go_sem, *]) rfl ⟨g,o9,rfl,HV.out,?_,sb1 (sb1 (sb1 (sb1 (sb1 (sb1 (sb1 (sb1 (HB.out))))))))⟩;obtain ⟨P,hP⟩:=HO.out;exact ⟨P,hP.keep (w':=((((((((w3.setCell ⟨w.heap.size + 1,0,none⟩ (.slice g.a1 g.l1 g.c1)).setCell ⟨w.heap.size + 1,1,none⟩ (.slice g.a2 g.l2 g.c2)).setCell ⟨w.heap.size + 1,2,none⟩ (.slice g.a3 g.l3 g.c3)).setCell ⟨w.heap.size + 1,3,none⟩ (.slice g.a4 g.l4 g.c4)).setCell ⟨w.heap.size + 1,4,none⟩ (.slice g.a5 g.l5 g.c5)).setCell ⟨w.heap.size + 1,5,none⟩ (.int .i64 o9.c.now)).setCell ⟨w.heap.size + 1,6,none⟩ (.string o9.n)).setCell ⟨w.heap.size + 1,7,none⟩ (.int .i64 o9.p))) (fun q hq s => by have s1 : w2.heap.size ≤ q:=s;rw [Below.heap_setCell _ _ _ _ (show q ≠ w.heap.size + 1 by omega),Below.heap_setCell _ _ _ _ (show q ≠ w.heap.size + 1 by omega),Below.heap_setCell _ _ _ _ (show q ≠ w.heap.size + 1 by omega),Below.heap_setCell _ _ _ _ (show q ≠ w.heap.size + 1 by omega),Below.heap_setCell _ _ _ _ (show q ≠ w.heap.size + 1 by omega),Below.heap_setCell _ _ _ _ (show q ≠ w.heap.size + 1 by omega),Below.heap_setCell _ _ _ _ (show q ≠ w.heap.size + 1 by omega),Below.heap_setCell _ _ _ _ (show q ≠ w.heap.size + 1 by omega)]) (fun q _ s => by have s1 : w2.heap.size ≤ q:=s;show w.heap.size ≤ q;omega)⟩

theorem run_append_empty {w : World} {base : Nat} {t ty e : TypeId} {i : TypeInfo} {size : Nat} (ht : Tryz.prog.underlying t = some (.slice e)) (hi : Tryz.prog.info? e = some i) {v : Value} {n : Nat} {xs : List Value} (hown : w.ownsRow base e size v n xs) (ax : Option Addr) (cx : Nat) :
  (Builtin.append_ #[t,t] ty #[v,.slice ax 0 cx]).run Tryz.prog w = .ok v w:=by
 rcases hown.2 with ⟨rfl,rfl⟩ | ⟨g,cap,cur,rfl,_,_,hnc,_⟩
 ·cases ax <;> simp [Builtin.append_,run_underlying ht,sizeOf,typeInfo,hi,Builtin.lenOf,Builtin.firstCells,loadCells,loadCellsFrom]
 ·cases ax <;> simp [Builtin.append_,run_underlying ht,sizeOf,typeInfo,hi,Builtin.lenOf,Builtin.firstCells,hnc,storeCells,loadCells,loadCellsFrom]
theorem wpList_append_any {w : World} {ops : Array Oper} {rest : List Oper} {o : Oper} {a : Act} {Q : Exit → Act → World → Prop} (hgd : o.guard = none) (s x : Operand) (t : TypeId)
  (ho : o.op = .call { callee:=.builtin .append,args:=#[s,x],argTypes:=#[t,t] })
  (base : Nat) (e : TypeId) (i : TypeInfo) (z : Value) (size bytes : Nat) (ht : Tryz.prog.underlying t = some (.slice e)) (hi : Tryz.prog.info? e = some i) (hz : i.zero = some z)
  (hsize : i.size = size) (hby : i.bytes = bytes) (hzs : z.cells.size = size) (hsz : 0 < size)
  (v : Value) (n : Nat) (xs : List Value) (hs : a.eval s = v) (hown : w.ownsRow base e size v n xs)
  (ax : Option Addr) (l c : Nat) (news : List Value) (hx : a.eval x = .slice ax l c) (hl : news.length = l * size) (hnews : ∀ (j : Nat) u,news[j]? = some u → ∃ ad : Addr,ax = some ad ∧ w.cell? (ad.add j) = some u) (h1 : ∀ u ∈ news,u.oneCell' = true)
  (h63 : n + l ≤ maxLen) (hbytes : (n + l) * bytes ≤ 140737488355328) (hbase : base ≤ w.heap.size)
  (h : ∀ v' w',w'.ownsRow base e size v' (n + l) (xs ++ news) → w.grownBy w' v.ownBlock → wpList Tryz.prog ops Q rest (a.put o.dst v') w') : wpList Tryz.prog ops Q (o :: rest) a w:=by
 rcases news with _ | ⟨u,news⟩
 ·have hl0 : l = 0:=by
   rcases Nat.eq_zero_or_pos l with e | e
   ·exact e
   ·have:=Nat.mul_pos e hsz
    simp at hl
    omega
  subst hl0;refine wpList_plain hgd fun K hK => ?_;have hr:=run_append_empty (ty:=o.type) ht hi hown ax c;unfold Oper.wp execOp;simp only [ho,resolve,invoke,builtin,Sem.run_bind,Sem.run_pure,Result.andThen_ok,List.map_toArray,List.map_cons,List.map_nil,hs,hx,hr];exact hK _ _ (h v w (by simpa using hown) (World.grownBy.refl _ _))
 ·obtain ⟨ad,rfl,_⟩:=hnews 0 u rfl
  exact wpList_append_two hgd s x t t ho base e e i z size bytes ht ht hi hz hsize hby hzs hsz v n xs hs hown ad l c (u :: news) hx hl (fun j y hy => by
   obtain ⟨ad',e,h2⟩:=hnews j y hy
   cases e
   exact h2) h1 h63 hbytes hbase h

theorem scode_there (many most : Nat) (w : World) : Calls Tryz.prog 53 #[.bool true,.int .i64 many,.int .i64 most] w fun e w' => e = .returned (.int .i64 7) ∧ Below w.heap.size w w':=by
 go_enter Tryz.func53,Tryz.ntmps53
 go_wp2
 go_ret;exact ⟨rfl,Below.refl _ _⟩

theorem scode_full (many most : Nat) (hm : most ≤ many) (w : World) : Calls Tryz.prog 53 #[.bool false,.int .i64 many,.int .i64 most] w fun e w' => e = .returned (.int .i64 9) ∧ Below w.heap.size w w':=by
 have h1 : ¬ ((many : Int) < (most : Int)):=by omega
 go_enter Tryz.func53,Tryz.ntmps53
 go_wp2
 go_ret;exact ⟨rfl,Below.refl _ _⟩

theorem scode_ok (many most : Nat) (hm : many < most) (w : World) : Calls Tryz.prog 53 #[.bool false,.int .i64 many,.int .i64 most] w fun e w' => e = .returned (.int .i64 0) ∧ Below w.heap.size w w':=by
 have h1 : (many : Int) < (most : Int):=by omega
 go_enter Tryz.func53,Tryz.ntmps53
 go_wp2
 go_ret;exact ⟨rfl,Below.refl _ _⟩

theorem vd_ins {w w4 : World} {v4 : Value} {base n j hh : Nat} {xs : List Vd} {x : Vd} {va : Option Addr} {vl vc : Nat} {vss : List (List Value)} {H : Nat → Nat → Nat} {Q Q2 : Nat → Prop} (hV : VRecs w Q 8 (xs.map vdF) vss H) (hxl : xs.length = n) (hj : j = pl Vd.n xs x.n) (hbs : w.heap.size ≤ base) (hB4 : Below w.heap.size w w4)
  (hxf : ∀ (i : Nat) f,(vdF x)[i]? = some f → ∃ v,[.string x.n,.int .i64 x.c,.string x.z,.string x.k,.bool x.x,.string x.m,.bool x.y,.slice va vl vc][i]? = some v ∧ f.Fr w hh Q2 v) (hq : ∀ k,Q k → Q2 k → False) (ho4 : w4.ownsRow base 100 8 v4 (n + 1) (inAt j [.string x.n,.int .i64 x.c,.string x.z,.string x.k,.bool x.x,.string x.m,.bool x.y,.slice va vl vc] vss).flatten) :
  ∃ a' c',v4 = .slice a' (n + 1) c' ∧ ROwn w4 a' (n + 1) c' 8 100 ((inAt (pl Vd.n xs x.n) x xs).map vdF) (fun k => (Q k ∨ Q2 k) ∨ w.heap.size ≤ k):=by
 have hjn : j ≤ n:=by rw [hj,← hxl];exact List.findIdx_le_length
 have hV4:=(hV.below hB4).keep (w':=w4) (S':=fun k => (Q k ∨ Q2 k) ∨ w.heap.size ≤ k) (fun _ _ _ _ => rfl) (fun _ _ s => .inl (.inl s))
 obtain ⟨H4,hV5⟩:=hV4.ins (p:=j) (r:=vdF x) (vs:=[.string x.n,.int .i64 x.c,.string x.z,.string x.k,.bool x.x,.string x.m,.bool x.y,.slice va vl vc]) (hh:=fun _ => hh) rfl rfl (fun i f hf => by
   obtain ⟨v,h1,h2⟩:=hxf i f hf
   exact ⟨v,h1,h2.keep (fun cu _ q => hB4.block _ (lt_of_some q)) (fun _ s => .inl (.inr s))⟩) (fun i zs h hz k r i2 zs2 hr2 hz2 hne e => by
  obtain ⟨v,_,h2⟩:=hxf i _ h;obtain ⟨_,_,_,_,_,_,_,_,h3⟩:=h2
  have hkv : k < vss.length:=by rw [hV.len];exact (List.getElem?_eq_some_iff.1 hr2).1
  obtain ⟨v',_,h5⟩:=hV.cell k r _ hr2 (List.getElem?_eq_getElem hkv) i2 _ hz2;obtain ⟨_,_,_,_,_,_,_,_,h6⟩:=h5
  rcases h3 with h3 | ⟨_,h3,_⟩
  ·exact hz h3
  ·rcases h6 with h6 | ⟨_,h6,_⟩
   ·exact hne h6
   ·rw [e] at h6
    exact hq _ h6 h3) (fun i i2 zs zs2 h _ h2 _ => by
  rcases i with _ | _ | _ | _ | _ | _ | _ | _ | i <;> simp [vdF] at h <;> rcases i2 with _ | _ | _ | _ | _ | _ | _ | _ | i2 <;> simp [vdF] at h2 <;> rfl) (by rw [List.length_map];omega)
 have h45 : VRecs w4 (fun k => (Q k ∨ Q2 k) ∨ w.heap.size ≤ k) 8 ((inAt j x xs).map vdF) (inAt j [.string x.n,.int .i64 x.c,.string x.z,.string x.k,.bool x.x,.string x.m,.bool x.y,.slice va vl vc] vss) H4:=by rw [inAt_map];exact hV5
 have hle : ((inAt j x xs).map vdF).length = n + 1:=by rw [List.length_map,inAt_len (by omega),hxl]
 obtain ⟨a',c',e,hR⟩:=h45.own ho4 hle.symm (by decide) (fun g hg => .inr (by have:=(ho4.lt g hg).1;omega));rw [hle] at e hR;rw [hj] at hR;exact ⟨a',c',e,hR⟩

theorem sput_any (g : Option Addr) (l n : Nat) (vs : List Vd) (x : Vd) (va : Option Addr) (vl vc hh : Nat) (Q Q2 : Nat → Prop) (w : World) (ho : ROwn w g l n 8 100 (vs.map vdF) Q) (hl8 : l ≤ 8) (hxf : ∀ (i : Nat) f,(vdF x)[i]? = some f → ∃ v,[.string x.n,.int .i64 x.c,.string x.z,.string x.k,.bool x.x,.string x.m,.bool x.y,.slice va vl vc][i]? = some v ∧ f.Fr w hh Q2 v) (hq : ∀ k,Q k → Q2 k → False) :
  Calls Tryz.prog 55 #[.slice g l n,.agg #[.string x.n,.int .i64 x.c,.string x.z,.string x.k,.bool x.x,.string x.m,.bool x.y,.slice va vl vc]] w fun e w' => ∃ a' c',e = .returned (.slice a' (l + 1) c') ∧ ROwn w' a' (l + 1) c' 8 100 ((inAt (pl Vd.n vs x.n) x vs).map vdF) (fun k => (Q k ∨ Q2 k) ∨ w.heap.size ≤ k) ∧ Below w.heap.size w w':=by
 have hll : vs.length = l:=by simpa using ho.1
 have hln : l ≤ n:=ho.2.1;have hnm : n ≤ 9223372036854775807:=ho.2.2.1;have HR:=hidK ho.row;obtain ⟨vss,H,hV,hcell⟩:=ho.recs
 have hvl : vss.length = l:=by rw [hV.len,List.length_map,hll]
 have HC : Hid (∀ (j : Nat) u,vss.flatten[j]? = some u → ∃ b,g = some ⟨b,0,none⟩ ∧ w.cell? ⟨b,j,none⟩ = some u):=fun j u hj => by
  obtain ⟨b,e,_,h3⟩:=hcell j u hj;exact ⟨b,e,h3⟩
 have HVA:=hidK hV.all;have HV1:=hidK hV.one;have HFIN : Hid (∀ (w4 : World) v4 base k,k = pl Vd.n vs x.n → w.heap.size ≤ base → Below w.heap.size w w4 → w4.ownsRow base 100 8 v4 (l + 1) (inAt k [.string x.n,.int .i64 x.c,.string x.z,.string x.k,.bool x.x,.string x.m,.bool x.y,.slice va vl vc] vss).flatten → ∃ a' c',v4 = .slice a' (l + 1) c' ∧ ROwn w4 a' (l + 1) c' 8 100 ((inAt (pl Vd.n vs x.n) x vs).map vdF) (fun k => (Q k ∨ Q2 k) ∨ w.heap.size ≤ k)):=fun w4 v4 base k hk hbs hB4 ho4 => vd_ins hV hll hk hbs hB4 hxf hq ho4;obtain ⟨i5,hi5',hz0,hz1,hz2⟩:=info_parts infovd;have HI0:=hidK (And.intro hi5' (And.intro hz0 (And.intro hz1 hz2)));clear hi5' hz0 hz1 hz2 hV hcell ho hxf hq
 go_enter Tryz.func55,Tryz.ntmps55
 go_wp2
 go_loopw [5] (fun vi wr => ∃ k : Nat,k ≤ l ∧ vi = .int .i64 k ∧ Hid (∀ (j : Nat) y,j < k → vs[j]? = some y → Op.bytesLess y.n.toList x.n.toList = true) ∧ Hid (Below (w.heap.size + 1) (w.alloc (.cells #[.string x.n,.int .i64 x.c,.string x.z,.string x.k,.bool x.x,.string x.m,.bool x.y,.slice va vl vc] 100)) wr)) (fun vi _ => l - (intOf vi).toNat)
 case atStart => exact ⟨0,by omega,rfl,fun j y hj => by omega,Below.refl _ _⟩
 case round =>
  obtain ⟨k,hk,rfl,HE,HL⟩:=hrel
  have hLs : w.heap.size + 1 ≤ wr.heap.size:=by have:=HL.out.size;simpa using this
  have HB:=hidK ((below1 w (.cells #[.string x.n,.int .i64 x.c,.string x.z,.string x.k,.bool x.x,.string x.m,.bool x.y,.slice va vl vc] 100)).trans (HL.out.mono (by omega)));have Bx:=hidK ((HL.out.block w.heap.size (by omega)).trans (heap_alloc_new w (.cells #[.string x.n,.int .i64 x.c,.string x.z,.string x.k,.bool x.x,.string x.m,.bool x.y,.slice va vl vc] 100)))
  by_cases hlt : k < l
  ·obtain ⟨b,o,y,rfl,hb,hx,hat⟩:=vd_at (HR.out.below HB.out) hlt;obtain ⟨ya,yl,yc,-,-,-,-,-,hc0,-,-,-,-,-,-,-⟩:=vd_cells hat;have HXy:=hidK hx;have hbw : b < wr.heap.size:=hb
   have hk1 : (k : Int) < l:=by omega
   have hk2 : decide ((k : Int) < l) = true:=by simp;omega
   clear hb hat hx
   cases hless : Op.bytesLess y.n.toList x.n.toList
   ·have Gx : Hid (wr.heap[w.heap.size]? = some (.cells #[.string x.n,.int .i64 x.c,.string x.z,.string x.k,.bool x.x,.string x.m,.bool x.y,.slice va vl vc] 100 (0,0))):=Bx.out;have HW:=HB;have x0:=fun q : Wd wr => q.slot (o:=0) Gx.out rfl;have yn:=fun q : Wd wr => (q.cell hbw).trans hc0;have hne0:=Wd.ne wr;go_wp2_with fail;refine wp_region_wide (by kernel_rfl) (by kernel_rfl) ?_
    repeat (go_big_quiet_step (first | fail))
    refine wpQuiet_nil ?_;rintro _ ⟨q2,rfl⟩;have HB1:=upB HW q2.b;have Cx:=upK Gx q2.b;clear hne0 HW HB x0 yn Gx Bx hc0 hbw;have HB:=HB1;clear HB1;have Bx:=Cx;clear Cx;have HPL : Hid (k = pl Vd.n vs x.n):=(pl_at HE.out HXy.out hless).symm
    have HCQ : Hid (∀ (j : Nat) u,vss.flatten[j]? = some u → ∃ b9,(some ⟨b,o,none⟩ : Option Addr) = some ⟨b9,0,none⟩ ∧ b9 < q2.w.heap.size ∧ q2.w.cell? ⟨b9,j,none⟩ = some u):=fun j u hj => by
     obtain ⟨b,e,h3⟩:=HC.out j u hj;exact ⟨b,e,Nat.lt_of_lt_of_le (cell_lt h3) HB.out.size,(cell_below HB.out (cell_lt h3)).trans h3⟩
    have HOW : Hid ((q2.w.alloc (.cells #[] 100)).ownsRow q2.w.heap.size 100 8 (.slice (some ⟨q2.w.heap.size,0,none⟩) 0 0) 0 []):=World.ownsRow_made q2.w #[] 0 (Nat.le_refl _) (Nat.zero_le _) (by simp)
    have hik : (k : Int) ≤ n:=by omega
    have hkn : k ≤ n:=by omega
    have hcap : ¬ n = k:=by omega
    all_goals (
     go_wp2_with (first | (at_builtin;refine wpList_append_any rfl _ _ 32 rfl q2.w.heap.size 100 i5 (.agg #[.string ⟨#[]⟩,.int .i64 0,.string ⟨#[]⟩,.string ⟨#[]⟩,.bool false,.string ⟨#[]⟩,.bool false,.slice none 0 0]) 8 112 Tryz.underlying32 HI0.out.1 HI0.out.2.1 HI0.out.2.2.1 HI0.out.2.2.2 rfl (by decide) _ _ _ rfl (HOW.out) _ k _ (vss.take k).flatten rfl (take_flat HVA.out (by omega)) (fun j u hu => by obtain ⟨g,e,hgl,h3⟩:=HCQ.out _ _ (take_at hu);cases e <;> exact ⟨_,rfl,by simp only [Addr.add_lit,Nat.zero_add];exact (cell_below (below1 q2.w _) hgl).trans h3⟩) (mem_take_one HV1.out k).1 (by unfold maxLen;omega) (by omega) (by simp) ?_))
     intro v5 w5 hown5 hgr5
     replace hown5 : w5.ownsRow q2.w.heap.size 100 8 v5 k (vss.take k).flatten:=by simpa using hown5
     have hb5 : Below q2.w.heap.size q2.w w5:=(below1 q2.w (.cells #[] 100)).grown hgr5 (by simp) (fun g hg => by simp [Value.ownBlock] at hg;omega);obtain ⟨s1,s2,s3,rfl⟩:=owns_slice hown5;have HO5:=hidK hown5;have H5:=hidK hb5;have hs6:=hb5.size;have Bx5:=upK Bx hb5;obtain ⟨x0,x1,x2,x3,x4,x5,x6,x7⟩:=cs8 Bx5.out;have hxl:=lt_of_some Bx5.out;clear hown5 hgr5 hb5 HOW
     go_wp2_with (first | (at_builtin;refine wpList_append_any rfl _ _ 32 rfl q2.w.heap.size 100 i5 (.agg #[.string ⟨#[]⟩,.int .i64 0,.string ⟨#[]⟩,.string ⟨#[]⟩,.bool false,.string ⟨#[]⟩,.bool false,.slice none 0 0]) 8 112 Tryz.underlying32 HI0.out.1 HI0.out.2.1 HI0.out.2.2.1 HI0.out.2.2.2 rfl (by decide) _ _ _ rfl (HO5.out.alloc _) _ 1 _ [.string x.n,.int .i64 x.c,.string x.z,.string x.k,.bool x.x,.string x.m,.bool x.y,.slice va vl vc] rfl rfl (fun j u hu => ⟨_,rfl,by rw [Addr.add_lit,Nat.zero_add,cellK (heap_alloc_new w5 _)];simpa using hu⟩) (by simp [Value.oneCell']) (by unfold maxLen;omega) (by omega) (by simp;omega) ?_))
     intro v6 w6 hown6 hgr6;have hb6 : Below q2.w.heap.size q2.w w6:=(H5.out.alloc H5.out.size _).grown hgr6 (by simp;omega) (fun g hg => (HO5.out.lt g hg).1);obtain ⟨r1,r2,r3,rfl⟩:=owns_slice hown6;have HO6:=hidK hown6;have H6:=hidK hb6;have hs7:=hb6.size;clear hown6 hgr6 hb6 x0 x1 x2 x3 x4 x5 x6 x7 hxl
     go_wp2_with (first | (at_builtin;refine wpList_append_any rfl _ _ 32 rfl q2.w.heap.size 100 i5 (.agg #[.string ⟨#[]⟩,.int .i64 0,.string ⟨#[]⟩,.string ⟨#[]⟩,.bool false,.string ⟨#[]⟩,.bool false,.slice none 0 0]) 8 112 Tryz.underlying32 HI0.out.1 HI0.out.2.1 HI0.out.2.2.1 HI0.out.2.2.2 rfl (by decide) _ _ _ rfl (HO6.out) _ (l - k) _ (vss.drop k).flatten rfl (by rw [drop_flat HVA.out,hvl]) (fun j u hu => by first | (rw [List.drop_eq_nil_of_le (by omega)] at hu;simp at hu;done) | (obtain ⟨g,e,hgl,h3⟩:=HCQ.out _ _ (drop_at HVA.out (by omega) hu);cases e <;> exact ⟨_,rfl,by simp only [Addr.add_lit,Nat.zero_add];exact (cell_below H6.out hgl).trans h3⟩)) (mem_take_one HV1.out k).2 (by unfold maxLen;omega) (by omega) (by omega) ?_))
     intro v7 w7 hown7 hgr7;have hb7 : Below q2.w.heap.size q2.w w7:=H6.out.grown hgr7 (by omega) (fun g hg => (HO6.out.lt g hg).1)
     replace hown7 : w7.ownsRow q2.w.heap.size 100 8 v7 (l + 1) (inAt k [.string x.n,.int .i64 x.c,.string x.z,.string x.k,.bool x.x,.string x.m,.bool x.y,.slice va vl vc] vss).flatten:=by
      have e9 : k + 1 + (l - k) = l + 1:=by omega
      try rw [e9] at hown7
      simpa [inAt] using hown7
     have HB7:=upB HB hb7;obtain ⟨a',c',rfl,hR⟩:=HFIN.out w7 v7 q2.w.heap.size k HPL.out HB.out.size HB7.out hown7;have HR7:=hidK hR;clear hown7 hgr7 hb7 hR hik hkn hcap
     go_wp2
     go_ret
     exact ⟨a',c',rfl,HR7.out,HB7.out⟩)
   ·have Gx : Hid (wr.heap[w.heap.size]? = some (.cells #[.string x.n,.int .i64 x.c,.string x.z,.string x.k,.bool x.x,.string x.m,.bool x.y,.slice va vl vc] 100 (0,0))):=Bx.out;have HW:=HB;have x0:=fun q : Wd wr => q.slot (o:=0) Gx.out rfl;have yn:=fun q : Wd wr => (q.cell hbw).trans hc0;have hne0:=Wd.ne wr;go_wp2_with fail;refine wp_region_wide (by kernel_rfl) (by kernel_rfl) ?_
    repeat (go_big_quiet_step (first | fail))
    refine wpQuiet_nil ?_;rintro _ ⟨q2,rfl⟩;have HB1:=upB HW q2.b;have Cx:=upK Gx q2.b;clear hne0 HW HB x0 yn Gx Bx hc0 hbw;have HB:=HB1;clear HB1;have Bx:=Cx;clear Cx
    go_wp2
    refine ⟨⟨k + 1,by omega,by go_num,fun j z hj hz => ?_,HL.out.trans (q2.b.mono (by omega))⟩,by simp [intOf];omega⟩
    by_cases e : j = k
    ·subst e;rw [HXy.out] at hz;obtain rfl:=Option.some.inj hz;exact hless
    ·exact HE.out j z (by omega) hz
  ·have hk1 : ¬ (k : Int) < l:=by omega
   have hk2 : decide ((k : Int) < l) = false:=by simp;omega
   have Gx:=Bx;have HW:=HB;have x0:=fun q : Wd wr => q.slot (o:=0) Gx.out rfl;have hne0:=Wd.ne wr;go_wp2_with fail;refine wp_region_wide (by kernel_rfl) (by kernel_rfl) ?_
   repeat (go_big_quiet_step (first | fail))
   refine wpQuiet_nil ?_;rintro _ ⟨q2,rfl⟩;have HB1:=upB HW q2.b;have Cx:=upK Gx q2.b;clear hne0 HW HB x0 Gx Bx;have HB:=HB1;clear HB1;have Bx:=Cx;clear Cx
   have HPL : Hid (k = pl Vd.n vs x.n):=by show k = _;rw [pl_end (nm:=Vd.n) (xs:=vs) (t:=x.n) (fun j y hy => HE.out j y (by have:=(List.getElem?_eq_some_iff.1 hy).1;omega) hy)];omega
   have HCQ : Hid (∀ (j : Nat) u,vss.flatten[j]? = some u → ∃ b9,g = some ⟨b9,0,none⟩ ∧ b9 < q2.w.heap.size ∧ q2.w.cell? ⟨b9,j,none⟩ = some u):=fun j u hj => by
    obtain ⟨b,e,h3⟩:=HC.out j u hj;exact ⟨b,e,Nat.lt_of_lt_of_le (cell_lt h3) HB.out.size,(cell_below HB.out (cell_lt h3)).trans h3⟩
   have HOW : Hid ((q2.w.alloc (.cells #[] 100)).ownsRow q2.w.heap.size 100 8 (.slice (some ⟨q2.w.heap.size,0,none⟩) 0 0) 0 []):=World.ownsRow_made q2.w #[] 0 (Nat.le_refl _) (Nat.zero_le _) (by simp)
   have hik : (k : Int) ≤ n:=by omega
   have hkn : k ≤ n:=by omega
   rcases g with _ | ⟨b2,f2,sp⟩
   ·have hl0 : l = 0:=Classical.byContradiction fun hne0 => by
     have h1 : vss[0]? = some (vss[0]'(by omega)):=List.getElem?_eq_getElem _
     have h2 : 0 < (vss[0]'(by omega)).length:=by rw [HVA.out 0 _ h1];decide
     obtain ⟨g,e,_⟩:=HCQ.out _ _ (flat_at HVA.out h1 (List.getElem?_eq_getElem h2))
     cases e
    obtain rfl : k = 0:=by omega
    subst hl0
    by_cases hcap : n = 0
    all_goals (
     go_wp2_with (first | (at_builtin;refine wpList_append_any rfl _ _ 32 rfl q2.w.heap.size 100 i5 (.agg #[.string ⟨#[]⟩,.int .i64 0,.string ⟨#[]⟩,.string ⟨#[]⟩,.bool false,.string ⟨#[]⟩,.bool false,.slice none 0 0]) 8 112 Tryz.underlying32 HI0.out.1 HI0.out.2.1 HI0.out.2.2.1 HI0.out.2.2.2 rfl (by decide) _ _ _ rfl (HOW.out) _ 0 _ (vss.take 0).flatten rfl (take_flat HVA.out (by omega)) (fun j u hu => by obtain ⟨g,e,hgl,h3⟩:=HCQ.out _ _ (take_at hu);cases e <;> exact ⟨_,rfl,by simp only [Addr.add_lit,Nat.zero_add];exact (cell_below (below1 q2.w _) hgl).trans h3⟩) (mem_take_one HV1.out 0).1 (by unfold maxLen;omega) (by omega) (by simp) ?_))
     intro v5 w5 hown5 hgr5
     replace hown5 : w5.ownsRow q2.w.heap.size 100 8 v5 0 (vss.take 0).flatten:=by simpa using hown5
     have hb5 : Below q2.w.heap.size q2.w w5:=(below1 q2.w (.cells #[] 100)).grown hgr5 (by simp) (fun g hg => by simp [Value.ownBlock] at hg;omega);obtain ⟨s1,s2,s3,rfl⟩:=owns_slice hown5;have HO5:=hidK hown5;have H5:=hidK hb5;have hs6:=hb5.size;have Bx5:=upK Bx hb5;obtain ⟨x0,x1,x2,x3,x4,x5,x6,x7⟩:=cs8 Bx5.out;have hxl:=lt_of_some Bx5.out;clear hown5 hgr5 hb5 HOW
     go_wp2_with (first | (at_builtin;refine wpList_append_any rfl _ _ 32 rfl q2.w.heap.size 100 i5 (.agg #[.string ⟨#[]⟩,.int .i64 0,.string ⟨#[]⟩,.string ⟨#[]⟩,.bool false,.string ⟨#[]⟩,.bool false,.slice none 0 0]) 8 112 Tryz.underlying32 HI0.out.1 HI0.out.2.1 HI0.out.2.2.1 HI0.out.2.2.2 rfl (by decide) _ _ _ rfl (HO5.out.alloc _) _ 1 _ [.string x.n,.int .i64 x.c,.string x.z,.string x.k,.bool x.x,.string x.m,.bool x.y,.slice va vl vc] rfl rfl (fun j u hu => ⟨_,rfl,by rw [Addr.add_lit,Nat.zero_add,cellK (heap_alloc_new w5 _)];simpa using hu⟩) (by simp [Value.oneCell']) (by unfold maxLen;omega) (by omega) (by simp;omega) ?_))
     intro v6 w6 hown6 hgr6;have hb6 : Below q2.w.heap.size q2.w w6:=(H5.out.alloc H5.out.size _).grown hgr6 (by simp;omega) (fun g hg => (HO5.out.lt g hg).1);obtain ⟨r1,r2,r3,rfl⟩:=owns_slice hown6;have HO6:=hidK hown6;have H6:=hidK hb6;have hs7:=hb6.size;clear hown6 hgr6 hb6 x0 x1 x2 x3 x4 x5 x6 x7 hxl
     go_wp2_with (first | (at_builtin;refine wpList_append_any rfl _ _ 32 rfl q2.w.heap.size 100 i5 (.agg #[.string ⟨#[]⟩,.int .i64 0,.string ⟨#[]⟩,.string ⟨#[]⟩,.bool false,.string ⟨#[]⟩,.bool false,.slice none 0 0]) 8 112 Tryz.underlying32 HI0.out.1 HI0.out.2.1 HI0.out.2.2.1 HI0.out.2.2.2 rfl (by decide) _ _ _ rfl (HO6.out) _ (0 - 0) _ (vss.drop 0).flatten rfl (by rw [drop_flat HVA.out,hvl]) (fun j u hu => by first | (rw [List.drop_eq_nil_of_le (by omega)] at hu;simp at hu;done) | (obtain ⟨g,e,hgl,h3⟩:=HCQ.out _ _ (drop_at HVA.out (by omega) hu);cases e <;> exact ⟨_,rfl,by simp only [Addr.add_lit,Nat.zero_add];exact (cell_below H6.out hgl).trans h3⟩)) (mem_take_one HV1.out 0).2 (by unfold maxLen;omega) (by omega) (by omega) ?_))
     intro v7 w7 hown7 hgr7;have hb7 : Below q2.w.heap.size q2.w w7:=H6.out.grown hgr7 (by omega) (fun g hg => (HO6.out.lt g hg).1)
     replace hown7 : w7.ownsRow q2.w.heap.size 100 8 v7 (1) (inAt 0 [.string x.n,.int .i64 x.c,.string x.z,.string x.k,.bool x.x,.string x.m,.bool x.y,.slice va vl vc] vss).flatten:=by
      have e9 : 0 + 1 + (0 - 0) = 1:=by omega
      try rw [e9] at hown7
      simpa [inAt] using hown7
     have HB7:=upB HB hb7;obtain ⟨a',c',rfl,hR⟩:=HFIN.out w7 v7 q2.w.heap.size 0 HPL.out HB.out.size HB7.out hown7;have HR7:=hidK hR;clear hown7 hgr7 hb7 hR hik hkn hcap
     go_wp2
     go_ret
     exact ⟨a',c',rfl,HR7.out,HB7.out⟩)
   by_cases hcap : n = k
   all_goals (
    go_wp2_with (first | (at_builtin;refine wpList_append_any rfl _ _ 32 rfl q2.w.heap.size 100 i5 (.agg #[.string ⟨#[]⟩,.int .i64 0,.string ⟨#[]⟩,.string ⟨#[]⟩,.bool false,.string ⟨#[]⟩,.bool false,.slice none 0 0]) 8 112 Tryz.underlying32 HI0.out.1 HI0.out.2.1 HI0.out.2.2.1 HI0.out.2.2.2 rfl (by decide) _ _ _ rfl (HOW.out) _ k _ (vss.take k).flatten rfl (take_flat HVA.out (by omega)) (fun j u hu => by obtain ⟨g,e,hgl,h3⟩:=HCQ.out _ _ (take_at hu);cases e <;> exact ⟨_,rfl,by simp only [Addr.add_lit,Nat.zero_add];exact (cell_below (below1 q2.w _) hgl).trans h3⟩) (mem_take_one HV1.out k).1 (by unfold maxLen;omega) (by omega) (by simp) ?_))
    intro v5 w5 hown5 hgr5
    replace hown5 : w5.ownsRow q2.w.heap.size 100 8 v5 k (vss.take k).flatten:=by simpa using hown5
    have hb5 : Below q2.w.heap.size q2.w w5:=(below1 q2.w (.cells #[] 100)).grown hgr5 (by simp) (fun g hg => by simp [Value.ownBlock] at hg;omega);obtain ⟨s1,s2,s3,rfl⟩:=owns_slice hown5;have HO5:=hidK hown5;have H5:=hidK hb5;have hs6:=hb5.size;have Bx5:=upK Bx hb5;obtain ⟨x0,x1,x2,x3,x4,x5,x6,x7⟩:=cs8 Bx5.out;have hxl:=lt_of_some Bx5.out;clear hown5 hgr5 hb5 HOW
    go_wp2_with (first | (at_builtin;refine wpList_append_any rfl _ _ 32 rfl q2.w.heap.size 100 i5 (.agg #[.string ⟨#[]⟩,.int .i64 0,.string ⟨#[]⟩,.string ⟨#[]⟩,.bool false,.string ⟨#[]⟩,.bool false,.slice none 0 0]) 8 112 Tryz.underlying32 HI0.out.1 HI0.out.2.1 HI0.out.2.2.1 HI0.out.2.2.2 rfl (by decide) _ _ _ rfl (HO5.out.alloc _) _ 1 _ [.string x.n,.int .i64 x.c,.string x.z,.string x.k,.bool x.x,.string x.m,.bool x.y,.slice va vl vc] rfl rfl (fun j u hu => ⟨_,rfl,by rw [Addr.add_lit,Nat.zero_add,cellK (heap_alloc_new w5 _)];simpa using hu⟩) (by simp [Value.oneCell']) (by unfold maxLen;omega) (by omega) (by simp;omega) ?_))
    intro v6 w6 hown6 hgr6;have hb6 : Below q2.w.heap.size q2.w w6:=(H5.out.alloc H5.out.size _).grown hgr6 (by simp;omega) (fun g hg => (HO5.out.lt g hg).1);obtain ⟨r1,r2,r3,rfl⟩:=owns_slice hown6;have HO6:=hidK hown6;have H6:=hidK hb6;have hs7:=hb6.size;clear hown6 hgr6 hb6 x0 x1 x2 x3 x4 x5 x6 x7 hxl
    go_wp2_with (first | (at_builtin;refine wpList_append_any rfl _ _ 32 rfl q2.w.heap.size 100 i5 (.agg #[.string ⟨#[]⟩,.int .i64 0,.string ⟨#[]⟩,.string ⟨#[]⟩,.bool false,.string ⟨#[]⟩,.bool false,.slice none 0 0]) 8 112 Tryz.underlying32 HI0.out.1 HI0.out.2.1 HI0.out.2.2.1 HI0.out.2.2.2 rfl (by decide) _ _ _ rfl (HO6.out) _ (l - k) _ (vss.drop k).flatten rfl (by rw [drop_flat HVA.out,hvl]) (fun j u hu => by first | (rw [List.drop_eq_nil_of_le (by omega)] at hu;simp at hu;done) | (obtain ⟨g,e,hgl,h3⟩:=HCQ.out _ _ (drop_at HVA.out (by omega) hu);cases e <;> exact ⟨_,rfl,by simp only [Addr.add_lit,Nat.zero_add];exact (cell_below H6.out hgl).trans h3⟩)) (mem_take_one HV1.out k).2 (by unfold maxLen;omega) (by omega) (by omega) ?_))
    intro v7 w7 hown7 hgr7;have hb7 : Below q2.w.heap.size q2.w w7:=H6.out.grown hgr7 (by omega) (fun g hg => (HO6.out.lt g hg).1)
    replace hown7 : w7.ownsRow q2.w.heap.size 100 8 v7 (l + 1) (inAt k [.string x.n,.int .i64 x.c,.string x.z,.string x.k,.bool x.x,.string x.m,.bool x.y,.slice va vl vc] vss).flatten:=by
     have e9 : k + 1 + (l - k) = l + 1:=by omega
     try rw [e9] at hown7
     simpa [inAt] using hown7
    have HB7:=upB HB hb7;obtain ⟨a',c',rfl,hR⟩:=HFIN.out w7 v7 q2.w.heap.size k HPL.out HB.out.size HB7.out hown7;have HR7:=hidK hR;clear hown7 hgr7 hb7 hR hik hkn hcap
    go_wp2
    go_ret
    exact ⟨a',c',rfl,HR7.out,HB7.out⟩)

def BesF (sv : Vd → Bool) (vs : List Vd) : Fact:=fun v _ => ∃ r : Int,v = .int .i64 r ∧ BestAt sv vs vs.length r
theorem BesF.mono (sv : Vd → Bool) (vs : List Vd) : Fact.Mono (BesF sv vs):=fun _ _ _ h _ => h
theorem ROwn.setT {wr wz : World} {g l cp m j i : Nat} {T : TypeId} {rs : List (List Fv)} {r : List Fv} {old : Fv} {S : Nat → Prop} (hO : ROwn wr (some ⟨g,0,none⟩) l cp m T rs S) (hb : Below wr.heap.size wr wz) (hj : rs[j]? = some r) (hi : r[i]? = some old) (t : ByteArray) (ht : t.size ≤ 9223372036854775807) : ROwn (wz.setCell ⟨g,j * m + i,none⟩ (.string t)) (some ⟨g,0,none⟩) l cp m T (rs.set j (r.set i (.s t))) S:=by
 obtain ⟨g',e,hS⟩:=(hO.below hb).st (KeptS.refl S wz) hj
 cases e
 obtain ⟨⟨cur2,H2,h3,_⟩,_,_⟩:=hS.setS hi t ht;exact ⟨by rw [List.length_set];exact hO.1,hO.2.1,hO.2.2.1,.inr ⟨g,cur2,H2,rfl,h3⟩⟩
theorem ROwn.atT {wr wz : World} {g l cp m j i : Nat} {T : TypeId} {rs : List (List Fv)} {r : List Fv} {old : Fv} {S : Nat → Prop} (hO : ROwn wr (some ⟨g,0,none⟩) l cp m T rs S) (hb : Below wr.heap.size wr wz) (hj : rs[j]? = some r) (hi : r[i]? = some old) : (∃ v,wz.cell? ⟨g,j * m + i,none⟩ = some v) ∧ wz.frozen? ⟨g,j * m + i,none⟩ = false:=by
 obtain ⟨g',e,hS⟩:=(hO.below hb).st (KeptS.refl S wz) hj
 cases e
 exact ⟨hS.cell hi,hS.fro _⟩
theorem ROwn.inn {w : World} {a : Option Addr} {l cp m j : Nat} {T : TypeId} {rs : List (List Fv)} {r : List Fv} {S : Nat → Prop} (hO : ROwn w a l cp m T rs S) (hj : rs[j]? = some r) : ∃ g cur,a = some ⟨g,0,none⟩ ∧ S g ∧ g < w.heap.size ∧ w.heap[g]? = some (.cells cur T (0,0)):=by
 obtain ⟨g',e,hS⟩:=hO.st (KeptS.refl S w) hj;obtain ⟨⟨cur,H,h1,_⟩,_⟩:=hS;exact ⟨g',cur,e,h1.inS,lt_of_some h1.blk,h1.blk⟩
theorem ROwn.past {w wz : World} {a : Option Addr} {l cp m g i : Nat} {T T' : TypeId} {rs : List (List Fv)} {S : Nat → Prop} {cur : Array Value} {v : Value} (h : ROwn w a l cp m T rs S) (hb : Below w.heap.size w wz) (hg : w.heap[g]? = some (.cells cur T' (0,0))) (h1 : ¬ T' = T) (h2 : ¬ T' = 9) : ROwn (wz.setCell ⟨g,i,none⟩ v) a l cp m T rs S :=
 (h.away hg h1 h2).keep (fun k hk s => (Below.heap_setCell _ _ _ _ s.2).trans (hb.block k hk)) (fun _ _ s => s.1)
def BoxK (B : Nat) : Fact:=fun v w => ∃ b,v = .pointer (some ⟨b,0,none⟩) ∧ B ≤ b ∧ w.heap[b]? = some (.cells #[.string ⟨#[]⟩,.bool false,.bool false,.string ⟨#[]⟩] 57 (0,0))
theorem BoxK.mono (B : Nat) : Fact.Mono (BoxK B):=by
 rintro v w w' ⟨b,h1,h2,h3⟩ hb;exact ⟨b,h1,h2,(hb.block _ (lt_of_some h3)).trans h3⟩
def PutV (W : World) (S : Nat → Prop) (vs : List Vd) : Fact:=fun v w => ∃ a l cp,v = .slice a l cp ∧ ROwn w a l cp 8 100 (vs.map vdF) (fun k => S k ∨ W.heap.size ≤ k)
theorem PutV.mono (W : World) (S : Nat → Prop) (vs : List Vd) : Fact.Mono (PutV W S vs):=by
 rintro v w w' ⟨a,l,cp,h1,h2⟩ hb;exact ⟨a,l,cp,h1,h2.below hb⟩
def SBinA (c : Cl) (i : Nat) (x : Xd) (kc : Kd) (t : ByteArray) (S : Nat → Prop) (b : Nat) (a1 : Option Addr) (l1 y1 : Nat) (a2 : Option Addr) (l2 y2 : Nat) (a3 : Option Addr) (l3 y3 : Nat) (a4 : Option Addr) (l4 y4 : Nat) (a5 : Option Addr) (l5 y5 : Nat) (w : World) (e : Ending) (w' : World) : Prop :=
 (∃ (j : Nat) (u : Vd),bestV (svV x.z x.k x.x t) c.vs = some u ∧ c.vs[j]? = some u ∧ e = .returned (.tuple #[.string u.n,.int .i64 0]) ∧ w'.heap[b]? = some (.cells #[.slice a1 l1 y1,.slice a2 l2 y2,.slice a3 l3 y3,.slice a4 l4 y4,.slice a5 l5 y5,.int .i64 c.now] 36 (0,0)) ∧ ClFr w' ⟨a1,l1,y1,a2,l2,y2,a3,l3,y3,a4,l4,y4,a5,l5,y5⟩ (bindC c i j x u).raw S ∧ KeptS S w w') ∨
 (bestV (svV x.z x.k x.x t) c.vs = none ∧ ((∃ p : Int,¬ p = 0 ∧ ((¬ MayV x kc t ∧ p = 6) ∨ (MayV x kc t ∧ hit Vd.n c.vs (wMade ++ x.n) = true ∧ p = 7) ∨ (MayV x kc t ∧ hit Vd.n c.vs (wMade ++ x.n) = false ∧ ¬ c.vs.length < 8 ∧ p = 9)) ∧ e = .returned (.tuple #[.string ⟨#[]⟩,.int .i64 p]) ∧ Below w.heap.size w w') ∨
  (MayV x kc t ∧ hit Vd.n c.vs (wMade ++ x.n) = false ∧ c.vs.length < 8 ∧ e = .returned (.tuple #[.string (wMade ++ x.n),.int .i64 0]) ∧ ∃ (q3 : Option Addr) (m3 z3 : Nat),w'.heap[b]? = some (.cells #[.slice a1 l1 y1,.slice a2 l2 y2,.slice q3 m3 z3,.slice a4 l4 y4,.slice a5 l5 y5,.int .i64 c.now] 36 (0,0)) ∧ ClFr w' ⟨a1,l1,y1,a2,l2,y2,q3,m3,z3,a4,l4,y4,a5,l5,y5⟩ (makeC c i x (zoneOf t kc.z)).raw (fun k => S k ∨ w.heap.size ≤ k) ∧ KeptS (fun k => S k ∨ k = b) w w')))

theorem sl06_any (c : Cl) (i : Nat) (x : Xd) (jk : Nat) (kc : Kd) (t : ByteArray) (S : Nat → Prop) (b : Nat) (a1 : Option Addr) (l1 y1 : Nat) (a2 : Option Addr) (l2 y2 : Nat) (a3 : Option Addr) (l3 y3 : Nat) (a4 : Option Addr) (l4 y4 : Nat) (a5 : Option Addr) (l5 y5 : Nat) (w : World) (hb : w.heap[b]? = some (.cells #[.slice a1 l1 y1,.slice a2 l2 y2,.slice a3 l3 y3,.slice a4 l4 y4,.slice a5 l5 y5,.int .i64 c.now] 36 (0,0))) (hO : ClFr w ⟨a1,l1,y1,a2,l2,y2,a3,l3,y3,a4,l4,y4,a5,l5,y5⟩ c.raw S) (hS : ∀ k,S k → k < w.heap.size ∧ ¬ k = b) (hT : RightI c) (hx : c.xs[i]? = some x) (hk : c.ks[jk]? = some kc) (hkn : kc.n = x.k) (hxv : x.v = ⟨#[]⟩) (ht : t = ⟨#[]⟩ ∨ NameOk t) :
  Calls Tryz.prog 23 #[.pointer (some ⟨b,0,none⟩),.int .i64 i,.string t] w (SBinA c i x kc t S b a1 l1 y1 a2 l2 y2 a3 l3 y3 a4 l4 y4 a5 l5 y5 w):=by
 have HO:=hidK hO;have HS:=hidK hS;have HT:=hidK hT;have HX:=hidK hx;have HK:=hidK (And.intro hk hkn);have HXV:=hidK hxv;have HTZ:=hidK ht;have Bc:=hidK hb
 have hl4 : c.xs.length = l4:=by have h6 : (c.xs.map xdF).length = l4:=hO.x.1;rw [List.length_map] at h6;exact h6
 have hl3 : c.vs.length = l3:=by have h6 : (c.vs.map vdF).length = l3:=hO.v.1;rw [List.length_map] at h6;exact h6
 have hl2 : c.ks.length = l2:=by have h6 : (c.ks.map kdF).length = l2:=hO.k.1;rw [List.length_map] at h6;exact h6
 have hi4 : i < l4:=by have:=(List.getElem?_eq_some_iff.1 hx).1;omega
 have hii : (i : Int) < l4:=by omega
 have hi0 : ¬ (i : Int) < 0:=by omega
 obtain ⟨gx,hgx,hSx⟩:=hO.x.st (KeptS.refl S w) (i:=i) (r:=xdF x) (show (c.xs.map xdF)[i]? = some (xdF x) by rw [List.getElem?_map,hx];rfl);have hgx' : a4 = some ⟨gx,0,none⟩:=hgx;subst hgx'
 have hgxS : S gx ∧ gx < w.heap.size:=by obtain ⟨⟨cur,H,h1,_⟩,_⟩:=hSx;exact ⟨h1.inS,lt_of_some h1.blk⟩
 obtain ⟨b4,o4,x',e4,hb4,hx4,hat⟩:=xd_at hO.x.row hi4
 cases e4
 rw [hx] at hx4;obtain rfl:=Option.some.inj hx4;obtain ⟨zx0,zx2,zx4,c0,c1,c2,c3,c4⟩:=xd_cells hat;rw [Nat.zero_add] at c0 c1 c2 c3 c4;have HC:=hidK (And.intro c0 (And.intro c1 (And.intro c2 (And.intro c3 c4))));have HZX:=hidK (And.intro zx0 (And.intro zx2 zx4));have HSX:=hidK hSx;have hgb : ¬ gx = b:=(hS gx hgxS.1).2;have HGS:=hidK hgxS.1;have hgl : gx < w.heap.size:=hgxS.2;have hbl : b < w.heap.size:=lt_of_some hb;have HB:=hidK (Below.refl w.heap.size w);obtain ⟨k0,k1,k2,k3,k4,k5⟩:=cs6 hb;clear hO hS hT hx hk hkn hxv ht hSx hgx hgxS hat hx4 hb4 zx0 zx2 zx4
 go_enter Tryz.func23,Tryz.ntmps23
 go_wp2_with fail;clear k0 k1 k2 k3 k4 k5 c0 c1 c2 c3 c4;obtain ⟨W,hW0⟩ : ∃ W,W = (w.alloc (.cells #[.string x.n,.int .i64 x.z,.string x.k,.bool x.x,.string x.v] 55)):=⟨_,rfl⟩;have BcW:=hidK ((Below.heap_alloc w (.cells #[.string x.n,.int .i64 x.z,.string x.k,.bool x.x,.string x.v] 55) _ hbl).trans hb);have BxW:=hidK (heap_alloc_new w (.cells #[.string x.n,.int .i64 x.z,.string x.k,.bool x.x,.string x.v] 55));have HBW:=hidK (below1 w (.cells #[.string x.n,.int .i64 x.z,.string x.k,.bool x.x,.string x.v] 55))
 have hws : W.heap.size = w.heap.size + 1:=by rw [hW0];exact size1 _ _
 rw [← hW0] at BcW BxW HBW ⊢;clear hW0 hb;rename_i K0 hK0;refine wp_region_grow (back:=none) (by kernel_rfl) (List.append_nil _).symm (by kernel_rfl) ?_;refine' Grow.stepC _ rfl ?_ ?_;rotate_left 1
 ·refine Obl.plain rfl ?_;intro ac wg K hsz hW hf hK;clear hsz;have e0:=hf 0 (by decide)
  simp [slotFact,List.lookup] at e0
  clear hf;go_simp;refine hK _ _ (Below.refl _ _) ?_;with_reducible rfl
 refine' Grow.stepC _ rfl ?_ ?_;rotate_left 1
 ·refine Obl.plain rfl ?_;intro ac wg K hsz hW hf hK;clear hsz;have e21:=hf 21 (by decide)
  simp [slotFact,List.lookup] at e21
  clear hf;go_simp;refine hK _ _ (Below.refl _ _) ?_;with_reducible rfl
 refine' Grow.stepC _ rfl ?_ ?_;rotate_left 1
 ·refine Obl.plain rfl ?_;intro ac wg K hsz hW hf hK;clear hsz;have e22:=hf 22 (by decide)
  simp [slotFact,List.lookup] at e22
  clear hf;go_simp;refine hK _ _ (Below.refl _ _) ?_;with_reducible rfl
 refine' Grow.stepC _ rfl ?_ ?_;rotate_left 1
 ·refine Obl.plain rfl ?_;intro ac wg K hsz hW hf hK;clear hsz;have e23:=hf 23 (by decide)
  simp [slotFact,List.lookup] at e23
  clear hf;obtain ⟨k0,k1,k2,k3,k4,k5⟩:=cs6 ((hW.block _ (lt_of_some BcW.out)).trans BcW.out);go_simp;refine hK _ _ (Below.refl _ _) ?_;with_reducible rfl
 refine' Grow.stepC _ rfl ?_ ?_;rotate_left 1
 ·refine Obl.plain rfl ?_;intro ac wg K hsz hW hf hK;clear hsz;have e8:=hf 8 (by decide)
  simp [slotFact,List.lookup] at e8
  clear hf;obtain ⟨x0,x1,x2,x3,x4⟩:=cs5 ((hW.block _ (lt_of_some BxW.out)).trans BxW.out);go_simp;refine hK _ _ (Below.refl _ _) ?_;with_reducible rfl
 refine' Grow.stepC _ rfl ?_ ?_;rotate_left 1
 ·refine Obl.plain rfl ?_;intro ac wg K hsz hW hf hK;clear hsz;have e2:=hf 2 (by decide)
  simp [slotFact,List.lookup] at e2
  clear hf;go_simp;refine hK _ _ (Below.refl _ _) ?_;with_reducible rfl
 refine Grow.step (BesF (svV x.z x.k x.x t) c.vs) rfl (BesF.mono _ _) ?_ ?_
 ·refine Obl.plain rfl ?_;intro ac wg K hsz hW hf hK;clear hsz;have e24:=hf 24 (by decide)
  simp [slotFact,List.lookup] at e24
  have e25:=hf 25 (by decide)
  simp [slotFact,List.lookup] at e25
  have e26:=hf 26 (by decide)
  simp [slotFact,List.lookup] at e26
  clear hf;go_simp;refine (sbestK_any a3 l3 y3 c.vs x.n x.z x.k x.x x.v t _ (vs_of (HO.out.v.row.below (HBW.out.trans (hW.mono HBW.out.size))))).mono ?_;rintro e w6 ⟨r,rfl,hr6,hb6⟩;exact hK _ _ hb6 ⟨r,rfl,by rw [hl3];exact hr6⟩
 refine Grow.step (BesF (svV x.z x.k x.x t) c.vs) rfl (BesF.mono _ _) ?_ ?_
 ·refine Obl.plain rfl ?_;intro ac wg K hsz hW hf hK;clear hsz;have e27:=hf 27 (by decide)
  simp [slotFact,List.lookup] at e27
  obtain ⟨r,e27,hr6⟩:=e27;clear hf;go_simp;exact hK _ _ (Below.refl _ _) ⟨r,rfl,hr6⟩
 refine Grow.done ?_;intro q wz hW hf;simp only [List.forall_mem_cons] at hf;obtain ⟨h9,h27,h26,h25,h24,h23,h22,h21,-⟩:=hf;obtain ⟨r,hv9,hbest⟩:=h9;obtain ⟨r2,hv27,-⟩:=h27;have HWZ:=hidK hW;clear hW;refine hK0 _ _ ?_;simp only [putsAll,List.foldr,Act.put,List.setIfInBounds_toArray,List.set_cons_zero,List.set_cons_succ,h26,h25,h24,h23,h22,h21,hv9,hv27];clear hK0;have Bc2:=upK BcW HWZ.out;have Bx2:=upK BxW HWZ.out;have HB2:=hidK (HBW.out.trans (HWZ.out.mono HBW.out.size))
 have hw2 : w.heap.size + 1 ≤ wz.heap.size:=by have:=HWZ.out.size;omega
 clear BcW BxW HBW HWZ
 rcases hbest with ⟨rfl,hnone⟩ | ⟨j,u,rfl,hjl,hju,hsome⟩
 rotate_left
 ·rw [List.take_length] at hsome;have HJU:=hidK hju;have HSO:=hidK hsome
  have hj3 : (j : Int) < l3:=by omega
  have hj0 : ¬ (j : Int) < 0:=by omega
  have hjr : (c.vs.map vdF)[j]? = some (vdF u):=by rw [List.getElem?_map,hju];rfl
  have hir : (c.xs.map xdF)[i]? = some (xdF x):=by rw [List.getElem?_map,HX.out];rfl
  have HJR:=hidK hjr;have HIR:=hidK hir;obtain ⟨gv,curv,hgv,hgvS,hgvl,hgvb⟩:=ROwn.inn HO.out.v hjr;have hgv' : a3 = some ⟨gv,0,none⟩:=hgv;subst hgv';obtain ⟨gx2,curx,hgx2,-,-,hgxb⟩:=ROwn.inn HO.out.x hir
  cases hgx2
  have HVB:=hidK hgvb;have HXB:=hidK hgxb;have hvb : ¬ gv = b:=(HS.out gv hgvS).2;have HVS:=hidK hgvS;have hxz : x.n.size ≤ 9223372036854775807:=HZX.out.1
  have huz : u.n.size ≤ 9223372036854775807:=by have h1:=(HT.out.2.1.2.2.1.2.1 j u hju).1.2.1;omega
  clear hju hsome hjr hir hgv hgvS hgvb hgxb;go_wp2_with fail;rename_i K0 hK0;refine Gt.wp_region_grow_last (by kernel_rfl) rfl rfl (by kernel_rfl) ?_;refine' Grow.stepC _ rfl ?_ ?_;rotate_left 1
  ·refine Obl.plain rfl ?_;intro ac wg K hsz hW hf hK;clear hsz;have e0:=hf 0 (by decide)
   simp [slotFact,List.lookup] at e0
   clear hf;go_simp;refine hK _ _ (Below.refl _ _) ?_;with_reducible rfl
  refine' Grow.stepC _ rfl ?_ ?_;rotate_left 1
  ·refine Obl.plain rfl ?_;intro ac wg K hsz hW hf hK;clear hsz;have e30:=hf 30 (by decide)
   simp [slotFact,List.lookup] at e30
   clear hf;go_simp;refine hK _ _ (Below.refl _ _) ?_;with_reducible rfl
  refine' Grow.stepC _ rfl ?_ ?_;rotate_left 1
  ·refine Obl.plain rfl ?_;intro ac wg K hsz hW hf hK;clear hsz;have e31:=hf 31 (by decide)
   simp [slotFact,List.lookup] at e31
   clear hf;go_simp;refine hK _ _ (Below.refl _ _) ?_;with_reducible rfl
  refine' Grow.stepC _ rfl ?_ ?_;rotate_left 1
  ·refine Obl.plain rfl ?_;intro ac wg K hsz hW hf hK;clear hsz;have e32:=hf 32 (by decide)
   simp [slotFact,List.lookup] at e32
   clear hf;obtain ⟨k0,k1,k2,k3,k4,k5⟩:=cs6 ((hW.block _ (lt_of_some Bc2.out)).trans Bc2.out);go_simp;refine hK _ _ (Below.refl _ _) ?_;with_reducible rfl
  refine' Grow.stepC _ rfl ?_ ?_;rotate_left 1
  ·refine Obl.plain rfl ?_;intro ac wg K hsz hW hf hK;clear hsz;have e9:=hf 9 (by decide)
   simp [slotFact,List.lookup] at e9
   clear hf;go_simp;refine hK _ _ (Below.refl _ _) ?_;with_reducible rfl
  refine' Grow.stepC _ rfl ?_ ?_;rotate_left 1
  ·refine Obl.plain rfl ?_;intro ac wg K hsz hW hf hK;clear hsz;have e8:=hf 8 (by decide)
   simp [slotFact,List.lookup] at e8
   clear hf;go_simp;refine hK _ _ (Below.refl _ _) ?_;with_reducible rfl
  refine' Grow.stepC _ rfl ?_ ?_;rotate_left 1
  ·refine Obl.plain rfl ?_;intro ac wg K hsz hW hf hK;clear hsz;have e35:=hf 35 (by decide)
   simp [slotFact,List.lookup] at e35
   clear hf;obtain ⟨x0,x1,x2,x3,x4⟩:=cs5 ((hW.block _ (lt_of_some Bx2.out)).trans Bx2.out);go_simp;refine hK _ _ (Below.refl _ _) ?_;with_reducible rfl
  refine' Grow.stepC _ rfl ?_ ?_;rotate_left 1
  ·refine Obl.plain rfl ?_;intro ac wg K hsz hW hf hK;clear hsz;have e33:=hf 33 (by decide)
   simp [slotFact,List.lookup] at e33
   have e34:=hf 34 (by decide)
   simp [slotFact,List.lookup] at e34
   clear hf;go_simp;refine hK _ _ (Below.refl _ _) ?_;with_reducible rfl
  refine' Grow.stepC _ rfl ?_ ?_;rotate_left 1
  ·refine Obl.plain rfl ?_;intro ac wg K hsz hW hf hK;clear hsz;have e37:=hf 37 (by decide)
   simp [slotFact,List.lookup] at e37
   clear hf;go_simp;refine hK _ _ (Below.refl _ _) ?_;with_reducible rfl
  refine Grow.done ?_;intro q wy hW hf;simp only [List.forall_mem_cons] at hf;obtain ⟨h38,h37,h36,h35,h34,h33,h32,h31,h30,-⟩:=hf;have HWY:=upB HB2 hW;have Bc3:=upK Bc2 hW;obtain ⟨⟨v9,hcz⟩,hfz⟩:=ROwn.atT HO.out.v HWY.out HJR.out (i:=5) rfl;intro K hK;rw [if_pos (by rfl)];simp only [putsAll,List.foldr,Act.put,List.setIfInBounds_toArray,List.set_cons_zero,List.set_cons_succ,h38,h37,h36,h35,h34,h33,h32,h31,h30];simp only [List.getLast];go_simp;refine hK _ _ ?_;refine hK0 _ _ ?_;clear hK hK0 K K0;have hV5:=ROwn.setT HO.out.v HWY.out HJR.out (i:=5) rfl x.n hxz;have f1:=ROwn.past (i:=j * 8 + 5) (v:=.string x.n) HO.out.n HWY.out HVB.out (by decide) (by decide);have f2:=ROwn.past (i:=j * 8 + 5) (v:=.string x.n) HO.out.k HWY.out HVB.out (by decide) (by decide);have f4:=ROwn.past (i:=j * 8 + 5) (v:=.string x.n) HO.out.x HWY.out HVB.out (by decide) (by decide);have f5:=ROwn.past (i:=j * 8 + 5) (v:=.string x.n) HO.out.p HWY.out HVB.out (by decide) (by decide);have hK5 : KeptS S w (wy.setCell ⟨gv,j * 8 + 5,none⟩ (.string x.n)):=(KeptS.of_below HWY.out).set HVS.out;have hB5 : (wy.setCell ⟨gv,j * 8 + 5,none⟩ (.string x.n)).heap[b]? = _:=(Below.heap_setCell _ _ _ _ (show b ≠ gv from fun e => hvb e.symm)).trans Bc3.out;have hx5 : (wy.setCell ⟨gv,j * 8 + 5,none⟩ (.string x.n)).heap[gx]? = some (.cells curx 55 (0,0)):=(Below.heap_setCell _ _ _ _ (show gx ≠ gv from fun e => by have h1:=HXB.out;have h2:=HVB.out;rw [e,h2] at h1;simp at h1)).trans ((HWY.out.block _ (lt_of_some HXB.out)).trans HXB.out);obtain ⟨cur5,hv5b⟩ : ∃ cur5,(wy.setCell ⟨gv,j * 8 + 5,none⟩ (.string x.n)).heap[gv]? = some (.cells cur5 100 (0,0)):=⟨_,block_set ((HWY.out.block _ (lt_of_some HVB.out)).trans HVB.out) _⟩;clear hcz hfz;obtain ⟨W5,hW5⟩ : ∃ W5,W5 = wy.setCell ⟨gv,j * 8 + 5,none⟩ (.string x.n):=⟨_,rfl⟩;rw [← hW5] at hV5 f1 f2 f4 f5 hK5 hB5 hx5 hv5b ⊢;have HV5:=hidK hV5
  have HF5:=hidK (And.intro f1 (And.intro f2 (And.intro f4 f5)));have HK5:=hidK hK5;have Bc5:=hidK hB5;have HX5:=hidK hx5;have HVB5:=hidK hv5b
  have hjl5 : j < l3:=by omega
  obtain ⟨b5,o5,v5,e5,hbl5,hx5',hat5⟩:=vd_at (xs:=c.vs.set j (bdV u x.n)) (by rw [List.map_set];exact hV5.row) hjl5
  cases e5
  rw [get_set hjl,if_pos rfl] at hx5';obtain rfl:=Option.some.inj hx5';obtain ⟨va5,vl5,vc5,-,-,-,-,-,cn5,-,-,-,-,-,-,-⟩:=vd_cells hat5;rw [Nat.zero_add] at cn5;have HCN5 : Hid (W5.cell? ⟨gv,j * 8,none⟩ = some (.string u.n)):=cn5;clear hW5 hV5 f1 f2 f4 f5 hK5 hB5 hx5 hat5 cn5 hbl5 hx5' hv5b;go_wp2_with fail;rename_i K0 hK0;refine Gt.wp_region_grow_last (by kernel_rfl) rfl rfl (by kernel_rfl) ?_;refine' Grow.stepC _ rfl ?_ ?_;rotate_left 1
  ·refine Obl.plain rfl ?_;intro ac wg K hsz hW hf hK;clear hsz;have e0:=hf 0 (by decide)
   simp [slotFact,List.lookup] at e0
   clear hf;go_simp;refine hK _ _ (Below.refl _ _) ?_;with_reducible rfl
  refine' Grow.stepC _ rfl ?_ ?_;rotate_left 1
  ·refine Obl.plain rfl ?_;intro ac wg K hsz hW hf hK;clear hsz;have e39:=hf 39 (by decide)
   simp [slotFact,List.lookup] at e39
   clear hf;go_simp;refine hK _ _ (Below.refl _ _) ?_;with_reducible rfl
  refine' Grow.stepC _ rfl ?_ ?_;rotate_left 1
  ·refine Obl.plain rfl ?_;intro ac wg K hsz hW hf hK;clear hsz;have e40:=hf 40 (by decide)
   simp [slotFact,List.lookup] at e40
   clear hf;go_simp;refine hK _ _ (Below.refl _ _) ?_;with_reducible rfl
  refine' Grow.stepC _ rfl ?_ ?_;rotate_left 1
  ·refine Obl.plain rfl ?_;intro ac wg K hsz hW hf hK;clear hsz;have e41:=hf 41 (by decide)
   simp [slotFact,List.lookup] at e41
   clear hf;obtain ⟨k0,k1,k2,k3,k4,k5⟩:=cs6 ((hW.block _ (lt_of_some Bc5.out)).trans Bc5.out);go_simp;refine hK _ _ (Below.refl _ _) ?_;with_reducible rfl
  refine' Grow.stepC _ rfl ?_ ?_;rotate_left 1
  ·refine Obl.plain rfl ?_;intro ac wg K hsz hW hf hK;clear hsz;have e1:=hf 1 (by decide)
   simp [slotFact,List.lookup] at e1
   clear hf;go_simp;refine hK _ _ (Below.refl _ _) ?_;with_reducible rfl
  refine' Grow.stepC _ rfl ?_ ?_;rotate_left 1
  ·refine Obl.plain rfl ?_;intro ac wg K hsz hW hf hK;clear hsz;have e0:=hf 0 (by decide)
   simp [slotFact,List.lookup] at e0
   clear hf;go_simp;refine hK _ _ (Below.refl _ _) ?_;with_reducible rfl
  refine' Grow.stepC _ rfl ?_ ?_;rotate_left 1
  ·refine Obl.plain rfl ?_;intro ac wg K hsz hW hf hK;clear hsz;have e44:=hf 44 (by decide)
   simp [slotFact,List.lookup] at e44
   clear hf;go_simp;refine hK _ _ (Below.refl _ _) ?_;with_reducible rfl
  refine' Grow.stepC _ rfl ?_ ?_;rotate_left 1
  ·refine Obl.plain rfl ?_;intro ac wg K hsz hW hf hK;clear hsz;have e45:=hf 45 (by decide)
   simp [slotFact,List.lookup] at e45
   clear hf;go_simp;refine hK _ _ (Below.refl _ _) ?_;with_reducible rfl
  refine' Grow.stepC _ rfl ?_ ?_;rotate_left 1
  ·refine Obl.plain rfl ?_;intro ac wg K hsz hW hf hK;clear hsz;have e46:=hf 46 (by decide)
   simp [slotFact,List.lookup] at e46
   clear hf;obtain ⟨k0,k1,k2,k3,k4,k5⟩:=cs6 ((hW.block _ (lt_of_some Bc5.out)).trans Bc5.out);go_simp;refine hK _ _ (Below.refl _ _) ?_;with_reducible rfl
  refine' Grow.stepC _ rfl ?_ ?_;rotate_left 1
  ·refine Obl.plain rfl ?_;intro ac wg K hsz hW hf hK;clear hsz;have e9:=hf 9 (by decide)
   simp [slotFact,List.lookup] at e9
   clear hf;go_simp;refine hK _ _ (Below.refl _ _) ?_;with_reducible rfl
  refine' Grow.stepC _ rfl ?_ ?_;rotate_left 1
  ·refine Obl.plain rfl ?_;intro ac wg K hsz hW hf hK;clear hsz;have e47:=hf 47 (by decide)
   simp [slotFact,List.lookup] at e47
   have e48:=hf 48 (by decide)
   simp [slotFact,List.lookup] at e48
   clear hf;go_simp;refine hK _ _ (Below.refl _ _) ?_;with_reducible rfl
  refine' Grow.stepC _ rfl ?_ ?_;rotate_left 1
  ·refine Obl.plain rfl ?_;intro ac wg K hsz hW hf hK;clear hsz;have e49:=hf 49 (by decide)
   simp [slotFact,List.lookup] at e49
   clear hf;go_simp;refine hK _ _ (Below.refl _ _) ?_;with_reducible rfl
  refine' Grow.stepC _ rfl ?_ ?_;rotate_left 1
  ·refine Obl.plain rfl ?_;intro ac wg K hsz hW hf hK;clear hsz;have e50:=hf 50 (by decide)
   simp [slotFact,List.lookup] at e50
   clear hf;have c7:=(cell_below hW (lt_of_some HVB5.out)).trans HCN5.out;go_simp;refine hK _ _ (Below.refl _ _) ?_;with_reducible rfl
  refine' Grow.stepC _ rfl ?_ ?_;rotate_left 1
  ·refine Obl.plain rfl ?_;intro ac wg K hsz hW hf hK;clear hsz;have e42:=hf 42 (by decide)
   simp [slotFact,List.lookup] at e42
   have e43:=hf 43 (by decide)
   simp [slotFact,List.lookup] at e43
   clear hf;go_simp;refine hK _ _ (Below.refl _ _) ?_;with_reducible rfl
  refine' Grow.stepC _ rfl ?_ ?_;rotate_left 1
  ·refine Obl.plain rfl ?_;intro ac wg K hsz hW hf hK;clear hsz;have e52:=hf 52 (by decide)
   simp [slotFact,List.lookup] at e52
   clear hf;go_simp;refine hK _ _ (Below.refl _ _) ?_;with_reducible rfl
  refine Grow.done ?_;intro q wx hW hf;simp only [List.forall_mem_cons] at hf;obtain ⟨h53,h52,h51,h50,h49,h48,h47,h46,h45,h44,h43,h42,h41,h40,h39,-⟩:=hf;have HWX:=hidK hW;have Bc6:=upK Bc5 hW;obtain ⟨⟨v9,hcz⟩,hfz⟩:=ROwn.atT HF5.out.2.2.1 hW HIR.out (i:=4) rfl;intro K hK;rw [if_pos (by rfl)];simp only [putsAll,List.foldr,Act.put,List.setIfInBounds_toArray,List.set_cons_zero,List.set_cons_succ,h53,h52,h51,h50,h49,h48,h47,h46,h45,h44,h43,h42,h41,h40,h39];simp only [List.getLast];go_simp;refine hK _ _ ?_;refine hK0 _ _ ?_;clear hK hK0 K K0;have hX6:=ROwn.setT HF5.out.2.2.1 HWX.out HIR.out (i:=4) rfl u.n huz;have f1:=ROwn.past (i:=i * 5 + 4) (v:=.string u.n) HF5.out.1 HWX.out HX5.out (by decide) (by decide);have f2:=ROwn.past (i:=i * 5 + 4) (v:=.string u.n) HF5.out.2.1 HWX.out HX5.out (by decide) (by decide);have f3:=ROwn.past (i:=i * 5 + 4) (v:=.string u.n) HV5.out HWX.out HX5.out (by decide) (by decide);have f5:=ROwn.past (i:=i * 5 + 4) (v:=.string u.n) HF5.out.2.2.2 HWX.out HX5.out (by decide) (by decide);have hK6 : KeptS S w (wx.setCell ⟨gx,i * 5 + 4,none⟩ (.string u.n)):=(HK5.out.below HWX.out).set HGS.out;have hB6 : (wx.setCell ⟨gx,i * 5 + 4,none⟩ (.string u.n)).heap[b]? = _:=(Below.heap_setCell _ _ _ _ (show b ≠ gx from fun e => hgb e.symm)).trans Bc6.out
  have hc6 : (wx.setCell ⟨gx,i * 5 + 4,none⟩ (.string u.n)).cell? ⟨gv,j * 8,none⟩ = some (.string u.n):=by
   have h9:=(cell_below HWX.out (lt_of_some HVB5.out)).trans HCN5.out
   have hne : ¬ gv = gx:=fun e => by have h1:=HX5.out;have h2:=HVB5.out;rw [← e,h2] at h1;simp at h1
   have e9 : (wx.setCell ⟨gx,i * 5 + 4,none⟩ (.string u.n)).heap[gv]? = wx.heap[gv]?:=Below.heap_setCell _ _ _ _ hne;simp only [World.cell?,e9] at h9 ⊢;exact h9
  clear hcz hfz;obtain ⟨W6,hW6⟩ : ∃ W6,W6 = wx.setCell ⟨gx,i * 5 + 4,none⟩ (.string u.n):=⟨_,rfl⟩;rw [← hW6] at hX6 f1 f2 f3 f5 hK6 hB6 hc6 ⊢;have HA6 : Hid (ClFr W6 ⟨a1,l1,y1,a2,l2,y2,some ⟨gv,0,none⟩,l3,y3,some ⟨gx,0,none⟩,l4,y4,a5,l5,y5⟩ (bindC c i j x u).raw S):=⟨f1,f2,by show ROwn _ _ _ _ _ _ ((c.vs.set j (bdV u x.n)).map vdF) _;rw [List.map_set];exact f3,by show ROwn _ _ _ _ _ _ ((c.xs.set i (bdX x u.n)).map xdF) _;rw [List.map_set];exact hX6,f5⟩;have HK6:=hidK hK6;have HB6:=hidK hB6;clear hW6 hX6 f1 f2 f3 f5 hK6;obtain ⟨k0,k1,k2,k3,k4,k5⟩:=cs6 hB6;clear hB6
  go_wp2
  exact bodyPost_ret (v:=.tuple #[.string u.n,.int .i64 0]) (by simp [results,Tryz.results23,go_sem, *]) rfl (.inl ⟨j,u,HSO.out,HJU.out,rfl,HB6.out,HA6.out,HK6.out⟩)
 rw [List.take_length] at hnone;have HNO:=hidK hnone
 have hkr : (c.ks.map kdF)[jk]? = some (kdF kc):=by rw [List.getElem?_map,HK.out.1];rfl
 have hir : (c.xs.map xdF)[i]? = some (xdF x):=by rw [List.getElem?_map,HX.out];rfl
 have HIR:=hidK hir
 have hjk : jk < l2:=by have:=(List.getElem?_eq_some_iff.1 HK.out.1).1;omega
 have hj2 : (jk : Int) < l2:=by omega
 have hj0 : ¬ (jk : Int) < 0:=by omega
 obtain ⟨gk,curk,hgk,-,hgkl,-⟩:=ROwn.inn HO.out.k hkr;have hgk' : a2 = some ⟨gk,0,none⟩:=hgk;subst hgk';obtain ⟨gx2,curx,hgx2,-,-,hgxb⟩:=ROwn.inn HO.out.x hir
 cases hgx2
 have HXB:=hidK hgxb;obtain ⟨b2,o2,y',e2,hb2,hx2,hat⟩:=kd_at HO.out.k.row hjk
 cases e2
 rw [HK.out.1] at hx2;obtain rfl:=Option.some.inj hx2;obtain ⟨zk0,zk3,d0,d1,d2,d3⟩:=kd_cells hat;rw [Nat.zero_add] at d0 d1 d2 d3;have HKC:=hidK (And.intro d0 (And.intro d1 (And.intro d2 d3)));have HZK:=hidK (And.intro zk0 zk3);have HRK:=hidK HO.out.k.row;have HGK:=hidK hgkl;clear hnone hkr hir hgk hgxb hat hx2 hb2 zk0 zk3 d0 d1 d2 d3;go_wp2_with fail;rename_i K0 hK0;refine wp_region_grow_last (by kernel_rfl) rfl rfl (by kernel_rfl) ?_;refine' Grow.stepC _ rfl ?_ ?_;rotate_left 1
 ·refine Obl.plain rfl ?_;intro ac wg K hsz hW hf hK;clear hsz;have e0:=hf 0 (by decide)
  simp [slotFact,List.lookup] at e0
  clear hf;go_simp;refine hK _ _ (Below.refl _ _) ?_;with_reducible rfl
 refine' Grow.stepC _ rfl ?_ ?_;rotate_left 1
 ·refine Obl.plain rfl ?_;intro ac wg K hsz hW hf hK;clear hsz;have e62:=hf 62 (by decide)
  simp [slotFact,List.lookup] at e62
  clear hf;go_simp;refine hK _ _ (Below.refl _ _) ?_;with_reducible rfl
 refine' Grow.stepC _ rfl ?_ ?_;rotate_left 1
 ·refine Obl.plain rfl ?_;intro ac wg K hsz hW hf hK;clear hsz;have e63:=hf 63 (by decide)
  simp [slotFact,List.lookup] at e63
  clear hf;go_simp;refine hK _ _ (Below.refl _ _) ?_;with_reducible rfl
 refine' Grow.stepC _ rfl ?_ ?_;rotate_left 1
 ·refine Obl.plain rfl ?_;intro ac wg K hsz hW hf hK;clear hsz;have e64:=hf 64 (by decide)
  simp [slotFact,List.lookup] at e64
  clear hf;obtain ⟨k0,k1,k2,k3,k4,k5⟩:=cs6 ((hW.block _ (lt_of_some Bc2.out)).trans Bc2.out);go_simp;refine hK _ _ (Below.refl _ _) ?_;with_reducible rfl
 refine' Grow.stepC _ rfl ?_ ?_;rotate_left 1
 ·refine Obl.plain rfl ?_;intro ac wg K hsz hW hf hK;clear hsz;have e0:=hf 0 (by decide)
  simp [slotFact,List.lookup] at e0
  clear hf;go_simp;refine hK _ _ (Below.refl _ _) ?_;with_reducible rfl
 refine' Grow.stepC _ rfl ?_ ?_;rotate_left 1
 ·refine Obl.plain rfl ?_;intro ac wg K hsz hW hf hK;clear hsz;have e66:=hf 66 (by decide)
  simp [slotFact,List.lookup] at e66
  clear hf;go_simp;refine hK _ _ (Below.refl _ _) ?_;with_reducible rfl
 refine' Grow.stepC _ rfl ?_ ?_;rotate_left 1
 ·refine Obl.plain rfl ?_;intro ac wg K hsz hW hf hK;clear hsz;have e67:=hf 67 (by decide)
  simp [slotFact,List.lookup] at e67
  clear hf;obtain ⟨k0,k1,k2,k3,k4,k5⟩:=cs6 ((hW.block _ (lt_of_some Bc2.out)).trans Bc2.out);go_simp;refine hK _ _ (Below.refl _ _) ?_;with_reducible rfl
 refine' Grow.stepC _ rfl ?_ ?_;rotate_left 1
 ·refine Obl.plain rfl ?_;intro ac wg K hsz hW hf hK;clear hsz;have e8:=hf 8 (by decide)
  simp [slotFact,List.lookup] at e8
  clear hf;go_simp;refine hK _ _ (Below.refl _ _) ?_;with_reducible rfl
 refine' Grow.stepC _ rfl ?_ ?_;rotate_left 1
 ·refine Obl.plain rfl ?_;intro ac wg K hsz hW hf hK;clear hsz;have e69:=hf 69 (by decide)
  simp [slotFact,List.lookup] at e69
  clear hf;obtain ⟨x0,x1,x2,x3,x4⟩:=cs5 ((hW.block _ (lt_of_some Bx2.out)).trans Bx2.out);go_simp;refine hK _ _ (Below.refl _ _) ?_;with_reducible rfl
 refine Grow.step (fun v _ => v = .int .i64 jk) rfl (Fact.mono_eq _) ?_ ?_
 ·refine Obl.plain rfl ?_;intro ac wg K hsz hW hf hK;clear hsz;have e68:=hf 68 (by decide)
  simp [slotFact,List.lookup] at e68
  have e70:=hf 70 (by decide)
  simp [slotFact,List.lookup] at e70
  clear hf;go_simp;refine (sxkd_hit ⟨a1,l1,y1,some ⟨gk,0,none⟩,l2,y2,a3,l3,y3,some ⟨gx,0,none⟩,l4,y4,a5,l5,y5⟩ c.now c.ks x.k _ (HRK.out.below (HB2.out.trans (hW.mono HB2.out.size))) HT.out.2.1.2.1.2.2 HK.out.1 HK.out.2).mono ?_;rintro e w6 ⟨rfl,hb6⟩;exact hK _ _ hb6 rfl
 refine' Grow.stepC _ rfl ?_ ?_;rotate_left 1
 ·refine Obl.plain rfl ?_;intro ac wg K hsz hW hf hK;clear hsz;have e65:=hf 65 (by decide)
  simp [slotFact,List.lookup] at e65
  have e71:=hf 71 (by decide)
  simp [slotFact,List.lookup] at e71
  clear hf;go_simp;refine hK _ _ (Below.refl _ _) ?_;with_reducible rfl
 refine' Grow.stepC _ rfl ?_ ?_;rotate_left 1
 ·refine Obl.plain rfl ?_;intro ac wg K hsz hW hf hK;clear hsz;have e72:=hf 72 (by decide)
  simp [slotFact,List.lookup] at e72
  clear hf;obtain ⟨d0,d1,d2,d3⟩:=HKC.out;have hbg:=HB2.out.trans (hW.mono HB2.out.size);replace d0:=(cell_below hbg HGK.out).trans d0;replace d1:=(cell_below hbg HGK.out).trans d1;replace d2:=(cell_below hbg HGK.out).trans d2;replace d3:=(cell_below hbg HGK.out).trans d3;go_simp;refine hK _ _ (Below.refl _ _) ?_;with_reducible rfl
 refine Grow.step (BoxK wz.heap.size) rfl (BoxK.mono _) ?_ ?_
 ·refine Obl.plain rfl ?_;intro ac wg K hsz hW hf hK;clear hsz;clear hf;go_simp;exact hK _ _ (below1 _ _) ⟨_,rfl,hW.size,Array.getElem?_push_size⟩
 refine Grow.done ?_;intro q wy hW hf;simp only [List.forall_mem_cons] at hf;obtain ⟨⟨b9,h10,hb9,hg9⟩,h73,h72,h71,h70,h69,h68,h67,h66,h65,h64,h63,h62,-⟩:=hf;have g0:=hg9;have g1 : (wy.setCell ⟨b9,0,none⟩ (.string kc.n)).heap[b9]? = some (.cells #[.string kc.n,.bool false,.bool false,.string ⟨#[]⟩] 57 (0,0)):=block_set g0 _;have g2 : ((wy.setCell ⟨b9,0,none⟩ (.string kc.n)).setCell ⟨b9,1,none⟩ (.bool kc.x)).heap[b9]? = some (.cells #[.string kc.n,.bool kc.x,.bool false,.string ⟨#[]⟩] 57 (0,0)):=block_set g1 _;have g3 : (((wy.setCell ⟨b9,0,none⟩ (.string kc.n)).setCell ⟨b9,1,none⟩ (.bool kc.x)).setCell ⟨b9,2,none⟩ (.bool kc.y)).heap[b9]? = some (.cells #[.string kc.n,.bool kc.x,.bool kc.y,.string ⟨#[]⟩] 57 (0,0)):=block_set g2 _;have g4 : ((((wy.setCell ⟨b9,0,none⟩ (.string kc.n)).setCell ⟨b9,1,none⟩ (.bool kc.x)).setCell ⟨b9,2,none⟩ (.bool kc.y)).setCell ⟨b9,3,none⟩ (.string kc.z)).heap[b9]? = some (.cells #[.string kc.n,.bool kc.x,.bool kc.y,.string kc.z] 57 (0,0)):=block_set g3 _;obtain ⟨t0,t1,t2,t3⟩:=cs4 hg9;have f0:=froK hg9 0;have f1:=froK hg9 1;have f2:=froK hg9 2;have f3:=froK hg9 3;have Bn:=hidK g4;have HWX : Hid (Below wz.heap.size wz ((((wy.setCell ⟨b9,0,none⟩ (.string kc.n)).setCell ⟨b9,1,none⟩ (.bool kc.x)).setCell ⟨b9,2,none⟩ (.bool kc.y)).setCell ⟨b9,3,none⟩ (.string kc.z))):=set_below hb9 (set_below hb9 (set_below hb9 (set_below hb9 (hW))));clear g0 g1 g2 g3 g4 hg9;intro K hK;rw [if_pos (by rfl)];simp only [putsAll,List.foldr,Act.put,List.setIfInBounds_toArray,List.set_cons_zero,List.set_cons_succ,h10,h73,h72,h71,h70,h69,h68,h67,h66,h65,h64,h63,h62];simp only [List.getLast];go_simp;refine hK _ _ ?_;refine hK0 _ _ ?_;clear hK hK0 K K0
 generalize ((((wy.setCell ⟨b9,0,none⟩ (.string kc.n)).setCell ⟨b9,1,none⟩ (.bool kc.x)).setCell ⟨b9,2,none⟩ (.bool kc.y)).setCell ⟨b9,3,none⟩ (.string kc.z)) = X3 at Bn HWX ⊢
 clear t0 t1 t2 t3 f0 f1 f2 f3;have HB3:=hidK (HB2.out.trans (HWX.out.mono HB2.out.size));have Bc3:=upK Bc2 HWX.out;have Bx3:=upK Bx2 HWX.out
 have hb9' : w.heap.size < b9:=by omega
 clear hW HWX HB2 Bc2 Bx2
 by_cases hte : t = ⟨#[]⟩
 ·have hq:=isE_y hte
  have HZO : Hid (zoneOf t kc.z = kc.z):=by show zoneOf _ _ = _;unfold zoneOf;rw [if_pos hte]
  clear hte;have hzn : ¬ kc.z = ⟨#[]⟩ → NameOk kc.z:=fun h => ((HT.out.2.1.2.1.2.1 jk kc HK.out.1).2.resolve_left h);obtain ⟨x0,x1,x2,x3,x4⟩:=cs5 Bx3.out;obtain ⟨n0,n1,n2,n3⟩:=cs4 Bn.out;have hxl:=lt_of_some Bx3.out;have hnl:=lt_of_some Bn.out;go_wp2_with fail;clear x0 x1 x2 x3 x4 n0 n1 n2 n3
  by_cases hm : MakeM x.n x.k x.v kc.n kc.z kc.z
  rotate_left
  ·refine (smk_no x.n x.z x.k x.x x.v kc.n kc.x kc.y kc.z kc.z _ HZX.out.1 hm).mono ?_;rintro e w5 ⟨rfl,hb⟩;have HNM : Hid (¬ MayV x kc t):=fun h => hm (by have h1:=h.2;rw [HZO.out] at h1;exact h1);have HB5:=upB HB3 hb;clear hb hm
   go_wp2
   exact bodyPost_ret (v:=.tuple #[.string ⟨#[]⟩,.int .i64 6]) (by simp [results,Tryz.results23,go_sem]) rfl (.inr ⟨HNO.out,.inl ⟨6,by decide,.inl ⟨HNM.out,rfl⟩,rfl,HB5.out.alloc HB5.out.size _⟩⟩)
  refine (smk_yes x.n x.z x.k x.x x.v kc.n kc.x kc.y kc.z kc.z _ hm).mono ?_;rintro e w5 ⟨rfl,hb⟩;have HM:=hidK hm;have HB5:=upB HB3 hb;have Bc5:=upK Bc3 hb;clear hb hm Bc3 Bx3 Bn hxl hnl
  by_cases hz : kc.z = ⟨#[]⟩
  ·have HNM : Hid (¬ MayV x kc t):=fun h => h.1 (by rw [HZO.out];exact hz)
   
   have hq2:=isE_y hz;clear hz
   go_wp2
   exact bodyPost_ret (v:=.tuple #[.string ⟨#[]⟩,.int .i64 6]) (by simp [results,Tryz.results23,go_sem]) rfl (.inr ⟨HNO.out,.inl ⟨6,by decide,.inl ⟨HNM.out,rfl⟩,rfl,HB5.out.alloc HB5.out.size _⟩⟩)
  have HMV : Hid (MayV x kc t):=⟨by rw [HZO.out];exact hz,by rw [HZO.out];exact HM.out⟩;have hzno:=hzn hz;have HZN:=hidK hzno
  
  have hq2:=isE_no hz;clear hz hzno hzn;go_wp2_with fail;clear hq2;obtain ⟨W,hW0⟩ : ∃ W,W = w5.alloc (.cells #[.string (wMade ++ x.n),.int .i64 x.z,.string kc.z,.string x.k,.bool x.x,.string x.n,.bool false,.slice none 0 0] 100):=⟨_,rfl⟩;have BcW:=hidK ((Below.heap_alloc w5 (.cells #[.string (wMade ++ x.n),.int .i64 x.z,.string kc.z,.string x.k,.bool x.x,.string x.n,.bool false,.slice none 0 0] 100) _ (lt_of_some Bc5.out)).trans Bc5.out);have BvW:=hidK (heap_alloc_new w5 (.cells #[.string (wMade ++ x.n),.int .i64 x.z,.string kc.z,.string x.k,.bool x.x,.string x.n,.bool false,.slice none 0 0] 100));have HBW:=hidK (HB5.out.trans ((below1 w5 (.cells #[.string (wMade ++ x.n),.int .i64 x.z,.string kc.z,.string x.k,.bool x.x,.string x.n,.bool false,.slice none 0 0] 100)).mono HB5.out.size));have hw5 : w.heap.size ≤ w5.heap.size:=HB5.out.size;rw [← hW0] at BcW BvW HBW ⊢;clear hW0 Bc5 HB5
  cases hh : hit Vd.n c.vs (wMade ++ x.n)
  rotate_left
  ·obtain ⟨u9,hu9,hun9⟩:=hit_yes hh;have HU:=hidK (And.intro hu9 hun9);have HH:=hidK hh;obtain ⟨j9,hj9⟩ : ∃ j9,j9 = pl Vd.n c.vs (wMade ++ x.n):=⟨_,rfl⟩;rw [← hj9] at HU;clear hu9 hun9 hh hj9;rename_i K0 hK0;refine wp_region_grow (back:=none) (by kernel_rfl) (List.append_nil _).symm (by kernel_rfl) ?_;refine' Grow.stepC _ rfl ?_ ?_;rotate_left 1
   ·refine Obl.plain rfl ?_;intro ac wg K hsz hW hf hK;clear hsz;have e0:=hf 0 (by decide)
    simp [slotFact,List.lookup] at e0
    clear hf;go_simp;refine hK _ _ (Below.refl _ _) ?_;with_reducible rfl
   refine' Grow.stepC _ rfl ?_ ?_;rotate_left 1
   ·refine Obl.plain rfl ?_;intro ac wg K hsz hW hf hK;clear hsz;have e91:=hf 91 (by decide)
    simp [slotFact,List.lookup] at e91
    clear hf;go_simp;refine hK _ _ (Below.refl _ _) ?_;with_reducible rfl
   refine' Grow.stepC _ rfl ?_ ?_;rotate_left 1
   ·refine Obl.plain rfl ?_;intro ac wg K hsz hW hf hK;clear hsz;have e92:=hf 92 (by decide)
    simp [slotFact,List.lookup] at e92
    clear hf;obtain ⟨k0,k1,k2,k3,k4,k5⟩:=cs6 ((hW.block _ (lt_of_some BcW.out)).trans BcW.out);go_simp;refine hK _ _ (Below.refl _ _) ?_;with_reducible rfl
   refine' Grow.stepC _ rfl ?_ ?_;rotate_left 1
   ·refine Obl.plain rfl ?_;intro ac wg K hsz hW hf hK;clear hsz;have e11:=hf 11 (by decide)
    simp [slotFact,List.lookup] at e11
    clear hf;go_simp;refine hK _ _ (Below.refl _ _) ?_;with_reducible rfl
   refine' Grow.stepC _ rfl ?_ ?_;rotate_left 1
   ·refine Obl.plain rfl ?_;intro ac wg K hsz hW hf hK;clear hsz;have e94:=hf 94 (by decide)
    simp [slotFact,List.lookup] at e94
    clear hf;obtain ⟨v0,v1,v2,v3,v4,v5,v6,v7⟩:=cs8 ((hW.block _ (lt_of_some BvW.out)).trans BvW.out);go_simp;refine hK _ _ (Below.refl _ _) ?_;with_reducible rfl
   refine Grow.step (fun v _ => v = .int .i64 (j9 : Nat)) rfl (Fact.mono_eq _) ?_ ?_
   ·refine Obl.plain rfl ?_;intro ac wg K hsz hW hf hK;clear hsz;have e93:=hf 93 (by decide)
    simp [slotFact,List.lookup] at e93
    have e95:=hf 95 (by decide)
    simp [slotFact,List.lookup] at e95
    clear hf;go_simp;refine (sxvd_hit ⟨a1,l1,y1,some ⟨gk,0,none⟩,l2,y2,a3,l3,y3,some ⟨gx,0,none⟩,l4,y4,a5,l5,y5⟩ c.now c.vs (wMade ++ x.n) _ (HO.out.v.row.below (HBW.out.trans (hW.mono HBW.out.size))) HT.out.2.1.2.2.1.2.2 HU.out.1 HU.out.2).mono ?_;rintro e w6 ⟨rfl,hb6⟩;exact hK _ _ hb6 rfl
   refine' Grow.stepC (.bool true) rfl ?_ ?_
   ·refine Obl.plain rfl ?_;intro ac wg K hsz hW hf hK;clear hsz;have e96:=hf 96 (by decide)
    simp [slotFact,List.lookup] at e96
    clear hf;go_simp;refine hK _ _ (Below.refl _ _) ?_;with_reducible rfl
   refine' Grow.stepC _ rfl ?_ ?_;rotate_left 1
   ·refine Obl.plain rfl ?_;intro ac wg K hsz hW hf hK;clear hsz;have e0:=hf 0 (by decide)
    simp [slotFact,List.lookup] at e0
    clear hf;go_simp;refine hK _ _ (Below.refl _ _) ?_;with_reducible rfl
   refine' Grow.stepC _ rfl ?_ ?_;rotate_left 1
   ·refine Obl.plain rfl ?_;intro ac wg K hsz hW hf hK;clear hsz;have e98:=hf 98 (by decide)
    simp [slotFact,List.lookup] at e98
    clear hf;go_simp;refine hK _ _ (Below.refl _ _) ?_;with_reducible rfl
   refine' Grow.stepC _ rfl ?_ ?_;rotate_left 1
   ·refine Obl.plain rfl ?_;intro ac wg K hsz hW hf hK;clear hsz;have e99:=hf 99 (by decide)
    simp [slotFact,List.lookup] at e99
    clear hf;go_simp;refine hK _ _ (Below.refl _ _) ?_;with_reducible rfl
   refine' Grow.stepC _ rfl ?_ ?_;rotate_left 1
   ·refine Obl.plain rfl ?_;intro ac wg K hsz hW hf hK;clear hsz;have e100:=hf 100 (by decide)
    simp [slotFact,List.lookup] at e100
    clear hf;obtain ⟨k0,k1,k2,k3,k4,k5⟩:=cs6 ((hW.block _ (lt_of_some BcW.out)).trans BcW.out);go_simp;refine hK _ _ (Below.refl _ _) ?_;with_reducible rfl
   refine' Grow.stepC (.int .i64 l3) rfl ?_ ?_
   ·refine Obl.plain rfl ?_;intro ac wg K hsz hW hf hK;clear hsz;have e101:=hf 101 (by decide)
    simp [slotFact,List.lookup] at e101
    clear hf;go_simp;refine hK _ _ (Below.refl _ _) ?_;with_reducible rfl
   refine Grow.step (fun v _ => v = .int .i64 7) rfl (Fact.mono_eq _) ?_ ?_
   ·refine Obl.plain rfl ?_;intro ac wg K hsz hW hf hK;clear hsz;have e97:=hf 97 (by decide)
    simp [slotFact,List.lookup] at e97
    have e102:=hf 102 (by decide)
    simp [slotFact,List.lookup] at e102
    clear hf;go_simp;refine (scode_there l3 8 _).mono ?_;rintro e w6 ⟨rfl,hb6⟩;exact hK _ _ hb6 rfl
   refine' Grow.stepC _ rfl ?_ ?_;rotate_left 1
   ·refine Obl.plain rfl ?_;intro ac wg K hsz hW hf hK;clear hsz;have e103:=hf 103 (by decide)
    simp [slotFact,List.lookup] at e103
    clear hf;go_simp;refine hK _ _ (Below.refl _ _) ?_;with_reducible rfl
   refine Grow.done ?_;intro q wy hW hf;simp only [List.forall_mem_cons] at hf;obtain ⟨h13,h103,h102,h101,h100,h99,h98,h97,h96,h95,h94,h93,h92,h91,-⟩:=hf;have HWY:=hidK hW;clear hW;refine hK0 _ _ ?_;simp only [putsAll,List.foldr,Act.put,List.setIfInBounds_toArray,List.set_cons_zero,List.set_cons_succ,h13,h103,h102,h101,h100,h99,h98,h97,h96,h95,h94,h93,h92,h91];clear hK0
   go_wp2
   exact bodyPost_ret (v:=.tuple #[.string ⟨#[]⟩,.int .i64 7]) (by simp [results,Tryz.results23,go_sem]) rfl (.inr ⟨HNO.out,.inl ⟨7,by decide,.inr (.inl ⟨HMV.out,HH.out,rfl⟩),rfl,HBW.out.trans (HWY.out.mono HBW.out.size)⟩⟩)
  have HH:=hidK hh;clear hh
  by_cases h8 : l3 < 8
  rotate_left
  ·rename_i K0 hK0;refine wp_region_grow (back:=none) (by kernel_rfl) (List.append_nil _).symm (by kernel_rfl) ?_;refine' Grow.stepC _ rfl ?_ ?_;rotate_left 1
   ·refine Obl.plain rfl ?_;intro ac wg K hsz hW hf hK;clear hsz;have e0:=hf 0 (by decide)
    simp [slotFact,List.lookup] at e0
    clear hf;go_simp;refine hK _ _ (Below.refl _ _) ?_;with_reducible rfl
   refine' Grow.stepC _ rfl ?_ ?_;rotate_left 1
   ·refine Obl.plain rfl ?_;intro ac wg K hsz hW hf hK;clear hsz;have e91:=hf 91 (by decide)
    simp [slotFact,List.lookup] at e91
    clear hf;go_simp;refine hK _ _ (Below.refl _ _) ?_;with_reducible rfl
   refine' Grow.stepC _ rfl ?_ ?_;rotate_left 1
   ·refine Obl.plain rfl ?_;intro ac wg K hsz hW hf hK;clear hsz;have e92:=hf 92 (by decide)
    simp [slotFact,List.lookup] at e92
    clear hf;obtain ⟨k0,k1,k2,k3,k4,k5⟩:=cs6 ((hW.block _ (lt_of_some BcW.out)).trans BcW.out);go_simp;refine hK _ _ (Below.refl _ _) ?_;with_reducible rfl
   refine' Grow.stepC _ rfl ?_ ?_;rotate_left 1
   ·refine Obl.plain rfl ?_;intro ac wg K hsz hW hf hK;clear hsz;have e11:=hf 11 (by decide)
    simp [slotFact,List.lookup] at e11
    clear hf;go_simp;refine hK _ _ (Below.refl _ _) ?_;with_reducible rfl
   refine' Grow.stepC _ rfl ?_ ?_;rotate_left 1
   ·refine Obl.plain rfl ?_;intro ac wg K hsz hW hf hK;clear hsz;have e94:=hf 94 (by decide)
    simp [slotFact,List.lookup] at e94
    clear hf;obtain ⟨v0,v1,v2,v3,v4,v5,v6,v7⟩:=cs8 ((hW.block _ (lt_of_some BvW.out)).trans BvW.out);go_simp;refine hK _ _ (Below.refl _ _) ?_;with_reducible rfl
   refine Grow.step (fun v _ => v = .int .i64 (-1)) rfl (Fact.mono_eq _) ?_ ?_
   ·refine Obl.plain rfl ?_;intro ac wg K hsz hW hf hK;clear hsz;have e93:=hf 93 (by decide)
    simp [slotFact,List.lookup] at e93
    have e95:=hf 95 (by decide)
    simp [slotFact,List.lookup] at e95
    clear hf;go_simp;refine (sxvd_miss ⟨a1,l1,y1,some ⟨gk,0,none⟩,l2,y2,a3,l3,y3,some ⟨gx,0,none⟩,l4,y4,a5,l5,y5⟩ c.now c.vs (wMade ++ x.n) _ (HO.out.v.row.below (HBW.out.trans (hW.mono HBW.out.size))) (fun j9 v9 h9 e9 => by have h7:=(hit_at HT.out.2.1.2.2.1.2.2 h9 e9).2;rw [HH.out] at h7;cases h7)).mono ?_;rintro e w6 ⟨rfl,hb6⟩;exact hK _ _ hb6 rfl
   refine' Grow.stepC (.bool false) rfl ?_ ?_
   ·refine Obl.plain rfl ?_;intro ac wg K hsz hW hf hK;clear hsz;have e96:=hf 96 (by decide)
    simp [slotFact,List.lookup] at e96
    clear hf;go_simp;refine hK _ _ (Below.refl _ _) ?_;with_reducible rfl
   refine' Grow.stepC _ rfl ?_ ?_;rotate_left 1
   ·refine Obl.plain rfl ?_;intro ac wg K hsz hW hf hK;clear hsz;have e0:=hf 0 (by decide)
    simp [slotFact,List.lookup] at e0
    clear hf;go_simp;refine hK _ _ (Below.refl _ _) ?_;with_reducible rfl
   refine' Grow.stepC _ rfl ?_ ?_;rotate_left 1
   ·refine Obl.plain rfl ?_;intro ac wg K hsz hW hf hK;clear hsz;have e98:=hf 98 (by decide)
    simp [slotFact,List.lookup] at e98
    clear hf;go_simp;refine hK _ _ (Below.refl _ _) ?_;with_reducible rfl
   refine' Grow.stepC _ rfl ?_ ?_;rotate_left 1
   ·refine Obl.plain rfl ?_;intro ac wg K hsz hW hf hK;clear hsz;have e99:=hf 99 (by decide)
    simp [slotFact,List.lookup] at e99
    clear hf;go_simp;refine hK _ _ (Below.refl _ _) ?_;with_reducible rfl
   refine' Grow.stepC _ rfl ?_ ?_;rotate_left 1
   ·refine Obl.plain rfl ?_;intro ac wg K hsz hW hf hK;clear hsz;have e100:=hf 100 (by decide)
    simp [slotFact,List.lookup] at e100
    clear hf;obtain ⟨k0,k1,k2,k3,k4,k5⟩:=cs6 ((hW.block _ (lt_of_some BcW.out)).trans BcW.out);go_simp;refine hK _ _ (Below.refl _ _) ?_;with_reducible rfl
   refine' Grow.stepC (.int .i64 l3) rfl ?_ ?_
   ·refine Obl.plain rfl ?_;intro ac wg K hsz hW hf hK;clear hsz;have e101:=hf 101 (by decide)
    simp [slotFact,List.lookup] at e101
    clear hf;go_simp;refine hK _ _ (Below.refl _ _) ?_;with_reducible rfl
   refine Grow.step (fun v _ => v = .int .i64 9) rfl (Fact.mono_eq _) ?_ ?_
   ·refine Obl.plain rfl ?_;intro ac wg K hsz hW hf hK;clear hsz;have e97:=hf 97 (by decide)
    simp [slotFact,List.lookup] at e97
    have e102:=hf 102 (by decide)
    simp [slotFact,List.lookup] at e102
    clear hf;go_simp;refine (scode_full l3 8 (by omega) _).mono ?_;rintro e w6 ⟨rfl,hb6⟩;exact hK _ _ hb6 rfl
   refine' Grow.stepC _ rfl ?_ ?_;rotate_left 1
   ·refine Obl.plain rfl ?_;intro ac wg K hsz hW hf hK;clear hsz;have e103:=hf 103 (by decide)
    simp [slotFact,List.lookup] at e103
    clear hf;go_simp;refine hK _ _ (Below.refl _ _) ?_;with_reducible rfl
   refine Grow.done ?_;intro q wy hW hf;simp only [List.forall_mem_cons] at hf;obtain ⟨h13,h103,h102,h101,h100,h99,h98,h97,h96,h95,h94,h93,h92,h91,-⟩:=hf;have HWY:=hidK hW;clear hW;refine hK0 _ _ ?_;simp only [putsAll,List.foldr,Act.put,List.setIfInBounds_toArray,List.set_cons_zero,List.set_cons_succ,h13,h103,h102,h101,h100,h99,h98,h97,h96,h95,h94,h93,h92,h91];clear hK0
   go_wp2
   exact bodyPost_ret (v:=.tuple #[.string ⟨#[]⟩,.int .i64 9]) (by simp [results,Tryz.results23,go_sem]) rfl (.inr ⟨HNO.out,.inl ⟨9,by decide,.inr (.inr ⟨HMV.out,HH.out,by omega,rfl⟩),rfl,HBW.out.trans (HWY.out.mono HBW.out.size)⟩⟩)
  rename_i K0 hK0;refine wp_region_grow (back:=none) (by kernel_rfl) (List.append_nil _).symm (by kernel_rfl) ?_;refine' Grow.stepC _ rfl ?_ ?_;rotate_left 1
  ·refine Obl.plain rfl ?_;intro ac wg K hsz hW hf hK;clear hsz;have e0:=hf 0 (by decide)
   simp [slotFact,List.lookup] at e0
   clear hf;go_simp;refine hK _ _ (Below.refl _ _) ?_;with_reducible rfl
  refine' Grow.stepC _ rfl ?_ ?_;rotate_left 1
  ·refine Obl.plain rfl ?_;intro ac wg K hsz hW hf hK;clear hsz;have e91:=hf 91 (by decide)
   simp [slotFact,List.lookup] at e91
   clear hf;go_simp;refine hK _ _ (Below.refl _ _) ?_;with_reducible rfl
  refine' Grow.stepC _ rfl ?_ ?_;rotate_left 1
  ·refine Obl.plain rfl ?_;intro ac wg K hsz hW hf hK;clear hsz;have e92:=hf 92 (by decide)
   simp [slotFact,List.lookup] at e92
   clear hf;obtain ⟨k0,k1,k2,k3,k4,k5⟩:=cs6 ((hW.block _ (lt_of_some BcW.out)).trans BcW.out);go_simp;refine hK _ _ (Below.refl _ _) ?_;with_reducible rfl
  refine' Grow.stepC _ rfl ?_ ?_;rotate_left 1
  ·refine Obl.plain rfl ?_;intro ac wg K hsz hW hf hK;clear hsz;have e11:=hf 11 (by decide)
   simp [slotFact,List.lookup] at e11
   clear hf;go_simp;refine hK _ _ (Below.refl _ _) ?_;with_reducible rfl
  refine' Grow.stepC _ rfl ?_ ?_;rotate_left 1
  ·refine Obl.plain rfl ?_;intro ac wg K hsz hW hf hK;clear hsz;have e94:=hf 94 (by decide)
   simp [slotFact,List.lookup] at e94
   clear hf;obtain ⟨v0,v1,v2,v3,v4,v5,v6,v7⟩:=cs8 ((hW.block _ (lt_of_some BvW.out)).trans BvW.out);go_simp;refine hK _ _ (Below.refl _ _) ?_;with_reducible rfl
  refine Grow.step (fun v _ => v = .int .i64 (-1)) rfl (Fact.mono_eq _) ?_ ?_
  ·refine Obl.plain rfl ?_;intro ac wg K hsz hW hf hK;clear hsz;have e93:=hf 93 (by decide)
   simp [slotFact,List.lookup] at e93
   have e95:=hf 95 (by decide)
   simp [slotFact,List.lookup] at e95
   clear hf;go_simp;refine (sxvd_miss ⟨a1,l1,y1,some ⟨gk,0,none⟩,l2,y2,a3,l3,y3,some ⟨gx,0,none⟩,l4,y4,a5,l5,y5⟩ c.now c.vs (wMade ++ x.n) _ (HO.out.v.row.below (HBW.out.trans (hW.mono HBW.out.size))) (fun j9 v9 h9 e9 => by have h7:=(hit_at HT.out.2.1.2.2.1.2.2 h9 e9).2;rw [HH.out] at h7;cases h7)).mono ?_;rintro e w6 ⟨rfl,hb6⟩;exact hK _ _ hb6 rfl
  refine' Grow.stepC (.bool false) rfl ?_ ?_
  ·refine Obl.plain rfl ?_;intro ac wg K hsz hW hf hK;clear hsz;have e96:=hf 96 (by decide)
   simp [slotFact,List.lookup] at e96
   clear hf;go_simp;refine hK _ _ (Below.refl _ _) ?_;with_reducible rfl
  refine' Grow.stepC _ rfl ?_ ?_;rotate_left 1
  ·refine Obl.plain rfl ?_;intro ac wg K hsz hW hf hK;clear hsz;have e0:=hf 0 (by decide)
   simp [slotFact,List.lookup] at e0
   clear hf;go_simp;refine hK _ _ (Below.refl _ _) ?_;with_reducible rfl
  refine' Grow.stepC _ rfl ?_ ?_;rotate_left 1
  ·refine Obl.plain rfl ?_;intro ac wg K hsz hW hf hK;clear hsz;have e98:=hf 98 (by decide)
   simp [slotFact,List.lookup] at e98
   clear hf;go_simp;refine hK _ _ (Below.refl _ _) ?_;with_reducible rfl
  refine' Grow.stepC _ rfl ?_ ?_;rotate_left 1
  ·refine Obl.plain rfl ?_;intro ac wg K hsz hW hf hK;clear hsz;have e99:=hf 99 (by decide)
   simp [slotFact,List.lookup] at e99
   clear hf;go_simp;refine hK _ _ (Below.refl _ _) ?_;with_reducible rfl
  refine' Grow.stepC _ rfl ?_ ?_;rotate_left 1
  ·refine Obl.plain rfl ?_;intro ac wg K hsz hW hf hK;clear hsz;have e100:=hf 100 (by decide)
   simp [slotFact,List.lookup] at e100
   clear hf;obtain ⟨k0,k1,k2,k3,k4,k5⟩:=cs6 ((hW.block _ (lt_of_some BcW.out)).trans BcW.out);go_simp;refine hK _ _ (Below.refl _ _) ?_;with_reducible rfl
  refine' Grow.stepC (.int .i64 l3) rfl ?_ ?_
  ·refine Obl.plain rfl ?_;intro ac wg K hsz hW hf hK;clear hsz;have e101:=hf 101 (by decide)
   simp [slotFact,List.lookup] at e101
   clear hf;go_simp;refine hK _ _ (Below.refl _ _) ?_;with_reducible rfl
  refine Grow.step (fun v _ => v = .int .i64 0) rfl (Fact.mono_eq _) ?_ ?_
  ·refine Obl.plain rfl ?_;intro ac wg K hsz hW hf hK;clear hsz;have e97:=hf 97 (by decide)
   simp [slotFact,List.lookup] at e97
   have e102:=hf 102 (by decide)
   simp [slotFact,List.lookup] at e102
   clear hf;go_simp;refine (scode_ok l3 8 h8 _).mono ?_;rintro e w6 ⟨rfl,hb6⟩;exact hK _ _ hb6 rfl
  refine' Grow.stepC _ rfl ?_ ?_;rotate_left 1
  ·refine Obl.plain rfl ?_;intro ac wg K hsz hW hf hK;clear hsz;have e103:=hf 103 (by decide)
   simp [slotFact,List.lookup] at e103
   clear hf;go_simp;refine hK _ _ (Below.refl _ _) ?_;with_reducible rfl
  refine Grow.done ?_;intro q wy hW hf;simp only [List.forall_mem_cons] at hf;obtain ⟨h13,h103,h102,h101,h100,h99,h98,h97,h96,h95,h94,h93,h92,h91,-⟩:=hf;have HWY:=hidK hW;clear hW;refine hK0 _ _ ?_;simp only [putsAll,List.foldr,Act.put,List.setIfInBounds_toArray,List.set_cons_zero,List.set_cons_succ,h13,h103,h102,h101,h100,h99,h98,h97,h96,h95,h94,h93,h92,h91];clear hK0;have Bc6:=upK BcW HWY.out;have Bv6:=upK BvW HWY.out;have HB6:=hidK (HBW.out.trans (HWY.out.mono HBW.out.size));have hw6 : w5.heap.size < wy.heap.size:=lt_of_some Bv6.out;clear HBW HWY BcW BvW;go_wp2_with fail;have hxo:=HT.out.2.1.2.2.2.1.2.1 i x HX.out;have hZ1 : x.n.size ≤ 9223372036854775807:=HZX.out.1;have hZ2 : x.k.size ≤ 9223372036854775807:=HZX.out.2.1
  have hZ0 : (wMade ++ x.n).size ≤ 9223372036854775807:=by have h1:=hxo.1.2.1;rw [ByteArray.size_append];have h2 : wMade.size ≤ 10:=(by decide);omega
  have hZ3 : kc.z.size ≤ 9223372036854775807:=by have h1:=HZN.out.2.1;omega
  clear hxo;rename_i K0 hK0;refine Gt.wp_region_grow_last (by kernel_rfl) rfl rfl (by kernel_rfl) ?_;refine' Grow.stepC _ rfl ?_ ?_;rotate_left 1
  ·refine Obl.plain rfl ?_;intro ac wg K hsz hW hf hK;clear hsz;have e0:=hf 0 (by decide)
   simp [slotFact,List.lookup] at e0
   clear hf;go_simp;refine hK _ _ (Below.refl _ _) ?_;with_reducible rfl
  refine' Grow.stepC _ rfl ?_ ?_;rotate_left 1
  ·refine Obl.plain rfl ?_;intro ac wg K hsz hW hf hK;clear hsz;have e0:=hf 0 (by decide)
   simp [slotFact,List.lookup] at e0
   clear hf;go_simp;refine hK _ _ (Below.refl _ _) ?_;with_reducible rfl
  refine' Grow.stepC _ rfl ?_ ?_;rotate_left 1
  ·refine Obl.plain rfl ?_;intro ac wg K hsz hW hf hK;clear hsz;have e108:=hf 108 (by decide)
   simp [slotFact,List.lookup] at e108
   clear hf;go_simp;refine hK _ _ (Below.refl _ _) ?_;with_reducible rfl
  refine' Grow.stepC _ rfl ?_ ?_;rotate_left 1
  ·refine Obl.plain rfl ?_;intro ac wg K hsz hW hf hK;clear hsz;have e109:=hf 109 (by decide)
   simp [slotFact,List.lookup] at e109
   clear hf;go_simp;refine hK _ _ (Below.refl _ _) ?_;with_reducible rfl
  refine' Grow.stepC _ rfl ?_ ?_;rotate_left 1
  ·refine Obl.plain rfl ?_;intro ac wg K hsz hW hf hK;clear hsz;have e110:=hf 110 (by decide)
   simp [slotFact,List.lookup] at e110
   clear hf;obtain ⟨k0,k1,k2,k3,k4,k5⟩:=cs6 ((hW.block _ (lt_of_some Bc6.out)).trans Bc6.out);go_simp;refine hK _ _ (Below.refl _ _) ?_;with_reducible rfl
  refine' Grow.stepC _ rfl ?_ ?_;rotate_left 1
  ·refine Obl.plain rfl ?_;intro ac wg K hsz hW hf hK;clear hsz;have e11:=hf 11 (by decide)
   simp [slotFact,List.lookup] at e11
   clear hf;obtain ⟨v0,v1,v2,v3,v4,v5,v6,v7⟩:=cs8 ((hW.block _ (lt_of_some Bv6.out)).trans Bv6.out);go_simp;refine hK _ _ (Below.refl _ _) ?_;with_reducible rfl
  refine Grow.step (PutV w S (makeC c i x kc.z).vs) rfl (PutV.mono _ _ _) ?_ ?_
  ·refine Obl.plain rfl ?_;intro ac wg K hsz hW hf hK;clear hsz;have e111:=hf 111 (by decide)
   simp [slotFact,List.lookup] at e111
   have e112:=hf 112 (by decide)
   simp [slotFact,List.lookup] at e112
   clear hf;go_simp;refine (sput_any a3 l3 y3 c.vs (mkV x kc.z) none 0 0 0 S (fun _ => False) _ (HO.out.v.below (HB6.out.trans (hW.mono HB6.out.size))) (by omega) (fun q f hf => ?_) (fun _ _ h => h)).mono ?_
   ·have hxn:=hZ1;have hxk:=hZ2
    rcases q with _ | _ | _ | _ | _ | _ | _ | _ | q <;> simp [vdF,mkV] at hf <;> subst hf
    ·exact ⟨_,rfl,rfl,hZ0⟩
    ·exact ⟨_,rfl,rfl⟩
    ·exact ⟨_,rfl,rfl,hZ3⟩
    ·exact ⟨_,rfl,rfl,hxk⟩
    ·exact ⟨_,rfl,rfl⟩
    ·exact ⟨_,rfl,rfl,hxn⟩
    ·exact ⟨_,rfl,rfl⟩
    ·exact ⟨_,rfl,none,0,0,rfl,rfl,Nat.le_refl _,by decide,fun j x hx => by simp at hx,.inl rfl⟩
   rintro e w7 ⟨q3,z3,rfl,ho7,hb7⟩;have hs7:=HB6.out.size;have hs8:=hW.size
   exact hK _ _ hb7 ⟨q3,_,z3,rfl,ho7.into (fun k _ s => by rcases s with (s | s) | s;exact .inl s;exact s.elim;exact .inr (by have s1 : wg.heap.size ≤ k:=s;omega))⟩
  refine' Grow.stepC _ rfl ?_ ?_;rotate_left 1
  ·refine Obl.plain rfl ?_;intro ac wg K hsz hW hf hK;clear hsz;have e107:=hf 107 (by decide)
   simp [slotFact,List.lookup] at e107
   clear hf;go_simp;refine hK _ _ (Below.refl _ _) ?_;with_reducible rfl
  refine' Grow.stepC _ rfl ?_ ?_;rotate_left 1
  ·refine Obl.plain rfl ?_;intro ac wg K hsz hW hf hK;clear hsz;have e114:=hf 114 (by decide)
   simp [slotFact,List.lookup] at e114
   clear hf;go_simp;refine hK _ _ (Below.refl _ _) ?_;with_reducible rfl
  refine Grow.done ?_;intro q wx hW hf;simp only [List.forall_mem_cons] at hf;obtain ⟨h115,h114,h113,h112,h111,h110,h109,h108,h107,-⟩:=hf;obtain ⟨q3,m3,z3,hv113,ho7⟩:=h113;have HO7:=hidK ho7;have HWX:=upB HB6 hW;have Bc7:=upK Bc6 hW;have Bv7:=upK Bv6 hW;obtain ⟨k0,k1,k2,k3,k4,k5⟩:=cs6 Bc7.out;have hfz:=froK Bc7.out 2;have hbl7:=lt_of_some Bc7.out;clear ho7 hW;intro K hK;rw [if_pos (by rfl)];simp only [putsAll,List.foldr,Act.put,List.setIfInBounds_toArray,List.set_cons_zero,List.set_cons_succ,h115,h114,h112,h111,h110,h109,h108,h107,hv113];simp only [List.getLast];go_simp;refine hK _ _ ?_;refine hK0 _ _ ?_;clear hK hK0 K K0;clear k0 k1 k2 k3 k4 k5 hfz
  have hnb : ∀ k,(S k ∨ w.heap.size ≤ k) → ¬ k = b:=fun k h => by
   rcases h with h | h
   ·exact (HS.out k h).2
   ·omega
  have kp : ∀ {a l cp m T rs},ROwn w a l cp m T rs S → ROwn (wx.setCell ⟨b,2,none⟩ (.slice q3 m3 z3)) a l cp m T rs (fun k => S k ∨ w.heap.size ≤ k):=fun h => h.keep (fun k hk s => (Below.heap_setCell _ _ _ _ (hnb k (.inl s))).trans (HWX.out.block k hk)) (fun _ _ s => .inl s);have f1:=kp HO.out.n;have f2:=kp HO.out.k;have f4:=kp HO.out.x;have f5:=kp HO.out.p;have f3:=HO7.out.keep (w':=wx.setCell ⟨b,2,none⟩ (.slice q3 m3 z3)) (fun k hk s => Below.heap_setCell _ _ _ _ (hnb k s)) (fun _ _ s => s);have hB8 : (wx.setCell ⟨b,2,none⟩ (.slice q3 m3 z3)).heap[b]? = some (.cells #[.slice a1 l1 y1,.slice (some ⟨gk,0,none⟩) l2 y2,.slice q3 m3 z3,.slice (some ⟨gx,0,none⟩) l4 y4,.slice a5 l5 y5,.int .i64 c.now] 36 (0,0)):=block_set Bc7.out _;have hv8 : (wx.setCell ⟨b,2,none⟩ (.slice q3 m3 z3)).heap[w5.heap.size]? = some (.cells #[.string (wMade ++ x.n),.int .i64 x.z,.string kc.z,.string x.k,.bool x.x,.string x.n,.bool false,.slice none 0 0] 100 (0,0)):=(Below.heap_setCell _ _ _ _ (show w5.heap.size ≠ b by omega)).trans Bv7.out;have hx8 : (wx.setCell ⟨b,2,none⟩ (.slice q3 m3 z3)).heap[gx]? = some (.cells curx 55 (0,0)):=(Below.heap_setCell _ _ _ _ (show gx ≠ b from hgb)).trans ((HWX.out.block _ (lt_of_some HXB.out)).trans HXB.out);have hK8 : KeptS (fun k => S k ∨ k = b) w (wx.setCell ⟨b,2,none⟩ (.slice q3 m3 z3)):=(KeptS.of_below HWX.out).set (.inr rfl);obtain ⟨W8,hW8⟩ : ∃ W8,W8 = wx.setCell ⟨b,2,none⟩ (.slice q3 m3 z3):=⟨_,rfl⟩;rw [← hW8] at f1 f2 f3 f4 f5 hB8 hv8 hx8 hK8 ⊢;have HF8:=hidK (And.intro f1 (And.intro f2 (And.intro f3 (And.intro f4 f5))));have Bc8:=hidK hB8;have Bv8:=hidK hv8;have HX8:=hidK hx8;have HK8:=hidK hK8;clear hW8 f1 f2 f3 f4 f5 hB8 hv8 hx8 hK8 kp HO7 Bc7 Bv7 Bc6 Bv6 hnb;go_wp2_with fail;rename_i K0 hK0;refine Gt.wp_region_grow_last (by kernel_rfl) rfl rfl (by kernel_rfl) ?_;refine' Grow.stepC _ rfl ?_ ?_;rotate_left 1
  ·refine Obl.plain rfl ?_;intro ac wg K hsz hW hf hK;clear hsz;have e0:=hf 0 (by decide)
   simp [slotFact,List.lookup] at e0
   clear hf;go_simp;refine hK _ _ (Below.refl _ _) ?_;with_reducible rfl
  refine' Grow.stepC _ rfl ?_ ?_;rotate_left 1
  ·refine Obl.plain rfl ?_;intro ac wg K hsz hW hf hK;clear hsz;have e116:=hf 116 (by decide)
   simp [slotFact,List.lookup] at e116
   clear hf;go_simp;refine hK _ _ (Below.refl _ _) ?_;with_reducible rfl
  refine' Grow.stepC _ rfl ?_ ?_;rotate_left 1
  ·refine Obl.plain rfl ?_;intro ac wg K hsz hW hf hK;clear hsz;have e117:=hf 117 (by decide)
   simp [slotFact,List.lookup] at e117
   clear hf;go_simp;refine hK _ _ (Below.refl _ _) ?_;with_reducible rfl
  refine' Grow.stepC _ rfl ?_ ?_;rotate_left 1
  ·refine Obl.plain rfl ?_;intro ac wg K hsz hW hf hK;clear hsz;have e118:=hf 118 (by decide)
   simp [slotFact,List.lookup] at e118
   clear hf;obtain ⟨k0,k1,k2,k3,k4,k5⟩:=cs6 ((hW.block _ (lt_of_some Bc8.out)).trans Bc8.out);go_simp;refine hK _ _ (Below.refl _ _) ?_;with_reducible rfl
  refine' Grow.stepC _ rfl ?_ ?_;rotate_left 1
  ·refine Obl.plain rfl ?_;intro ac wg K hsz hW hf hK;clear hsz;have e1:=hf 1 (by decide)
   simp [slotFact,List.lookup] at e1
   clear hf;go_simp;refine hK _ _ (Below.refl _ _) ?_;with_reducible rfl
  refine' Grow.stepC _ rfl ?_ ?_;rotate_left 1
  ·refine Obl.plain rfl ?_;intro ac wg K hsz hW hf hK;clear hsz;have e11:=hf 11 (by decide)
   simp [slotFact,List.lookup] at e11
   clear hf;go_simp;refine hK _ _ (Below.refl _ _) ?_;with_reducible rfl
  refine' Grow.stepC _ rfl ?_ ?_;rotate_left 1
  ·refine Obl.plain rfl ?_;intro ac wg K hsz hW hf hK;clear hsz;have e121:=hf 121 (by decide)
   simp [slotFact,List.lookup] at e121
   clear hf;obtain ⟨v0,v1,v2,v3,v4,v5,v6,v7⟩:=cs8 ((hW.block _ (lt_of_some Bv8.out)).trans Bv8.out);go_simp;refine hK _ _ (Below.refl _ _) ?_;with_reducible rfl
  refine' Grow.stepC _ rfl ?_ ?_;rotate_left 1
  ·refine Obl.plain rfl ?_;intro ac wg K hsz hW hf hK;clear hsz;have e119:=hf 119 (by decide)
   simp [slotFact,List.lookup] at e119
   have e120:=hf 120 (by decide)
   simp [slotFact,List.lookup] at e120
   clear hf;go_simp;refine hK _ _ (Below.refl _ _) ?_;with_reducible rfl
  refine' Grow.stepC _ rfl ?_ ?_;rotate_left 1
  ·refine Obl.plain rfl ?_;intro ac wg K hsz hW hf hK;clear hsz;have e123:=hf 123 (by decide)
   simp [slotFact,List.lookup] at e123
   clear hf;go_simp;refine hK _ _ (Below.refl _ _) ?_;with_reducible rfl
  refine Grow.done ?_;intro q wu hW hf;simp only [List.forall_mem_cons] at hf;obtain ⟨h124,h123,h122,h121,h120,h119,h118,h117,h116,-⟩:=hf;have HWU:=hidK hW;have Bc9:=upK Bc8 hW;have Bv9:=upK Bv8 hW;obtain ⟨⟨v9,hcz⟩,hfz⟩:=ROwn.atT HF8.out.2.2.2.1 hW HIR.out (i:=4) rfl;clear hW;intro K hK;rw [if_pos (by rfl)];simp only [putsAll,List.foldr,Act.put,List.setIfInBounds_toArray,List.set_cons_zero,List.set_cons_succ,h124,h123,h122,h121,h120,h119,h118,h117,h116];simp only [List.getLast];go_simp;refine hK _ _ ?_;refine hK0 _ _ ?_;clear hK hK0 K K0;clear hcz hfz;have hX9:=ROwn.setT HF8.out.2.2.2.1 HWU.out HIR.out (i:=4) rfl (wMade ++ x.n) hZ0;have f1:=ROwn.past (i:=i * 5 + 4) (v:=.string (wMade ++ x.n)) HF8.out.1 HWU.out HX8.out (by decide) (by decide);have f2:=ROwn.past (i:=i * 5 + 4) (v:=.string (wMade ++ x.n)) HF8.out.2.1 HWU.out HX8.out (by decide) (by decide);have f3:=ROwn.past (i:=i * 5 + 4) (v:=.string (wMade ++ x.n)) HF8.out.2.2.1 HWU.out HX8.out (by decide) (by decide);have f5:=ROwn.past (i:=i * 5 + 4) (v:=.string (wMade ++ x.n)) HF8.out.2.2.2.2 HWU.out HX8.out (by decide) (by decide);have hK9 : KeptS (fun k => S k ∨ k = b) w (wu.setCell ⟨gx,i * 5 + 4,none⟩ (.string (wMade ++ x.n))):=(HK8.out.below HWU.out).set (.inl HGS.out);have hB9 : (wu.setCell ⟨gx,i * 5 + 4,none⟩ (.string (wMade ++ x.n))).heap[b]? = _:=(Below.heap_setCell _ _ _ _ (show b ≠ gx from fun e => hgb e.symm)).trans Bc9.out;have hv9b : (wu.setCell ⟨gx,i * 5 + 4,none⟩ (.string (wMade ++ x.n))).heap[w5.heap.size]? = _:=(Below.heap_setCell _ _ _ _ (show w5.heap.size ≠ gx by omega)).trans Bv9.out;obtain ⟨W9,hW9⟩ : ∃ W9,W9 = (wu.setCell ⟨gx,i * 5 + 4,none⟩ (.string (wMade ++ x.n))):=⟨_,rfl⟩;rw [← hW9] at hX9 f1 f2 f3 f5 hK9 hB9 hv9b ⊢
  have HA9 : Hid (ClFr W9 ⟨a1,l1,y1,some ⟨gk,0,none⟩,l2,y2,q3,m3,z3,some ⟨gx,0,none⟩,l4,y4,a5,l5,y5⟩ (makeC c i x (zoneOf t kc.z)).raw (fun k => S k ∨ w.heap.size ≤ k)):=by
   rw [HZO.out];exact ⟨f1,f2,f3,by show ROwn _ _ _ _ _ _ ((c.xs.set i (bdX x (wMade ++ x.n))).map xdF) _;rw [List.map_set];exact hX9,f5⟩
  have HK9:=hidK hK9;have HB9:=hidK hB9;clear hW9 hX9 f1 f2 f3 f5 hK9 hB9;obtain ⟨v0,v1,v2,v3,v4,v5,v6,v7⟩:=cs8 hv9b;have hvl9:=lt_of_some hv9b;clear hv9b
  go_wp2
  exact bodyPost_ret (v:=.tuple #[.string (wMade ++ x.n),.int .i64 0]) (by simp [results,Tryz.results23,go_sem]) rfl (.inr ⟨HNO.out,.inr ⟨HMV.out,HH.out,by omega,rfl,q3,m3,z3,HB9.out,HA9.out,HK9.out⟩⟩)
 ·have hq:=isE_no hte
  have HZO : Hid (zoneOf t kc.z = t):=by show zoneOf _ _ = _;unfold zoneOf;rw [if_neg hte]
  clear hte;have hzn : ¬ t = ⟨#[]⟩ → NameOk t:=fun h => HTZ.out.resolve_left h;obtain ⟨x0,x1,x2,x3,x4⟩:=cs5 Bx3.out;obtain ⟨n0,n1,n2,n3⟩:=cs4 Bn.out;have hxl:=lt_of_some Bx3.out;have hnl:=lt_of_some Bn.out;go_wp2_with fail;clear x0 x1 x2 x3 x4 n0 n1 n2 n3
  by_cases hm : MakeM x.n x.k x.v kc.n kc.z t
  rotate_left
  ·refine (smk_no x.n x.z x.k x.x x.v kc.n kc.x kc.y kc.z t _ HZX.out.1 hm).mono ?_;rintro e w5 ⟨rfl,hb⟩;have HNM : Hid (¬ MayV x kc t):=fun h => hm (by have h1:=h.2;rw [HZO.out] at h1;exact h1);have HB5:=upB HB3 hb;clear hb hm
   go_wp2
   exact bodyPost_ret (v:=.tuple #[.string ⟨#[]⟩,.int .i64 6]) (by simp [results,Tryz.results23,go_sem]) rfl (.inr ⟨HNO.out,.inl ⟨6,by decide,.inl ⟨HNM.out,rfl⟩,rfl,HB5.out.alloc HB5.out.size _⟩⟩)
  refine (smk_yes x.n x.z x.k x.x x.v kc.n kc.x kc.y kc.z t _ hm).mono ?_;rintro e w5 ⟨rfl,hb⟩;have HM:=hidK hm;have HB5:=upB HB3 hb;have Bc5:=upK Bc3 hb;clear hb hm Bc3 Bx3 Bn hxl hnl
  by_cases hz : t = ⟨#[]⟩
  ·have HNM : Hid (¬ MayV x kc t):=fun h => h.1 (by rw [HZO.out];exact hz);clear hq;have hq2:=isE_y hz;clear hz
   go_wp2
   exact bodyPost_ret (v:=.tuple #[.string ⟨#[]⟩,.int .i64 6]) (by simp [results,Tryz.results23,go_sem]) rfl (.inr ⟨HNO.out,.inl ⟨6,by decide,.inl ⟨HNM.out,rfl⟩,rfl,HB5.out.alloc HB5.out.size _⟩⟩)
  have HMV : Hid (MayV x kc t):=⟨by rw [HZO.out];exact hz,by rw [HZO.out];exact HM.out⟩;have hzno:=hzn hz;have HZN:=hidK hzno;clear hq;have hq2:=isE_no hz;clear hz hzno hzn;go_wp2_with fail;clear hq2;obtain ⟨W,hW0⟩ : ∃ W,W = w5.alloc (.cells #[.string (wMade ++ x.n),.int .i64 x.z,.string t,.string x.k,.bool x.x,.string x.n,.bool false,.slice none 0 0] 100):=⟨_,rfl⟩;have BcW:=hidK ((Below.heap_alloc w5 (.cells #[.string (wMade ++ x.n),.int .i64 x.z,.string t,.string x.k,.bool x.x,.string x.n,.bool false,.slice none 0 0] 100) _ (lt_of_some Bc5.out)).trans Bc5.out);have BvW:=hidK (heap_alloc_new w5 (.cells #[.string (wMade ++ x.n),.int .i64 x.z,.string t,.string x.k,.bool x.x,.string x.n,.bool false,.slice none 0 0] 100));have HBW:=hidK (HB5.out.trans ((below1 w5 (.cells #[.string (wMade ++ x.n),.int .i64 x.z,.string t,.string x.k,.bool x.x,.string x.n,.bool false,.slice none 0 0] 100)).mono HB5.out.size));have hw5 : w.heap.size ≤ w5.heap.size:=HB5.out.size;rw [← hW0] at BcW BvW HBW ⊢;clear hW0 Bc5 HB5
  cases hh : hit Vd.n c.vs (wMade ++ x.n)
  rotate_left
  ·obtain ⟨u9,hu9,hun9⟩:=hit_yes hh;have HU:=hidK (And.intro hu9 hun9);have HH:=hidK hh;obtain ⟨j9,hj9⟩ : ∃ j9,j9 = pl Vd.n c.vs (wMade ++ x.n):=⟨_,rfl⟩;rw [← hj9] at HU;clear hu9 hun9 hh hj9;rename_i K0 hK0;refine wp_region_grow (back:=none) (by kernel_rfl) (List.append_nil _).symm (by kernel_rfl) ?_;refine' Grow.stepC _ rfl ?_ ?_;rotate_left 1
   ·refine Obl.plain rfl ?_;intro ac wg K hsz hW hf hK;clear hsz;have e0:=hf 0 (by decide)
    simp [slotFact,List.lookup] at e0
    clear hf;go_simp;refine hK _ _ (Below.refl _ _) ?_;with_reducible rfl
   refine' Grow.stepC _ rfl ?_ ?_;rotate_left 1
   ·refine Obl.plain rfl ?_;intro ac wg K hsz hW hf hK;clear hsz;have e91:=hf 91 (by decide)
    simp [slotFact,List.lookup] at e91
    clear hf;go_simp;refine hK _ _ (Below.refl _ _) ?_;with_reducible rfl
   refine' Grow.stepC _ rfl ?_ ?_;rotate_left 1
   ·refine Obl.plain rfl ?_;intro ac wg K hsz hW hf hK;clear hsz;have e92:=hf 92 (by decide)
    simp [slotFact,List.lookup] at e92
    clear hf;obtain ⟨k0,k1,k2,k3,k4,k5⟩:=cs6 ((hW.block _ (lt_of_some BcW.out)).trans BcW.out);go_simp;refine hK _ _ (Below.refl _ _) ?_;with_reducible rfl
   refine' Grow.stepC _ rfl ?_ ?_;rotate_left 1
   ·refine Obl.plain rfl ?_;intro ac wg K hsz hW hf hK;clear hsz;have e11:=hf 11 (by decide)
    simp [slotFact,List.lookup] at e11
    clear hf;go_simp;refine hK _ _ (Below.refl _ _) ?_;with_reducible rfl
   refine' Grow.stepC _ rfl ?_ ?_;rotate_left 1
   ·refine Obl.plain rfl ?_;intro ac wg K hsz hW hf hK;clear hsz;have e94:=hf 94 (by decide)
    simp [slotFact,List.lookup] at e94
    clear hf;obtain ⟨v0,v1,v2,v3,v4,v5,v6,v7⟩:=cs8 ((hW.block _ (lt_of_some BvW.out)).trans BvW.out);go_simp;refine hK _ _ (Below.refl _ _) ?_;with_reducible rfl
   refine Grow.step (fun v _ => v = .int .i64 (j9 : Nat)) rfl (Fact.mono_eq _) ?_ ?_
   ·refine Obl.plain rfl ?_;intro ac wg K hsz hW hf hK;clear hsz;have e93:=hf 93 (by decide)
    simp [slotFact,List.lookup] at e93
    have e95:=hf 95 (by decide)
    simp [slotFact,List.lookup] at e95
    clear hf;go_simp;refine (sxvd_hit ⟨a1,l1,y1,some ⟨gk,0,none⟩,l2,y2,a3,l3,y3,some ⟨gx,0,none⟩,l4,y4,a5,l5,y5⟩ c.now c.vs (wMade ++ x.n) _ (HO.out.v.row.below (HBW.out.trans (hW.mono HBW.out.size))) HT.out.2.1.2.2.1.2.2 HU.out.1 HU.out.2).mono ?_;rintro e w6 ⟨rfl,hb6⟩;exact hK _ _ hb6 rfl
   refine' Grow.stepC (.bool true) rfl ?_ ?_
   ·refine Obl.plain rfl ?_;intro ac wg K hsz hW hf hK;clear hsz;have e96:=hf 96 (by decide)
    simp [slotFact,List.lookup] at e96
    clear hf;go_simp;refine hK _ _ (Below.refl _ _) ?_;with_reducible rfl
   refine' Grow.stepC _ rfl ?_ ?_;rotate_left 1
   ·refine Obl.plain rfl ?_;intro ac wg K hsz hW hf hK;clear hsz;have e0:=hf 0 (by decide)
    simp [slotFact,List.lookup] at e0
    clear hf;go_simp;refine hK _ _ (Below.refl _ _) ?_;with_reducible rfl
   refine' Grow.stepC _ rfl ?_ ?_;rotate_left 1
   ·refine Obl.plain rfl ?_;intro ac wg K hsz hW hf hK;clear hsz;have e98:=hf 98 (by decide)
    simp [slotFact,List.lookup] at e98
    clear hf;go_simp;refine hK _ _ (Below.refl _ _) ?_;with_reducible rfl
   refine' Grow.stepC _ rfl ?_ ?_;rotate_left 1
   ·refine Obl.plain rfl ?_;intro ac wg K hsz hW hf hK;clear hsz;have e99:=hf 99 (by decide)
    simp [slotFact,List.lookup] at e99
    clear hf;go_simp;refine hK _ _ (Below.refl _ _) ?_;with_reducible rfl
   refine' Grow.stepC _ rfl ?_ ?_;rotate_left 1
   ·refine Obl.plain rfl ?_;intro ac wg K hsz hW hf hK;clear hsz;have e100:=hf 100 (by decide)
    simp [slotFact,List.lookup] at e100
    clear hf;obtain ⟨k0,k1,k2,k3,k4,k5⟩:=cs6 ((hW.block _ (lt_of_some BcW.out)).trans BcW.out);go_simp;refine hK _ _ (Below.refl _ _) ?_;with_reducible rfl
   refine' Grow.stepC (.int .i64 l3) rfl ?_ ?_
   ·refine Obl.plain rfl ?_;intro ac wg K hsz hW hf hK;clear hsz;have e101:=hf 101 (by decide)
    simp [slotFact,List.lookup] at e101
    clear hf;go_simp;refine hK _ _ (Below.refl _ _) ?_;with_reducible rfl
   refine Grow.step (fun v _ => v = .int .i64 7) rfl (Fact.mono_eq _) ?_ ?_
   ·refine Obl.plain rfl ?_;intro ac wg K hsz hW hf hK;clear hsz;have e97:=hf 97 (by decide)
    simp [slotFact,List.lookup] at e97
    have e102:=hf 102 (by decide)
    simp [slotFact,List.lookup] at e102
    clear hf;go_simp;refine (scode_there l3 8 _).mono ?_;rintro e w6 ⟨rfl,hb6⟩;exact hK _ _ hb6 rfl
   refine' Grow.stepC _ rfl ?_ ?_;rotate_left 1
   ·refine Obl.plain rfl ?_;intro ac wg K hsz hW hf hK;clear hsz;have e103:=hf 103 (by decide)
    simp [slotFact,List.lookup] at e103
    clear hf;go_simp;refine hK _ _ (Below.refl _ _) ?_;with_reducible rfl
   refine Grow.done ?_;intro q wy hW hf;simp only [List.forall_mem_cons] at hf;obtain ⟨h13,h103,h102,h101,h100,h99,h98,h97,h96,h95,h94,h93,h92,h91,-⟩:=hf;have HWY:=hidK hW;clear hW;refine hK0 _ _ ?_;simp only [putsAll,List.foldr,Act.put,List.setIfInBounds_toArray,List.set_cons_zero,List.set_cons_succ,h13,h103,h102,h101,h100,h99,h98,h97,h96,h95,h94,h93,h92,h91];clear hK0
   go_wp2
   exact bodyPost_ret (v:=.tuple #[.string ⟨#[]⟩,.int .i64 7]) (by simp [results,Tryz.results23,go_sem]) rfl (.inr ⟨HNO.out,.inl ⟨7,by decide,.inr (.inl ⟨HMV.out,HH.out,rfl⟩),rfl,HBW.out.trans (HWY.out.mono HBW.out.size)⟩⟩)
  have HH:=hidK hh;clear hh
  by_cases h8 : l3 < 8
  rotate_left
  ·rename_i K0 hK0;refine wp_region_grow (back:=none) (by kernel_rfl) (List.append_nil _).symm (by kernel_rfl) ?_;refine' Grow.stepC _ rfl ?_ ?_;rotate_left 1
   ·refine Obl.plain rfl ?_;intro ac wg K hsz hW hf hK;clear hsz;have e0:=hf 0 (by decide)
    simp [slotFact,List.lookup] at e0
    clear hf;go_simp;refine hK _ _ (Below.refl _ _) ?_;with_reducible rfl
   refine' Grow.stepC _ rfl ?_ ?_;rotate_left 1
   ·refine Obl.plain rfl ?_;intro ac wg K hsz hW hf hK;clear hsz;have e91:=hf 91 (by decide)
    simp [slotFact,List.lookup] at e91
    clear hf;go_simp;refine hK _ _ (Below.refl _ _) ?_;with_reducible rfl
   refine' Grow.stepC _ rfl ?_ ?_;rotate_left 1
   ·refine Obl.plain rfl ?_;intro ac wg K hsz hW hf hK;clear hsz;have e92:=hf 92 (by decide)
    simp [slotFact,List.lookup] at e92
    clear hf;obtain ⟨k0,k1,k2,k3,k4,k5⟩:=cs6 ((hW.block _ (lt_of_some BcW.out)).trans BcW.out);go_simp;refine hK _ _ (Below.refl _ _) ?_;with_reducible rfl
   refine' Grow.stepC _ rfl ?_ ?_;rotate_left 1
   ·refine Obl.plain rfl ?_;intro ac wg K hsz hW hf hK;clear hsz;have e11:=hf 11 (by decide)
    simp [slotFact,List.lookup] at e11
    clear hf;go_simp;refine hK _ _ (Below.refl _ _) ?_;with_reducible rfl
   refine' Grow.stepC _ rfl ?_ ?_;rotate_left 1
   ·refine Obl.plain rfl ?_;intro ac wg K hsz hW hf hK;clear hsz;have e94:=hf 94 (by decide)
    simp [slotFact,List.lookup] at e94
    clear hf;obtain ⟨v0,v1,v2,v3,v4,v5,v6,v7⟩:=cs8 ((hW.block _ (lt_of_some BvW.out)).trans BvW.out);go_simp;refine hK _ _ (Below.refl _ _) ?_;with_reducible rfl
   refine Grow.step (fun v _ => v = .int .i64 (-1)) rfl (Fact.mono_eq _) ?_ ?_
   ·refine Obl.plain rfl ?_;intro ac wg K hsz hW hf hK;clear hsz;have e93:=hf 93 (by decide)
    simp [slotFact,List.lookup] at e93
    have e95:=hf 95 (by decide)
    simp [slotFact,List.lookup] at e95
    clear hf;go_simp;refine (sxvd_miss ⟨a1,l1,y1,some ⟨gk,0,none⟩,l2,y2,a3,l3,y3,some ⟨gx,0,none⟩,l4,y4,a5,l5,y5⟩ c.now c.vs (wMade ++ x.n) _ (HO.out.v.row.below (HBW.out.trans (hW.mono HBW.out.size))) (fun j9 v9 h9 e9 => by have h7:=(hit_at HT.out.2.1.2.2.1.2.2 h9 e9).2;rw [HH.out] at h7;cases h7)).mono ?_;rintro e w6 ⟨rfl,hb6⟩;exact hK _ _ hb6 rfl
   refine' Grow.stepC (.bool false) rfl ?_ ?_
   ·refine Obl.plain rfl ?_;intro ac wg K hsz hW hf hK;clear hsz;have e96:=hf 96 (by decide)
    simp [slotFact,List.lookup] at e96
    clear hf;go_simp;refine hK _ _ (Below.refl _ _) ?_;with_reducible rfl
   refine' Grow.stepC _ rfl ?_ ?_;rotate_left 1
   ·refine Obl.plain rfl ?_;intro ac wg K hsz hW hf hK;clear hsz;have e0:=hf 0 (by decide)
    simp [slotFact,List.lookup] at e0
    clear hf;go_simp;refine hK _ _ (Below.refl _ _) ?_;with_reducible rfl
   refine' Grow.stepC _ rfl ?_ ?_;rotate_left 1
   ·refine Obl.plain rfl ?_;intro ac wg K hsz hW hf hK;clear hsz;have e98:=hf 98 (by decide)
    simp [slotFact,List.lookup] at e98
    clear hf;go_simp;refine hK _ _ (Below.refl _ _) ?_;with_reducible rfl
   refine' Grow.stepC _ rfl ?_ ?_;rotate_left 1
   ·refine Obl.plain rfl ?_;intro ac wg K hsz hW hf hK;clear hsz;have e99:=hf 99 (by decide)
    simp [slotFact,List.lookup] at e99
    clear hf;go_simp;refine hK _ _ (Below.refl _ _) ?_;with_reducible rfl
   refine' Grow.stepC _ rfl ?_ ?_;rotate_left 1
   ·refine Obl.plain rfl ?_;intro ac wg K hsz hW hf hK;clear hsz;have e100:=hf 100 (by decide)
    simp [slotFact,List.lookup] at e100
    clear hf;obtain ⟨k0,k1,k2,k3,k4,k5⟩:=cs6 ((hW.block _ (lt_of_some BcW.out)).trans BcW.out);go_simp;refine hK _ _ (Below.refl _ _) ?_;with_reducible rfl
   refine' Grow.stepC (.int .i64 l3) rfl ?_ ?_
   ·refine Obl.plain rfl ?_;intro ac wg K hsz hW hf hK;clear hsz;have e101:=hf 101 (by decide)
    simp [slotFact,List.lookup] at e101
    clear hf;go_simp;refine hK _ _ (Below.refl _ _) ?_;with_reducible rfl
   refine Grow.step (fun v _ => v = .int .i64 9) rfl (Fact.mono_eq _) ?_ ?_
   ·refine Obl.plain rfl ?_;intro ac wg K hsz hW hf hK;clear hsz;have e97:=hf 97 (by decide)
    simp [slotFact,List.lookup] at e97
    have e102:=hf 102 (by decide)
    simp [slotFact,List.lookup] at e102
    clear hf;go_simp;refine (scode_full l3 8 (by omega) _).mono ?_;rintro e w6 ⟨rfl,hb6⟩;exact hK _ _ hb6 rfl
   refine' Grow.stepC _ rfl ?_ ?_;rotate_left 1
   ·refine Obl.plain rfl ?_;intro ac wg K hsz hW hf hK;clear hsz;have e103:=hf 103 (by decide)
    simp [slotFact,List.lookup] at e103
    clear hf;go_simp;refine hK _ _ (Below.refl _ _) ?_;with_reducible rfl
   refine Grow.done ?_;intro q wy hW hf;simp only [List.forall_mem_cons] at hf;obtain ⟨h13,h103,h102,h101,h100,h99,h98,h97,h96,h95,h94,h93,h92,h91,-⟩:=hf;have HWY:=hidK hW;clear hW;refine hK0 _ _ ?_;simp only [putsAll,List.foldr,Act.put,List.setIfInBounds_toArray,List.set_cons_zero,List.set_cons_succ,h13,h103,h102,h101,h100,h99,h98,h97,h96,h95,h94,h93,h92,h91];clear hK0
   go_wp2
   exact bodyPost_ret (v:=.tuple #[.string ⟨#[]⟩,.int .i64 9]) (by simp [results,Tryz.results23,go_sem]) rfl (.inr ⟨HNO.out,.inl ⟨9,by decide,.inr (.inr ⟨HMV.out,HH.out,by omega,rfl⟩),rfl,HBW.out.trans (HWY.out.mono HBW.out.size)⟩⟩)
  rename_i K0 hK0;refine wp_region_grow (back:=none) (by kernel_rfl) (List.append_nil _).symm (by kernel_rfl) ?_;refine' Grow.stepC _ rfl ?_ ?_;rotate_left 1
  ·refine Obl.plain rfl ?_;intro ac wg K hsz hW hf hK;clear hsz;have e0:=hf 0 (by decide)
   simp [slotFact,List.lookup] at e0
   clear hf;go_simp;refine hK _ _ (Below.refl _ _) ?_;with_reducible rfl
  refine' Grow.stepC _ rfl ?_ ?_;rotate_left 1
  ·refine Obl.plain rfl ?_;intro ac wg K hsz hW hf hK;clear hsz;have e91:=hf 91 (by decide)
   simp [slotFact,List.lookup] at e91
   clear hf;go_simp;refine hK _ _ (Below.refl _ _) ?_;with_reducible rfl
  refine' Grow.stepC _ rfl ?_ ?_;rotate_left 1
  ·refine Obl.plain rfl ?_;intro ac wg K hsz hW hf hK;clear hsz;have e92:=hf 92 (by decide)
   simp [slotFact,List.lookup] at e92
   clear hf;obtain ⟨k0,k1,k2,k3,k4,k5⟩:=cs6 ((hW.block _ (lt_of_some BcW.out)).trans BcW.out);go_simp;refine hK _ _ (Below.refl _ _) ?_;with_reducible rfl
  refine' Grow.stepC _ rfl ?_ ?_;rotate_left 1
  ·refine Obl.plain rfl ?_;intro ac wg K hsz hW hf hK;clear hsz;have e11:=hf 11 (by decide)
   simp [slotFact,List.lookup] at e11
   clear hf;go_simp;refine hK _ _ (Below.refl _ _) ?_;with_reducible rfl
  refine' Grow.stepC _ rfl ?_ ?_;rotate_left 1
  ·refine Obl.plain rfl ?_;intro ac wg K hsz hW hf hK;clear hsz;have e94:=hf 94 (by decide)
   simp [slotFact,List.lookup] at e94
   clear hf;obtain ⟨v0,v1,v2,v3,v4,v5,v6,v7⟩:=cs8 ((hW.block _ (lt_of_some BvW.out)).trans BvW.out);go_simp;refine hK _ _ (Below.refl _ _) ?_;with_reducible rfl
  refine Grow.step (fun v _ => v = .int .i64 (-1)) rfl (Fact.mono_eq _) ?_ ?_
  ·refine Obl.plain rfl ?_;intro ac wg K hsz hW hf hK;clear hsz;have e93:=hf 93 (by decide)
   simp [slotFact,List.lookup] at e93
   have e95:=hf 95 (by decide)
   simp [slotFact,List.lookup] at e95
   clear hf;go_simp;refine (sxvd_miss ⟨a1,l1,y1,some ⟨gk,0,none⟩,l2,y2,a3,l3,y3,some ⟨gx,0,none⟩,l4,y4,a5,l5,y5⟩ c.now c.vs (wMade ++ x.n) _ (HO.out.v.row.below (HBW.out.trans (hW.mono HBW.out.size))) (fun j9 v9 h9 e9 => by have h7:=(hit_at HT.out.2.1.2.2.1.2.2 h9 e9).2;rw [HH.out] at h7;cases h7)).mono ?_;rintro e w6 ⟨rfl,hb6⟩;exact hK _ _ hb6 rfl
  refine' Grow.stepC (.bool false) rfl ?_ ?_
  ·refine Obl.plain rfl ?_;intro ac wg K hsz hW hf hK;clear hsz;have e96:=hf 96 (by decide)
   simp [slotFact,List.lookup] at e96
   clear hf;go_simp;refine hK _ _ (Below.refl _ _) ?_;with_reducible rfl
  refine' Grow.stepC _ rfl ?_ ?_;rotate_left 1
  ·refine Obl.plain rfl ?_;intro ac wg K hsz hW hf hK;clear hsz;have e0:=hf 0 (by decide)
   simp [slotFact,List.lookup] at e0
   clear hf;go_simp;refine hK _ _ (Below.refl _ _) ?_;with_reducible rfl
  refine' Grow.stepC _ rfl ?_ ?_;rotate_left 1
  ·refine Obl.plain rfl ?_;intro ac wg K hsz hW hf hK;clear hsz;have e98:=hf 98 (by decide)
   simp [slotFact,List.lookup] at e98
   clear hf;go_simp;refine hK _ _ (Below.refl _ _) ?_;with_reducible rfl
  refine' Grow.stepC _ rfl ?_ ?_;rotate_left 1
  ·refine Obl.plain rfl ?_;intro ac wg K hsz hW hf hK;clear hsz;have e99:=hf 99 (by decide)
   simp [slotFact,List.lookup] at e99
   clear hf;go_simp;refine hK _ _ (Below.refl _ _) ?_;with_reducible rfl
  refine' Grow.stepC _ rfl ?_ ?_;rotate_left 1
  ·refine Obl.plain rfl ?_;intro ac wg K hsz hW hf hK;clear hsz;have e100:=hf 100 (by decide)
   simp [slotFact,List.lookup] at e100
   clear hf;obtain ⟨k0,k1,k2,k3,k4,k5⟩:=cs6 ((hW.block _ (lt_of_some BcW.out)).trans BcW.out);go_simp;refine hK _ _ (Below.refl _ _) ?_;with_reducible rfl
  refine' Grow.stepC (.int .i64 l3) rfl ?_ ?_
  ·refine Obl.plain rfl ?_;intro ac wg K hsz hW hf hK;clear hsz;have e101:=hf 101 (by decide)
   simp [slotFact,List.lookup] at e101
   clear hf;go_simp;refine hK _ _ (Below.refl _ _) ?_;with_reducible rfl
  refine Grow.step (fun v _ => v = .int .i64 0) rfl (Fact.mono_eq _) ?_ ?_
  ·refine Obl.plain rfl ?_;intro ac wg K hsz hW hf hK;clear hsz;have e97:=hf 97 (by decide)
   simp [slotFact,List.lookup] at e97
   have e102:=hf 102 (by decide)
   simp [slotFact,List.lookup] at e102
   clear hf;go_simp;refine (scode_ok l3 8 h8 _).mono ?_;rintro e w6 ⟨rfl,hb6⟩;exact hK _ _ hb6 rfl
  refine' Grow.stepC _ rfl ?_ ?_;rotate_left 1
  ·refine Obl.plain rfl ?_;intro ac wg K hsz hW hf hK;clear hsz;have e103:=hf 103 (by decide)
   simp [slotFact,List.lookup] at e103
   clear hf;go_simp;refine hK _ _ (Below.refl _ _) ?_;with_reducible rfl
  refine Grow.done ?_;intro q wy hW hf;simp only [List.forall_mem_cons] at hf;obtain ⟨h13,h103,h102,h101,h100,h99,h98,h97,h96,h95,h94,h93,h92,h91,-⟩:=hf;have HWY:=hidK hW;clear hW;refine hK0 _ _ ?_;simp only [putsAll,List.foldr,Act.put,List.setIfInBounds_toArray,List.set_cons_zero,List.set_cons_succ,h13,h103,h102,h101,h100,h99,h98,h97,h96,h95,h94,h93,h92,h91];clear hK0;have Bc6:=upK BcW HWY.out;have Bv6:=upK BvW HWY.out;have HB6:=hidK (HBW.out.trans (HWY.out.mono HBW.out.size));have hw6 : w5.heap.size < wy.heap.size:=lt_of_some Bv6.out;clear HBW HWY BcW BvW;go_wp2_with fail;have hxo:=HT.out.2.1.2.2.2.1.2.1 i x HX.out;have hZ1 : x.n.size ≤ 9223372036854775807:=HZX.out.1;have hZ2 : x.k.size ≤ 9223372036854775807:=HZX.out.2.1
  have hZ0 : (wMade ++ x.n).size ≤ 9223372036854775807:=by have h1:=hxo.1.2.1;rw [ByteArray.size_append];have h2 : wMade.size ≤ 10:=(by decide);omega
  have hZ3 : t.size ≤ 9223372036854775807:=by have h1:=HZN.out.2.1;omega
  clear hxo;rename_i K0 hK0;refine Gt.wp_region_grow_last (by kernel_rfl) rfl rfl (by kernel_rfl) ?_;refine' Grow.stepC _ rfl ?_ ?_;rotate_left 1
  ·refine Obl.plain rfl ?_;intro ac wg K hsz hW hf hK;clear hsz;have e0:=hf 0 (by decide)
   simp [slotFact,List.lookup] at e0
   clear hf;go_simp;refine hK _ _ (Below.refl _ _) ?_;with_reducible rfl
  refine' Grow.stepC _ rfl ?_ ?_;rotate_left 1
  ·refine Obl.plain rfl ?_;intro ac wg K hsz hW hf hK;clear hsz;have e0:=hf 0 (by decide)
   simp [slotFact,List.lookup] at e0
   clear hf;go_simp;refine hK _ _ (Below.refl _ _) ?_;with_reducible rfl
  refine' Grow.stepC _ rfl ?_ ?_;rotate_left 1
  ·refine Obl.plain rfl ?_;intro ac wg K hsz hW hf hK;clear hsz;have e108:=hf 108 (by decide)
   simp [slotFact,List.lookup] at e108
   clear hf;go_simp;refine hK _ _ (Below.refl _ _) ?_;with_reducible rfl
  refine' Grow.stepC _ rfl ?_ ?_;rotate_left 1
  ·refine Obl.plain rfl ?_;intro ac wg K hsz hW hf hK;clear hsz;have e109:=hf 109 (by decide)
   simp [slotFact,List.lookup] at e109
   clear hf;go_simp;refine hK _ _ (Below.refl _ _) ?_;with_reducible rfl
  refine' Grow.stepC _ rfl ?_ ?_;rotate_left 1
  ·refine Obl.plain rfl ?_;intro ac wg K hsz hW hf hK;clear hsz;have e110:=hf 110 (by decide)
   simp [slotFact,List.lookup] at e110
   clear hf;obtain ⟨k0,k1,k2,k3,k4,k5⟩:=cs6 ((hW.block _ (lt_of_some Bc6.out)).trans Bc6.out);go_simp;refine hK _ _ (Below.refl _ _) ?_;with_reducible rfl
  refine' Grow.stepC _ rfl ?_ ?_;rotate_left 1
  ·refine Obl.plain rfl ?_;intro ac wg K hsz hW hf hK;clear hsz;have e11:=hf 11 (by decide)
   simp [slotFact,List.lookup] at e11
   clear hf;obtain ⟨v0,v1,v2,v3,v4,v5,v6,v7⟩:=cs8 ((hW.block _ (lt_of_some Bv6.out)).trans Bv6.out);go_simp;refine hK _ _ (Below.refl _ _) ?_;with_reducible rfl
  refine Grow.step (PutV w S (makeC c i x t).vs) rfl (PutV.mono _ _ _) ?_ ?_
  ·refine Obl.plain rfl ?_;intro ac wg K hsz hW hf hK;clear hsz;have e111:=hf 111 (by decide)
   simp [slotFact,List.lookup] at e111
   have e112:=hf 112 (by decide)
   simp [slotFact,List.lookup] at e112
   clear hf;go_simp;refine (sput_any a3 l3 y3 c.vs (mkV x t) none 0 0 0 S (fun _ => False) _ (HO.out.v.below (HB6.out.trans (hW.mono HB6.out.size))) (by omega) (fun q f hf => ?_) (fun _ _ h => h)).mono ?_
   ·have hxn:=hZ1;have hxk:=hZ2
    rcases q with _ | _ | _ | _ | _ | _ | _ | _ | q <;> simp [vdF,mkV] at hf <;> subst hf
    ·exact ⟨_,rfl,rfl,hZ0⟩
    ·exact ⟨_,rfl,rfl⟩
    ·exact ⟨_,rfl,rfl,hZ3⟩
    ·exact ⟨_,rfl,rfl,hxk⟩
    ·exact ⟨_,rfl,rfl⟩
    ·exact ⟨_,rfl,rfl,hxn⟩
    ·exact ⟨_,rfl,rfl⟩
    ·exact ⟨_,rfl,none,0,0,rfl,rfl,Nat.le_refl _,by decide,fun j x hx => by simp at hx,.inl rfl⟩
   rintro e w7 ⟨q3,z3,rfl,ho7,hb7⟩;have hs7:=HB6.out.size;have hs8:=hW.size
   exact hK _ _ hb7 ⟨q3,_,z3,rfl,ho7.into (fun k _ s => by rcases s with (s | s) | s;exact .inl s;exact s.elim;exact .inr (by have s1 : wg.heap.size ≤ k:=s;omega))⟩
  refine' Grow.stepC _ rfl ?_ ?_;rotate_left 1
  ·refine Obl.plain rfl ?_;intro ac wg K hsz hW hf hK;clear hsz;have e107:=hf 107 (by decide)
   simp [slotFact,List.lookup] at e107
   clear hf;go_simp;refine hK _ _ (Below.refl _ _) ?_;with_reducible rfl
  refine' Grow.stepC _ rfl ?_ ?_;rotate_left 1
  ·refine Obl.plain rfl ?_;intro ac wg K hsz hW hf hK;clear hsz;have e114:=hf 114 (by decide)
   simp [slotFact,List.lookup] at e114
   clear hf;go_simp;refine hK _ _ (Below.refl _ _) ?_;with_reducible rfl
  refine Grow.done ?_;intro q wx hW hf;simp only [List.forall_mem_cons] at hf;obtain ⟨h115,h114,h113,h112,h111,h110,h109,h108,h107,-⟩:=hf;obtain ⟨q3,m3,z3,hv113,ho7⟩:=h113;have HO7:=hidK ho7;have HWX:=upB HB6 hW;have Bc7:=upK Bc6 hW;have Bv7:=upK Bv6 hW;obtain ⟨k0,k1,k2,k3,k4,k5⟩:=cs6 Bc7.out;have hfz:=froK Bc7.out 2;have hbl7:=lt_of_some Bc7.out;clear ho7 hW;intro K hK;rw [if_pos (by rfl)];simp only [putsAll,List.foldr,Act.put,List.setIfInBounds_toArray,List.set_cons_zero,List.set_cons_succ,h115,h114,h112,h111,h110,h109,h108,h107,hv113];simp only [List.getLast];go_simp;refine hK _ _ ?_;refine hK0 _ _ ?_;clear hK hK0 K K0;clear k0 k1 k2 k3 k4 k5 hfz
  have hnb : ∀ k,(S k ∨ w.heap.size ≤ k) → ¬ k = b:=fun k h => by
   rcases h with h | h
   ·exact (HS.out k h).2
   ·omega
  have kp : ∀ {a l cp m T rs},ROwn w a l cp m T rs S → ROwn (wx.setCell ⟨b,2,none⟩ (.slice q3 m3 z3)) a l cp m T rs (fun k => S k ∨ w.heap.size ≤ k):=fun h => h.keep (fun k hk s => (Below.heap_setCell _ _ _ _ (hnb k (.inl s))).trans (HWX.out.block k hk)) (fun _ _ s => .inl s);have f1:=kp HO.out.n;have f2:=kp HO.out.k;have f4:=kp HO.out.x;have f5:=kp HO.out.p;have f3:=HO7.out.keep (w':=wx.setCell ⟨b,2,none⟩ (.slice q3 m3 z3)) (fun k hk s => Below.heap_setCell _ _ _ _ (hnb k s)) (fun _ _ s => s);have hB8 : (wx.setCell ⟨b,2,none⟩ (.slice q3 m3 z3)).heap[b]? = some (.cells #[.slice a1 l1 y1,.slice (some ⟨gk,0,none⟩) l2 y2,.slice q3 m3 z3,.slice (some ⟨gx,0,none⟩) l4 y4,.slice a5 l5 y5,.int .i64 c.now] 36 (0,0)):=block_set Bc7.out _;have hv8 : (wx.setCell ⟨b,2,none⟩ (.slice q3 m3 z3)).heap[w5.heap.size]? = some (.cells #[.string (wMade ++ x.n),.int .i64 x.z,.string t,.string x.k,.bool x.x,.string x.n,.bool false,.slice none 0 0] 100 (0,0)):=(Below.heap_setCell _ _ _ _ (show w5.heap.size ≠ b by omega)).trans Bv7.out;have hx8 : (wx.setCell ⟨b,2,none⟩ (.slice q3 m3 z3)).heap[gx]? = some (.cells curx 55 (0,0)):=(Below.heap_setCell _ _ _ _ (show gx ≠ b from hgb)).trans ((HWX.out.block _ (lt_of_some HXB.out)).trans HXB.out);have hK8 : KeptS (fun k => S k ∨ k = b) w (wx.setCell ⟨b,2,none⟩ (.slice q3 m3 z3)):=(KeptS.of_below HWX.out).set (.inr rfl);obtain ⟨W8,hW8⟩ : ∃ W8,W8 = wx.setCell ⟨b,2,none⟩ (.slice q3 m3 z3):=⟨_,rfl⟩;rw [← hW8] at f1 f2 f3 f4 f5 hB8 hv8 hx8 hK8 ⊢;have HF8:=hidK (And.intro f1 (And.intro f2 (And.intro f3 (And.intro f4 f5))));have Bc8:=hidK hB8;have Bv8:=hidK hv8;have HX8:=hidK hx8;have HK8:=hidK hK8;clear hW8 f1 f2 f3 f4 f5 hB8 hv8 hx8 hK8 kp HO7 Bc7 Bv7 Bc6 Bv6 hnb;go_wp2_with fail;rename_i K0 hK0;refine Gt.wp_region_grow_last (by kernel_rfl) rfl rfl (by kernel_rfl) ?_;refine' Grow.stepC _ rfl ?_ ?_;rotate_left 1
  ·refine Obl.plain rfl ?_;intro ac wg K hsz hW hf hK;clear hsz;have e0:=hf 0 (by decide)
   simp [slotFact,List.lookup] at e0
   clear hf;go_simp;refine hK _ _ (Below.refl _ _) ?_;with_reducible rfl
  refine' Grow.stepC _ rfl ?_ ?_;rotate_left 1
  ·refine Obl.plain rfl ?_;intro ac wg K hsz hW hf hK;clear hsz;have e116:=hf 116 (by decide)
   simp [slotFact,List.lookup] at e116
   clear hf;go_simp;refine hK _ _ (Below.refl _ _) ?_;with_reducible rfl
  refine' Grow.stepC _ rfl ?_ ?_;rotate_left 1
  ·refine Obl.plain rfl ?_;intro ac wg K hsz hW hf hK;clear hsz;have e117:=hf 117 (by decide)
   simp [slotFact,List.lookup] at e117
   clear hf;go_simp;refine hK _ _ (Below.refl _ _) ?_;with_reducible rfl
  refine' Grow.stepC _ rfl ?_ ?_;rotate_left 1
  ·refine Obl.plain rfl ?_;intro ac wg K hsz hW hf hK;clear hsz;have e118:=hf 118 (by decide)
   simp [slotFact,List.lookup] at e118
   clear hf;obtain ⟨k0,k1,k2,k3,k4,k5⟩:=cs6 ((hW.block _ (lt_of_some Bc8.out)).trans Bc8.out);go_simp;refine hK _ _ (Below.refl _ _) ?_;with_reducible rfl
  refine' Grow.stepC _ rfl ?_ ?_;rotate_left 1
  ·refine Obl.plain rfl ?_;intro ac wg K hsz hW hf hK;clear hsz;have e1:=hf 1 (by decide)
   simp [slotFact,List.lookup] at e1
   clear hf;go_simp;refine hK _ _ (Below.refl _ _) ?_;with_reducible rfl
  refine' Grow.stepC _ rfl ?_ ?_;rotate_left 1
  ·refine Obl.plain rfl ?_;intro ac wg K hsz hW hf hK;clear hsz;have e11:=hf 11 (by decide)
   simp [slotFact,List.lookup] at e11
   clear hf;go_simp;refine hK _ _ (Below.refl _ _) ?_;with_reducible rfl
  refine' Grow.stepC _ rfl ?_ ?_;rotate_left 1
  ·refine Obl.plain rfl ?_;intro ac wg K hsz hW hf hK;clear hsz;have e121:=hf 121 (by decide)
   simp [slotFact,List.lookup] at e121
   clear hf;obtain ⟨v0,v1,v2,v3,v4,v5,v6,v7⟩:=cs8 ((hW.block _ (lt_of_some Bv8.out)).trans Bv8.out);go_simp;refine hK _ _ (Below.refl _ _) ?_;with_reducible rfl
  refine' Grow.stepC _ rfl ?_ ?_;rotate_left 1
  ·refine Obl.plain rfl ?_;intro ac wg K hsz hW hf hK;clear hsz;have e119:=hf 119 (by decide)
   simp [slotFact,List.lookup] at e119
   have e120:=hf 120 (by decide)
   simp [slotFact,List.lookup] at e120
   clear hf;go_simp;refine hK _ _ (Below.refl _ _) ?_;with_reducible rfl
  refine' Grow.stepC _ rfl ?_ ?_;rotate_left 1
  ·refine Obl.plain rfl ?_;intro ac wg K hsz hW hf hK;clear hsz;have e123:=hf 123 (by decide)
   simp [slotFact,List.lookup] at e123
   clear hf;go_simp;refine hK _ _ (Below.refl _ _) ?_;with_reducible rfl
  refine Grow.done ?_;intro q wu hW hf;simp only [List.forall_mem_cons] at hf;obtain ⟨h124,h123,h122,h121,h120,h119,h118,h117,h116,-⟩:=hf;have HWU:=hidK hW;have Bc9:=upK Bc8 hW;have Bv9:=upK Bv8 hW;obtain ⟨⟨v9,hcz⟩,hfz⟩:=ROwn.atT HF8.out.2.2.2.1 hW HIR.out (i:=4) rfl;clear hW;intro K hK;rw [if_pos (by rfl)];simp only [putsAll,List.foldr,Act.put,List.setIfInBounds_toArray,List.set_cons_zero,List.set_cons_succ,h124,h123,h122,h121,h120,h119,h118,h117,h116];simp only [List.getLast];go_simp;refine hK _ _ ?_;refine hK0 _ _ ?_;clear hK hK0 K K0;clear hcz hfz;have hX9:=ROwn.setT HF8.out.2.2.2.1 HWU.out HIR.out (i:=4) rfl (wMade ++ x.n) hZ0;have f1:=ROwn.past (i:=i * 5 + 4) (v:=.string (wMade ++ x.n)) HF8.out.1 HWU.out HX8.out (by decide) (by decide);have f2:=ROwn.past (i:=i * 5 + 4) (v:=.string (wMade ++ x.n)) HF8.out.2.1 HWU.out HX8.out (by decide) (by decide);have f3:=ROwn.past (i:=i * 5 + 4) (v:=.string (wMade ++ x.n)) HF8.out.2.2.1 HWU.out HX8.out (by decide) (by decide);have f5:=ROwn.past (i:=i * 5 + 4) (v:=.string (wMade ++ x.n)) HF8.out.2.2.2.2 HWU.out HX8.out (by decide) (by decide);have hK9 : KeptS (fun k => S k ∨ k = b) w (wu.setCell ⟨gx,i * 5 + 4,none⟩ (.string (wMade ++ x.n))):=(HK8.out.below HWU.out).set (.inl HGS.out);have hB9 : (wu.setCell ⟨gx,i * 5 + 4,none⟩ (.string (wMade ++ x.n))).heap[b]? = _:=(Below.heap_setCell _ _ _ _ (show b ≠ gx from fun e => hgb e.symm)).trans Bc9.out;have hv9b : (wu.setCell ⟨gx,i * 5 + 4,none⟩ (.string (wMade ++ x.n))).heap[w5.heap.size]? = _:=(Below.heap_setCell _ _ _ _ (show w5.heap.size ≠ gx by omega)).trans Bv9.out;obtain ⟨W9,hW9⟩ : ∃ W9,W9 = (wu.setCell ⟨gx,i * 5 + 4,none⟩ (.string (wMade ++ x.n))):=⟨_,rfl⟩;rw [← hW9] at hX9 f1 f2 f3 f5 hK9 hB9 hv9b ⊢
  have HA9 : Hid (ClFr W9 ⟨a1,l1,y1,some ⟨gk,0,none⟩,l2,y2,q3,m3,z3,some ⟨gx,0,none⟩,l4,y4,a5,l5,y5⟩ (makeC c i x (zoneOf t kc.z)).raw (fun k => S k ∨ w.heap.size ≤ k)):=by
   rw [HZO.out];exact ⟨f1,f2,f3,by show ROwn _ _ _ _ _ _ ((c.xs.set i (bdX x (wMade ++ x.n))).map xdF) _;rw [List.map_set];exact hX9,f5⟩
  have HK9:=hidK hK9;have HB9:=hidK hB9;clear hW9 hX9 f1 f2 f3 f5 hK9 hB9;obtain ⟨v0,v1,v2,v3,v4,v5,v6,v7⟩:=cs8 hv9b;have hvl9:=lt_of_some hv9b;clear hv9b
  go_wp2
  exact bodyPost_ret (v:=.tuple #[.string (wMade ++ x.n),.int .i64 0]) (by simp [results,Tryz.results23,go_sem]) rfl (.inr ⟨HNO.out,.inr ⟨HMV.out,HH.out,by omega,rfl,q3,m3,z3,HB9.out,HA9.out,HK9.out⟩⟩)

theorem bindC_marks {c : Cl} {i j : Nat} {x : Xd} {u : Vd} (hf : ClFit c) (hu : c.vs[j]? = some u) : mkCn 1 (bindC c i j x u).raw ≤ 1152921504606846976:=by
 refine ClFit.marks (c:=bindC c i j x u) ⟨hf.l1,hf.f1,hf.l2,?_,fun q y hy => ?_,?_,hf.l5,hf.f5⟩
 ·show (c.vs.set _ _).length ≤ _
  rw [List.length_set];exact hf.l3
 ·have hy' : (c.vs.set j (bdV u x.n))[q]? = some y:=hy;rw [get_set (List.getElem?_eq_some_iff.1 hu).1] at hy'
  split at hy'
  ·obtain rfl:=Option.some.inj hy';exact hf.f3 j u hu
  ·exact hf.f3 q y hy'
 ·show (c.xs.set _ _).length ≤ _
  rw [List.length_set];exact hf.l4
theorem makeC_marks {c : Cl} {i : Nat} {x : Xd} {z : ByteArray} (hf : ClFit c) (h8 : c.vs.length < 8) : mkCn 1 (makeC c i x z).raw ≤ 1152921504606846976:=by
 refine ClFit.marks (c:=makeC c i x z) ⟨hf.l1,hf.f1,hf.l2,?_,fun q y hy => ?_,?_,hf.l5,hf.f5⟩
 ·show (inAt _ _ c.vs).length ≤ _
  rw [inAt_len (by unfold pl;exact List.findIdx_le_length)]
  omega
 ·have hy' : y ∈ inAt (pl Vd.n c.vs (wMade ++ x.n)) (mkV x z) c.vs:=List.mem_of_getElem? hy;unfold inAt at hy';simp only [List.mem_append,List.mem_cons,List.not_mem_nil,or_false] at hy'
  have hc : y ∈ c.vs ∨ y = mkV x z:=by
   rcases hy' with (h | h) | h
   ·exact .inl (List.mem_of_mem_take h)
   ·exact .inr h
   ·exact .inl (List.mem_of_mem_drop h)
  rcases hc with h | rfl
  ·obtain ⟨m,hm⟩:=List.getElem?_of_mem h;exact hf.f3 m y hm
  ·show ([] : List ByteArray).length ≤ _
   decide
 ·show (c.xs.set _ _).length ≤ _
  rw [List.length_set];exact hf.l4
theorem BindIs.marks {c : Cl} {t : ByteArray} {o : Co} (h : BindIs c t o) (hf : ClFit c) : mkCn 1 o.c.raw ≤ 1152921504606846976:=by
 rcases h with ⟨n,_,_,rfl⟩ | ⟨_,_,i,x,j,k,_,_,_,_,⟨_,rfl⟩ | ⟨_,⟨_,rfl⟩ | ⟨_,h⟩⟩⟩
 ·exact co0_marks _
 ·exact co0_marks _
 ·exact co0_marks _
 ·rcases h with ⟨j9,u,_,h2,rfl⟩ | ⟨_,⟨_,rfl⟩ | ⟨_,⟨_,rfl⟩ | ⟨_,⟨_,rfl⟩ | ⟨h8,rfl⟩⟩⟩⟩
  ·exact bindC_marks hf h2
  ·exact co0_marks _
  ·exact co0_marks _
  ·exact co0_marks _
  ·exact makeC_marks hf h8

theorem sbindC_any (d : Ad) (c : Cl) (t : ByteArray) (w : World) (hr : ClRow w d c.raw) :
  Calls Tryz.prog 5 #[.agg #[.slice d.a1 d.l1 d.c1,.slice d.a2 d.l2 d.c2,.slice d.a3 d.l3 d.c3,.slice d.a4 d.l4 d.c4,.slice d.a5 d.l5 d.c5,.int .i64 c.now],.string t] w (OutS (BindIs c t) w):=by
 obtain ⟨a1,l1,y1,a2,l2,y2,a3,l3,y3,a4,l4,y4,a5,l5,y5⟩:=d;dsimp only;have HR:=hidK hr
 have hl1 : c.ns.length = l1:=by simpa using (show (c.ns.map ndF).length = l1 from hr.n.1)
 have hm1 : l1 ≤ 9223372036854775807:=Nat.le_trans hr.n.2.1 hr.n.2.2.1
 have hl2 : c.ks.length = l2:=by simpa using (show (c.ks.map kdF).length = l2 from hr.k.1)
 have hm2 : l2 ≤ 9223372036854775807:=Nat.le_trans hr.k.2.1 hr.k.2.2.1
 have hl3 : c.vs.length = l3:=by simpa using (show (c.vs.map vdF).length = l3 from hr.v.1)
 have hm3 : l3 ≤ 9223372036854775807:=Nat.le_trans hr.v.2.1 hr.v.2.2.1
 have hl4 : c.xs.length = l4:=by simpa using (show (c.xs.map xdF).length = l4 from hr.x.1)
 have hm4 : l4 ≤ 9223372036854775807:=Nat.le_trans hr.x.2.1 hr.x.2.2.1
 have hl5 : c.ps.length = l5:=by simpa using (show (c.ps.map pdF).length = l5 from hr.p.1)
 have hm5 : l5 ≤ 9223372036854775807:=Nat.le_trans hr.p.2.1 hr.p.2.2.1;clear hr;have HB:=hidK (Below.refl w.heap.size w)
 go_enter Tryz.func5,Tryz.ntmps5
 go_wp2_with fail;refine (sbeg_any ⟨a1,l1,y1,a2,l2,y2,a3,l3,y3,a4,l4,y4,a5,l5,y5⟩ c t _ (HR.out.below (HB.out.trans ((below2 _ _ _).mono HB.out.size)))).mono ?_;rintro e w1 ⟨p,rfl,hp,hb⟩;obtain ⟨HA0,HA1,hbx⟩:=slots2 hb;have Bk:=hidK HA0;have Br:=hidK HA1;replace HB:=upB HB hbx;clear hb hbx HA0 HA1
 have hp0 : (¬ p = 0 ∧ BindIs c t (co0 p)) ∨ (p = 0 ∧ ¬ 8000 < t.size ∧ RightI c):=by
  rcases hp with ⟨h1,rfl⟩ | ⟨h1,h2,rfl⟩ | ⟨h1,h2,rfl⟩
  ·exact .inl ⟨by decide,.inl ⟨0,by decide,h1,rfl⟩⟩
  ·exact .inl ⟨by decide,.inl ⟨1,by decide,⟨h1,h2⟩,rfl⟩⟩
  ·exact .inr ⟨rfl,h1,h2⟩
 clear hp
 rcases hp0 with ⟨hp0,hV⟩ | ⟨rfl,hl,hT⟩
 ·have HV:=hidK hV;clear hV
  have hp1 : (p == 0) = false:=by simpa using hp0
  obtain ⟨k0,k1,k2,k3,k4,k5⟩:=cs6 Bk.out;have ltk_1:=lt_of_some Bk.out;go_wp2_with fail;refine (sill_any p _).mono ?_;rintro e w2 ⟨rfl,hb⟩;clear k0 k1 k2 k3 k4 k5 ltk_1;replace Bk:=upK Bk hb;replace Br:=upK Br hb;replace HB:=upB HB hb;clear hb;obtain ⟨r0,r1,r2,r3,r4,r5,r6,r7⟩:=cs8 Br.out;have ltr_2:=lt_of_some Br.out;have fr0:=froK Br.out 0;have fr1:=froK Br.out 1;have fr2:=froK Br.out 2;have fr3:=froK Br.out 3;have fr4:=froK Br.out 4;have fr5:=froK Br.out 5;have fr6:=froK Br.out 6;have fr7:=froK Br.out 7;have hrl : w.heap.size + 1 < w2.heap.size:=lt_of_some Br.out
  go_wp2
  exact bodyPost_ret (v:=.agg #[.slice none 0 0,.slice none 0 0,.slice none 0 0,.slice none 0 0,.slice none 0 0,.int .i64 0,.string ⟨#[]⟩,.int .i64 p]) (by simp [results,Tryz.results5,go_sem, *]) rfl ⟨ad0,co0 p,rfl,HV.out,(own0 _ (fun _ => True)).row,sb1 (sb1 (sb1 (sb1 (sb1 (sb1 (sb1 (sb1 (HB.out))))))))⟩
 have HT:=hidK hT;clear hT;obtain ⟨k0,k1,k2,k3,k4,k5⟩:=cs6 Bk.out;have ltk_1:=lt_of_some Bk.out;go_wp2_with fail;refine (sxxd_any ⟨a1,l1,y1,a2,l2,y2,a3,l3,y3,a4,l4,y4,a5,l5,y5⟩ c.now c.xs t _ (HR.out.x.below HB.out)).mono ?_;rintro e w2 ⟨hb,hf⟩;clear k0 k1 k2 k3 k4 k5 ltk_1;replace Bk:=upK Bk hb;replace Br:=upK Br hb;replace HB:=upB HB hb;clear hb
 rcases hf with ⟨i,x,hx,hn,rfl⟩ | ⟨hno,rfl⟩
 rotate_left
 ·have HV : Hid (BindIs c t (co0 6)):=.inl ⟨2,by decide,⟨hl,HT.out,HasX.no HT.out (hit_no hno)⟩,rfl⟩;clear hno;obtain ⟨k0,k1,k2,k3,k4,k5⟩:=cs6 Bk.out;have ltk_2:=lt_of_some Bk.out;go_wp2_with fail;refine (sill_any 6 _).mono ?_;rintro e w3 ⟨rfl,hb⟩;clear k0 k1 k2 k3 k4 k5 ltk_2;replace Bk:=upK Bk hb;replace Br:=upK Br hb;replace HB:=upB HB hb;clear hb;obtain ⟨r0,r1,r2,r3,r4,r5,r6,r7⟩:=cs8 Br.out;have ltr_3:=lt_of_some Br.out;have fr0:=froK Br.out 0;have fr1:=froK Br.out 1;have fr2:=froK Br.out 2;have fr3:=froK Br.out 3;have fr4:=froK Br.out 4;have fr5:=froK Br.out 5;have fr6:=froK Br.out 6;have fr7:=froK Br.out 7;have hrl : w.heap.size + 1 < w3.heap.size:=lt_of_some Br.out
  go_wp2
  exact bodyPost_ret (v:=.agg #[.slice none 0 0,.slice none 0 0,.slice none 0 0,.slice none 0 0,.slice none 0 0,.int .i64 0,.string ⟨#[]⟩,.int .i64 6]) (by simp [results,Tryz.results5,go_sem, *]) rfl ⟨ad0,co0 6,rfl,HV.out,(own0 _ (fun _ => True)).row,sb1 (sb1 (sb1 (sb1 (sb1 (sb1 (sb1 (sb1 (HB.out))))))))⟩
 have HX:=hidK (And.intro hx hn)
 have hi4 : i < l4:=by have:=(List.getElem?_eq_some_iff.1 hx).1;omega
 have hii : (i : Int) < l4:=by omega
 have hi0 : ¬ (i : Int) < 0:=by omega
 obtain ⟨j,k,hkj,hkn⟩ : ∃ (j : Nat) (k : Kd),c.ks[j]? = some k ∧ k.n = x.k:=by obtain ⟨k,h1,h2⟩:=hit_yes (HT.out.2.2.1.2 _ x hx).1;exact ⟨_,k,h1,h2⟩
 have HK:=hidK (And.intro hkj hkn)
 have hj2 : j < l2:=by have:=(List.getElem?_eq_some_iff.1 hkj).1;omega
 have hjj : (j : Int) < l2:=by omega
 have hj0 : ¬ (j : Int) < 0:=by omega
 obtain ⟨b,o,y,rfl,hbl,hy,hat⟩:=xd_at (HR.out.x.below HB.out) hi4;rw [hx] at hy;obtain rfl:=Option.some.inj hy;obtain ⟨-,-,-,c0,c1,c2,c3,c4⟩:=xd_cells hat;clear hat hy hx hn;have HC:=hidK (And.intro c2 c4);have HBL:=hidK hbl;clear c0 c1 c2 c3
 by_cases hxv : x.v = ⟨#[]⟩
 rotate_left
 ·have HV : Hid (BindIs c t (co0 7)):=.inr ⟨hl,HT.out,i,x,j,k,HX.out.1,HX.out.2,HK.out.1,HK.out.2,.inl ⟨hxv,rfl⟩⟩;have hq:=isE_no hxv;clear hxv;obtain ⟨k0,k1,k2,k3,k4,k5⟩:=cs6 Bk.out;have ltk_2:=lt_of_some Bk.out;go_wp2_with fail;refine (sill_any 7 _).mono ?_;rintro e w3 ⟨rfl,hb⟩;clear k0 k1 k2 k3 k4 k5 ltk_2;replace Bk:=upK Bk hb;replace Br:=upK Br hb;replace HB:=upB HB hb;clear hb;obtain ⟨r0,r1,r2,r3,r4,r5,r6,r7⟩:=cs8 Br.out;have ltr_3:=lt_of_some Br.out;have fr0:=froK Br.out 0;have fr1:=froK Br.out 1;have fr2:=froK Br.out 2;have fr3:=froK Br.out 3;have fr4:=froK Br.out 4;have fr5:=froK Br.out 5;have fr6:=froK Br.out 6;have fr7:=froK Br.out 7;have hrl : w.heap.size + 1 < w3.heap.size:=lt_of_some Br.out
  go_wp2
  exact bodyPost_ret (v:=.agg #[.slice none 0 0,.slice none 0 0,.slice none 0 0,.slice none 0 0,.slice none 0 0,.int .i64 0,.string ⟨#[]⟩,.int .i64 7]) (by simp [results,Tryz.results5,go_sem, *]) rfl ⟨ad0,co0 7,rfl,HV.out,(own0 _ (fun _ => True)).row,sb1 (sb1 (sb1 (sb1 (sb1 (sb1 (sb1 (sb1 (HB.out))))))))⟩
 have hq:=isE_y hxv;have HXV:=hidK hxv;clear hxv;obtain ⟨bk,ok,y,rfl,hbk,hy,hat⟩:=kd_at (HR.out.k.below HB.out) hj2;rw [hkj] at hy;obtain rfl:=Option.some.inj hy;obtain ⟨-,-,d0,d1,d2,d3⟩:=kd_cells hat;clear hat hy hkj hkn d0 d2 d3;obtain ⟨k0,k1,k2,k3,k4,k5⟩:=cs6 Bk.out;have ltk_2:=lt_of_some Bk.out;go_wp2_with fail;clear k0 k1 k2 k3 k4 k5 ltk_2;have c2:=HC.out.1
 cases hkx : k.x
 ·have HKX:=hidK hkx;rw [hkx] at d1;clear hkx;have Gk:=Bk;have Gr:=Br;have HW:=HB;obtain ⟨k0,k1,k2,k3,k4,k5⟩:=sl6 Gk;have xk:=fun q : Wd w2 => (q.cell hbl).trans c2;have kx:=fun q : Wd w2 => (q.cell hbk).trans d1;have hne0:=Wd.ne w2;have HC0:=hidK (fun q : Wd w2 => sxkd_hit ⟨a1,l1,y1,(some ⟨bk,ok,none⟩),l2,y2,a3,l3,y3,(some ⟨b,o,none⟩),l4,y4,a5,l5,y5⟩ c.now c.ks x.k q.w (HR.out.k.below (HW.out.trans (q.b.mono HW.out.size))) HT.out.2.1.2.1.2.2 HK.out.1 HK.out.2);go_wp2_with fail;refine wp_region_wide (by kernel_rfl) (by kernel_rfl) ?_
  repeat (go_big_quiet_step (first | (go_at_call 21;exact Calls.wide (HC0.out _)) | fail))
  refine wpQuiet_nil ?_;rintro _ ⟨q1,rfl⟩;have HB3:=upB HW q1.b;have Ck:=upK Gk q1.b;have Cr:=upK Gr q1.b;clear hne0 HW HB HC0 k0 k1 k2 k3 k4 k5 xk kx Gk Gr Bk Br c2 c4 d1 hbk hbl hq;have HB:=HB3;clear HB3;have Bk:=Ck;clear Ck;have Br:=Cr;clear Cr;have HQ1 : Hid (w.heap.size + 1 < q1.w.heap.size):=lt_of_some Br.out;have HBI : ∀ o,Hid (BinIs c i x k ⟨#[]⟩ o → BindIs c t o):=fun o h => .inr ⟨hl,HT.out,i,x,j,k,HX.out.1,HX.out.2,HK.out.1,HK.out.2,.inr ⟨HXV.out,.inr ⟨HKX.out,h⟩⟩⟩;obtain ⟨k0,k1,k2,k3,k4,k5⟩:=cs6 Bk.out;have ltk_3:=lt_of_some Bk.out;go_wp2_with fail;refine (scopyC_any ⟨a1,l1,y1,(some ⟨bk,ok,none⟩),l2,y2,a3,l3,y3,(some ⟨b,o,none⟩),l4,y4,a5,l5,y5⟩ c _ (HR.out.below HB.out) HT.out.sm).mono ?_;rintro e w3 ⟨d',rfl,ho,hb⟩;have HQ2:=hidK hb.size;clear k0 k1 k2 k3 k4 k5 ltk_3;replace Bk:=upK Bk hb;replace Br:=upK Br hb;replace HB:=upB HB hb;clear hb;obtain ⟨x1,m1,n1,x2,m2,n2,x3,m3,n3,x4,m4,n4,x5,m5,n5⟩:=d';have hq1 : w.heap.size + 1 < q1.w.heap.size:=HQ1.out;have hq2 : q1.w.heap.size ≤ w3.heap.size:=HQ2.out;have into : ∀ {a l cp m T rs},ROwn w3 a l cp m T rs (fun k => q1.w.heap.size ≤ k) → ROwn (w3.alloc (.cells #[.slice x1 m1 n1,.slice x2 m2 n2,.slice x3 m3 n3,.slice x4 m4 n4,.slice x5 m5 n5,.int .i64 c.now] 36)) a l cp m T rs (fun k => q1.w.heap.size ≤ k ∧ k < w3.heap.size):=fun h => (h.into (S':=(fun k => q1.w.heap.size ≤ k ∧ k < w3.heap.size)) (fun k hk s => ⟨s,hk⟩)).below (below1 w3 (.cells #[.slice x1 m1 n1,.slice x2 m2 n2,.slice x3 m3 n3,.slice x4 m4 n4,.slice x5 m5 n5,.int .i64 c.now] 36));have HOV : Hid (ClFr (w3.alloc (.cells #[.slice x1 m1 n1,.slice x2 m2 n2,.slice x3 m3 n3,.slice x4 m4 n4,.slice x5 m5 n5,.int .i64 c.now] 36)) ⟨x1,m1,n1,x2,m2,n2,x3,m3,n3,x4,m4,n4,x5,m5,n5⟩ c.raw (fun k => q1.w.heap.size ≤ k ∧ k < w3.heap.size)):=⟨into ho.n,into ho.k,into ho.v,into ho.x,into ho.p⟩;clear ho into
  obtain ⟨k0,k1,k2,k3,k4,k5⟩:=cs6 Bk.out;have ltk_4:=lt_of_some Bk.out;go_wp2_with fail;clear k0 k1 k2 k3 k4 k5 ltk_4;have BrV:=hidK ((Below.heap_alloc w3 (.cells #[.slice x1 m1 n1,.slice x2 m2 n2,.slice x3 m3 n3,.slice x4 m4 n4,.slice x5 m5 n5,.int .i64 c.now] 36) _ (lt_of_some Br.out)).trans Br.out);have HBV:=hidK (HB.out.trans ((below1 w3 (.cells #[.slice x1 m1 n1,.slice x2 m2 n2,.slice x3 m3 n3,.slice x4 m4 n4,.slice x5 m5 n5,.int .i64 c.now] 36)).mono HB.out.size));refine (sl06_any c i x j k ⟨#[]⟩ (fun k => q1.w.heap.size ≤ k ∧ k < w3.heap.size) w3.heap.size x1 m1 n1 x2 m2 n2 x3 m3 n3 x4 m4 n4 x5 m5 n5 _ (heap_alloc_new w3 (.cells #[.slice x1 m1 n1,.slice x2 m2 n2,.slice x3 m3 n3,.slice x4 m4 n4,.slice x5 m5 n5,.int .i64 c.now] 36)) HOV.out (fun q s => ⟨by rw [size1];omega,by omega⟩) HT.out HX.out.1 HK.out.1 HK.out.2 HXV.out (.inl rfl)).mono ?_;rintro e w4 h4;have hsv : (w3.alloc (.cells #[.slice x1 m1 n1,.slice x2 m2 n2,.slice x3 m3 n3,.slice x4 m4 n4,.slice x5 m5 n5,.int .i64 c.now] 36)).heap.size = w3.heap.size + 1:=size1 _ _
  rcases h4 with ⟨j9,u,hbv,hju,rfl,hbb,hof,hkp⟩ | ⟨hbv,⟨p,hp0,hcod,rfl,hbe⟩ | ⟨hmay,hhit,h8,rfl,q3,m3',z3,hbb,hof,hkp⟩⟩
  ·have HV : Hid (BindIs c t ⟨bindC c i j9 x u,u.n,0⟩):=(HBI _).out (.inl ⟨j9,u,hbv,hju,rfl⟩);have Bo4:=hidK hbb;have hbr : w4.heap[w.heap.size + 1]? = some (.cells #[.slice none 0 0,.slice none 0 0,.slice none 0 0,.slice none 0 0,.slice none 0 0,.int .i64 0,.string ⟨#[]⟩,.int .i64 0] 38 (0,0)):=(hkp.block _ (lt_of_some BrV.out) (by intro s;obtain ⟨s1,s2⟩:=s;omega)).trans BrV.out;have Br4:=hidK hbr;have HOF:=hidK hof;have HB4:=hidK (HBV.out.trans (hkp.low (X:=w.heap.size) HBV.out.size (fun k s => by obtain ⟨s1,s2⟩:=s;omega)));clear hbb hbr hof hkp;obtain ⟨o0,o1,o2,o3,o4,o5⟩:=cs6 Bo4.out;obtain ⟨r0,r1,r2,r3,r4,r5,r6,r7⟩:=cs8 Br4.out;have fr0:=froK Br4.out 0;have fr1:=froK Br4.out 1;have fr2:=froK Br4.out 2;have fr3:=froK Br4.out 3;have fr4:=froK Br4.out 4;have fr5:=froK Br4.out 5;have fr6:=froK Br4.out 6;have fr7:=froK Br4.out 7;have hol:=lt_of_some Bo4.out;have hrl:=lt_of_some Br4.out
   have hne5 : ¬ w.heap.size + 1 = w3.heap.size:=by omega
   have hne6 : ¬ w3.heap.size = w.heap.size + 1:=by omega
   go_wp2
   refine bodyPost_ret (v:=.agg #[.slice x1 m1 n1,.slice x2 m2 n2,.slice x3 m3 n3,.slice x4 m4 n4,.slice x5 m5 n5,.int .i64 c.now,.string u.n,.int .i64 0]) (by simp [results,Tryz.results5,go_sem, *]) rfl ⟨⟨x1,m1,n1,x2,m2,n2,x3,m3,n3,x4,m4,n4,x5,m5,n5⟩,⟨bindC c i j9 x u,u.n,0⟩,rfl,HV.out,?_,sb1 (sb1 (sb1 (sb1 (sb1 (sb1 (sb1 (sb1 (HB4.out))))))))⟩
   have hk4 : ∀ k,k < w4.heap.size → (fun k => q1.w.heap.size ≤ k ∧ k < w3.heap.size) k → ((((((((w4.setCell ⟨w.heap.size + 1,0,none⟩ (.slice x1 m1 n1)).setCell ⟨w.heap.size + 1,1,none⟩ (.slice x2 m2 n2)).setCell ⟨w.heap.size + 1,2,none⟩ (.slice x3 m3 n3)).setCell ⟨w.heap.size + 1,3,none⟩ (.slice x4 m4 n4)).setCell ⟨w.heap.size + 1,4,none⟩ (.slice x5 m5 n5)).setCell ⟨w.heap.size + 1,5,none⟩ (.int .i64 c.now)).setCell ⟨w.heap.size + 1,6,none⟩ (.string u.n)).setCell ⟨w.heap.size + 1,7,none⟩ (.int .i64 0)).heap[k]? = w4.heap[k]?:=fun k _ h1 => by
    have h0 : ¬ k = w.heap.size + 1:=by obtain ⟨h2,h3⟩:=h1;omega
    rw [Below.heap_setCell _ _ _ _ (show k ≠ w.heap.size + 1 by omega),Below.heap_setCell _ _ _ _ (show k ≠ w.heap.size + 1 by omega),Below.heap_setCell _ _ _ _ (show k ≠ w.heap.size + 1 by omega),Below.heap_setCell _ _ _ _ (show k ≠ w.heap.size + 1 by omega),Below.heap_setCell _ _ _ _ (show k ≠ w.heap.size + 1 by omega),Below.heap_setCell _ _ _ _ (show k ≠ w.heap.size + 1 by omega),Below.heap_setCell _ _ _ _ (show k ≠ w.heap.size + 1 by omega),Below.heap_setCell _ _ _ _ (show k ≠ w.heap.size + 1 by omega)]
   exact ⟨(HOF.out.n.keep hk4 (fun _ _ s => s)).row,(HOF.out.k.keep hk4 (fun _ _ s => s)).row,(HOF.out.v.keep hk4 (fun _ _ s => s)).row,(HOF.out.x.keep hk4 (fun _ _ s => s)).row,(HOF.out.p.keep hk4 (fun _ _ s => s)).row⟩
  ·have HV : Hid (BindIs c t (co0 p)):=(HBI _).out (.inr ⟨hbv,by rcases hcod with ⟨h1,rfl⟩ | ⟨h1,h2,rfl⟩ | ⟨h1,h2,h3,rfl⟩;exact .inl ⟨h1,rfl⟩;exact .inr ⟨h1,.inl ⟨h2,rfl⟩⟩;exact .inr ⟨h1,.inr ⟨h2,.inl ⟨h3,rfl⟩⟩⟩⟩)
   have hp1 : (p == 0) = false:=by simpa using hp0
   replace Br:=hidK ((hbe.block _ (lt_of_some BrV.out)).trans BrV.out);replace HB:=upB HBV hbe;clear hbe hcod hp0;go_wp2_with fail;refine (sill_any p _).mono ?_;rintro e w5 ⟨rfl,hb⟩;replace Br:=upK Br hb;replace HB:=upB HB hb;clear hb;obtain ⟨r0,r1,r2,r3,r4,r5,r6,r7⟩:=cs8 Br.out;have ltr_10:=lt_of_some Br.out;have fr0:=froK Br.out 0;have fr1:=froK Br.out 1;have fr2:=froK Br.out 2;have fr3:=froK Br.out 3;have fr4:=froK Br.out 4;have fr5:=froK Br.out 5;have fr6:=froK Br.out 6;have fr7:=froK Br.out 7;have hrl : w.heap.size + 1 < w5.heap.size:=lt_of_some Br.out
   go_wp2
   exact bodyPost_ret (v:=.agg #[.slice none 0 0,.slice none 0 0,.slice none 0 0,.slice none 0 0,.slice none 0 0,.int .i64 0,.string ⟨#[]⟩,.int .i64 p]) (by simp [results,Tryz.results5,go_sem, *]) rfl ⟨ad0,co0 p,rfl,HV.out,(own0 _ (fun _ => True)).row,sb1 (sb1 (sb1 (sb1 (sb1 (sb1 (sb1 (sb1 (HB.out))))))))⟩
  have HV : Hid (BindIs c t ⟨makeC c i x (zoneOf ⟨#[]⟩ k.z),(wMade ++ x.n),0⟩):=(HBI _).out (.inr ⟨hbv,.inr ⟨hmay,.inr ⟨hhit,.inr ⟨h8,rfl⟩⟩⟩⟩);have Bo4:=hidK hbb
  have hbr : w4.heap[w.heap.size + 1]? = some (.cells #[.slice none 0 0,.slice none 0 0,.slice none 0 0,.slice none 0 0,.slice none 0 0,.int .i64 0,.string ⟨#[]⟩,.int .i64 0] 38 (0,0)):=(hkp.block _ (lt_of_some BrV.out) (by intro s;rcases s with ⟨s1,s2⟩ | s1 <;> omega)).trans BrV.out
  have Br4:=hidK hbr;have HOF:=hidK hof
  have HB4:=hidK (HBV.out.trans (hkp.low (X:=w.heap.size) HBV.out.size (fun k s => by rcases s with ⟨s1,s2⟩ | s1 <;> omega)))
  clear hbb hbr hof hkp;obtain ⟨o0,o1,o2,o3,o4,o5⟩:=cs6 Bo4.out;obtain ⟨r0,r1,r2,r3,r4,r5,r6,r7⟩:=cs8 Br4.out;have fr0:=froK Br4.out 0;have fr1:=froK Br4.out 1;have fr2:=froK Br4.out 2;have fr3:=froK Br4.out 3;have fr4:=froK Br4.out 4;have fr5:=froK Br4.out 5;have fr6:=froK Br4.out 6;have fr7:=froK Br4.out 7;have hol:=lt_of_some Bo4.out;have hrl:=lt_of_some Br4.out
  have hne5 : ¬ w.heap.size + 1 = w3.heap.size:=by omega
  have hne6 : ¬ w3.heap.size = w.heap.size + 1:=by omega
  go_wp2
  refine bodyPost_ret (v:=.agg #[.slice x1 m1 n1,.slice x2 m2 n2,.slice q3 m3' z3,.slice x4 m4 n4,.slice x5 m5 n5,.int .i64 c.now,.string (wMade ++ x.n),.int .i64 0]) (by simp [results,Tryz.results5,go_sem, *]) rfl ⟨⟨x1,m1,n1,x2,m2,n2,q3,m3',z3,x4,m4,n4,x5,m5,n5⟩,⟨makeC c i x (zoneOf ⟨#[]⟩ k.z),(wMade ++ x.n),0⟩,rfl,HV.out,?_,sb1 (sb1 (sb1 (sb1 (sb1 (sb1 (sb1 (sb1 (HB4.out))))))))⟩
  have hk4 : ∀ k,k < w4.heap.size → (fun k => (fun k => q1.w.heap.size ≤ k ∧ k < w3.heap.size) k ∨ (w3.alloc (.cells #[.slice x1 m1 n1,.slice x2 m2 n2,.slice x3 m3 n3,.slice x4 m4 n4,.slice x5 m5 n5,.int .i64 c.now] 36)).heap.size ≤ k) k → ((((((((w4.setCell ⟨w.heap.size + 1,0,none⟩ (.slice x1 m1 n1)).setCell ⟨w.heap.size + 1,1,none⟩ (.slice x2 m2 n2)).setCell ⟨w.heap.size + 1,2,none⟩ (.slice q3 m3' z3)).setCell ⟨w.heap.size + 1,3,none⟩ (.slice x4 m4 n4)).setCell ⟨w.heap.size + 1,4,none⟩ (.slice x5 m5 n5)).setCell ⟨w.heap.size + 1,5,none⟩ (.int .i64 c.now)).setCell ⟨w.heap.size + 1,6,none⟩ (.string (wMade ++ x.n))).setCell ⟨w.heap.size + 1,7,none⟩ (.int .i64 0)).heap[k]? = w4.heap[k]?:=fun k _ h1 => by
   have h0 : ¬ k = w.heap.size + 1:=by rcases h1 with ⟨h2,h3⟩ | h2;omega;rw [hsv] at h2;omega
   rw [Below.heap_setCell _ _ _ _ (show k ≠ w.heap.size + 1 by omega),Below.heap_setCell _ _ _ _ (show k ≠ w.heap.size + 1 by omega),Below.heap_setCell _ _ _ _ (show k ≠ w.heap.size + 1 by omega),Below.heap_setCell _ _ _ _ (show k ≠ w.heap.size + 1 by omega),Below.heap_setCell _ _ _ _ (show k ≠ w.heap.size + 1 by omega),Below.heap_setCell _ _ _ _ (show k ≠ w.heap.size + 1 by omega),Below.heap_setCell _ _ _ _ (show k ≠ w.heap.size + 1 by omega),Below.heap_setCell _ _ _ _ (show k ≠ w.heap.size + 1 by omega)]
  exact ⟨(HOF.out.n.keep hk4 (fun _ _ s => s)).row,(HOF.out.k.keep hk4 (fun _ _ s => s)).row,(HOF.out.v.keep hk4 (fun _ _ s => s)).row,(HOF.out.x.keep hk4 (fun _ _ s => s)).row,(HOF.out.p.keep hk4 (fun _ _ s => s)).row⟩
 have HKX:=hidK hkx;rw [hkx] at d1;clear hkx;have Gk:=Bk;have Gr:=Br;have HW:=HB;obtain ⟨k0,k1,k2,k3,k4,k5⟩:=sl6 Gk;have xk:=fun q : Wd w2 => (q.cell hbl).trans c2;have kx:=fun q : Wd w2 => (q.cell hbk).trans d1;have hne0:=Wd.ne w2;have HC0:=hidK (fun q : Wd w2 => sxkd_hit ⟨a1,l1,y1,(some ⟨bk,ok,none⟩),l2,y2,a3,l3,y3,(some ⟨b,o,none⟩),l4,y4,a5,l5,y5⟩ c.now c.ks x.k q.w (HR.out.k.below (HW.out.trans (q.b.mono HW.out.size))) HT.out.2.1.2.1.2.2 HK.out.1 HK.out.2);go_wp2_with fail;refine wp_region_wide (by kernel_rfl) (by kernel_rfl) ?_
 repeat (go_big_quiet_step (first | (go_at_call 21;exact Calls.wide (HC0.out _)) | fail))
 refine wpQuiet_nil ?_;rintro _ ⟨q1,rfl⟩;have HB3:=upB HW q1.b;have Ck:=upK Gk q1.b;have Cr:=upK Gr q1.b;clear hne0 HW HB HC0 k0 k1 k2 k3 k4 k5 xk kx Gk Gr Bk Br c2 c4 d1 hbk hbl hq;have HB:=HB3;clear HB3;have Bk:=Ck;clear Ck;have Br:=Cr;clear Cr;have HV : Hid (BindIs c t (co0 11)):=.inr ⟨hl,HT.out,i,x,j,k,HX.out.1,HX.out.2,HK.out.1,HK.out.2,.inr ⟨HXV.out,.inl ⟨HKX.out,rfl⟩⟩⟩;obtain ⟨k0,k1,k2,k3,k4,k5⟩:=cs6 Bk.out;have ltk_3:=lt_of_some Bk.out;go_wp2_with fail;refine (sill_any 11 _).mono ?_;rintro e w3 ⟨rfl,hb⟩;clear k0 k1 k2 k3 k4 k5 ltk_3;replace Bk:=upK Bk hb;replace Br:=upK Br hb;replace HB:=upB HB hb;clear hb;obtain ⟨r0,r1,r2,r3,r4,r5,r6,r7⟩:=cs8 Br.out;have ltr_4:=lt_of_some Br.out;have fr0:=froK Br.out 0;have fr1:=froK Br.out 1;have fr2:=froK Br.out 2;have fr3:=froK Br.out 3;have fr4:=froK Br.out 4;have fr5:=froK Br.out 5;have fr6:=froK Br.out 6;have fr7:=froK Br.out 7;have hrl : w.heap.size + 1 < w3.heap.size:=lt_of_some Br.out
 go_wp2
 exact bodyPost_ret (v:=.agg #[.slice none 0 0,.slice none 0 0,.slice none 0 0,.slice none 0 0,.slice none 0 0,.int .i64 0,.string ⟨#[]⟩,.int .i64 11]) (by simp [results,Tryz.results5,go_sem, *]) rfl ⟨ad0,co0 11,rfl,HV.out,(own0 _ (fun _ => True)).row,sb1 (sb1 (sb1 (sb1 (sb1 (sb1 (sb1 (sb1 (HB.out))))))))⟩

end Rc
end Go.Proofs.YtmknjejaochfjaaGreatDoor

namespace Go.Proofs.YtmknjejaochfjaaGreatDoor
open Go.RowKit Rc Mk

def BindClaimClV (c : Cl) : Fact:=fun v w => ∃ d : Ad,v = .agg #[.slice d.a1 d.l1 d.c1,.slice d.a2 d.l2 d.c2,.slice d.a3 d.l3 d.c3,.slice d.a4 d.l4 d.c4,.slice d.a5 d.l5 d.c5,.int .i64 c.now] ∧ ClRow w d c.raw
theorem BindClaimClV.mono (c : Cl) : Fact.Mono (BindClaimClV c):=by
 rintro v w w' ⟨d,h1,h2⟩ hb;exact ⟨d,h1,h2.below hb⟩

set_option linter.unusedVariables false in
theorem bindClaim_walk (d : Ad) (c : Cl) (t : ByteArray) (E : Nat → Addr) (w : World) (hr : ClRow w d c.raw) (ht : t.size ≤ maxLen) (hG : Ers w E) :
  Calls Tryz.prog 3 #[.agg #[.slice d.a1 d.l1 d.c1,.slice d.a2 d.l2 d.c2,.slice d.a3 d.l3 d.c3,.slice d.a4 d.l4 d.c4,.slice d.a5 d.l5 d.c5,.int .i64 c.now],.string t] w fun e w' => e = .returned (.bool true) ∧ Below w.heap.size w w':=by
 have HR:=hidK hr;have HE:=hidK hG;have HB:=hidK (Below.refl w.heap.size w);clear hr hG
 by_cases hlongt : 1048576 < t.size
 ·go_enter Tryz.func3,Tryz.ntmps3
  go_wp2
  go_ret;exact ⟨rfl,below1 _ _⟩
 go_enter Tryz.func3,Tryz.ntmps3
 go_wp2_with fail;refine (szCluster_any d c _ (HR.out.below (HB.out.trans ((below1 _ _).mono HB.out.size)))).mono ?_;rintro e w1 ⟨r,rfl,hi,hb⟩;obtain ⟨HA0,hbx⟩:=slots1 hb;have Bk:=hidK HA0;replace HB:=upB HB hbx;clear hb hbx HA0
 rcases hi with rfl | ⟨hr0,-,hft⟩
 ·obtain ⟨k0,k1,k2,k3,k4,k5⟩:=cs6 Bk.out;have ltk_1:=lt_of_some Bk.out
  go_wp2
  go_ret;exact ⟨rfl,HB.out⟩
 have HF:=hidK hft;clear hft;obtain ⟨k0,k1,k2,k3,k4,k5⟩:=cs6 Bk.out;have ltk_1:=lt_of_some Bk.out;go_wp2_with fail;refine (toCluster_any d c _ (HR.out.below HB.out) HF.out).mono ?_;rintro e w2 ⟨d1,rfl,ho,hb⟩;clear k0 k1 k2 k3 k4 k5 ltk_1;replace Bk:=upK Bk hb;replace HB:=upB HB hb;clear hb;have HO:=hidK ho.row;clear ho;go_wp2_with fail;refine (sbindC_any d1 c t _ HO.out).mono ?_;rintro e w3 ⟨dg0,o,rfl,hI,ho,hb⟩;have R0:=hidK ho;have HIS:=hidK hI;clear ho hI HO;replace Bk:=upK Bk hb;replace HB:=upB HB hb;clear hb;have HY:=hidK (Bw.refl w3);have HQ3:=hidK (show w.heap.size < w3.heap.size from lt_of_some Bk.out);obtain ⟨k0,k1,k2,k3,k4,k5⟩:=cs6 Bk.out;have ltk_3:=lt_of_some Bk.out;go_wp2_with fail;refine (toCluster_any d c _ (HR.out.below (HB.out.trans ((below1 _ _).mono HB.out.size))) HF.out).mono ?_;rintro e w4 ⟨d2,rfl,ho,hb⟩;clear k0 k1 k2 k3 k4 k5 ltk_3;obtain ⟨HA0,hbx⟩:=slots1 hb;replace Bk:=upK Bk hbx;have Ba:=hidK HA0;replace HY:=hidK (HY.out.below hbx);replace HB:=upB HB hbx;clear hb hbx HA0
 have HQ4 : Hid (w3.heap.size + 1 ≤ w4.heap.size):=by have:=HY.out.le;have:=lt_of_some Ba.out;show w3.heap.size + 1 ≤ _;omega
 have HO2:=hidK (ho.into (S':=fun k => w3.heap.size + 1 ≤ k ∧ k < w4.heap.size) (fun k hk s => ⟨(show w3.heap.size + 1 ≤ k by simpa using s),hk⟩));clear ho;obtain ⟨k0,k1,k2,k3,k4,k5⟩:=cs6 Bk.out;have ltk_4:=lt_of_some Bk.out;obtain ⟨a0,a1,a2,a3,a4,a5,a6,a7⟩:=cs8 Ba.out;have lta_4:=lt_of_some Ba.out;go_wp2_with fail;have HOX:=hidK (HO2.out.below (below1 w4 (.cells #[.slice d2.a1 d2.l1 d2.c1,.slice d2.a2 d2.l2 d2.c2,.slice d2.a3 d2.l3 d2.c3,.slice d2.a4 d2.l4 d2.c4,.slice d2.a5 d2.l5 d2.c5,.int .i64 c.now] 36)));refine (ibind_any d2 c t E _ HOX.out.row (HE.out.below (HB.out.trans ((below1 _ _).mono HB.out.size)))).mono ?_;rintro e w5 ⟨dg1,o1,rfl,hI,ho,hb⟩;clear HOX;obtain rfl:=HIS.out.same hI;clear hI;clear k0 k1 k2 k3 k4 k5 ltk_4 a0 a1 a2 a3 a4 a5 a6 a7 lta_4;obtain ⟨HA0,hbx⟩:=slots1 hb;replace Bk:=upK Bk hbx;replace Ba:=upK Ba hbx;have Bx:=hidK HA0;replace HY:=hidK (HY.out.below hbx);replace HO2:=hidK (HO2.out.below hbx);replace HB:=upB HB hbx;clear hb hbx HA0;have HQ5 : Hid (w4.heap.size < w5.heap.size):=lt_of_some Bx.out;have HO1:=hidK (ho.into (S':=fun k => w4.heap.size + 1 ≤ k ∧ k < w5.heap.size) (fun k hk s => ⟨(show w4.heap.size + 1 ≤ k by simpa using s),hk⟩));clear ho;have hlz : mkCn 1 o.c.raw ≤ 1152921504606846976:=HIS.out.marks HF.out;have HH:=hidK (fun (W : World) (hr : ClRow W dg1 (mkC 1 o.c.raw)) => heldCout_any dg1 o 1 W hr (by decide) hlz);obtain ⟨M,hM⟩ : ∃ M : Int,M = mkCn 1 o.c.raw:=⟨_,rfl⟩
 have hM0 : (0 : Int) < M:=by rw [hM];have:=mkCn_ge 1 o.c.raw;omega
 rw [← hM] at HH;have HMM:=hidK hM;clear hM;obtain ⟨k0,k1,k2,k3,k4,k5⟩:=cs6 Bk.out;have ltk_5:=lt_of_some Bk.out;obtain ⟨a0,a1,a2,a3,a4,a5,a6,a7⟩:=cs8 Ba.out;have lta_5:=lt_of_some Ba.out;obtain ⟨x0,x1,x2,x3,x4,x5⟩:=cs6 Bx.out;have ltx_5:=lt_of_some Bx.out;go_wp2_with fail;refine (eqCout_any dg1 dg0 o _ (HO1.out.row.below (below1 _ _)) (R0.out.below (HY.out.below (below1 _ _)).out)).mono ?_;rintro e w6 ⟨rfl,hb⟩;clear k0 k1 k2 k3 k4 k5 ltk_5 a0 a1 a2 a3 a4 a5 a6 a7 lta_5 x0 x1 x2 x3 x4 x5 ltx_5;obtain ⟨HA0,hbx⟩:=slots1 hb;replace Bk:=upK Bk hbx;replace Ba:=upK Ba hbx;replace Bx:=upK Bx hbx;have Bg:=hidK HA0;replace HY:=hidK (HY.out.below hbx);replace HO2:=hidK (HO2.out.below hbx);replace HO1:=hidK (HO1.out.below hbx);replace HB:=upB HB hbx;clear hb hbx HA0;obtain ⟨W,hW0⟩ : ∃ W,W = w6:=⟨_,rfl⟩;rw [← hW0] at HB HY HO2 HO1 Bk Ba Bx Bg;go_wp2_with fail;rw [← hW0];clear hW0;rename_i K0 hK0;refine wp_region_grow (back:=none) (by kernel_rfl) (List.append_nil _).symm (by kernel_rfl) ?_;refine' Grow.stepC _ rfl ?_ ?_;rotate_left 1
 ·refine Obl.plain rfl ?_;intro ac wg K hsz hW hf hK;clear hsz;have e7:=hf 7 (by decide)
  simp [slotFact,List.lookup] at e7
  clear hf;obtain ⟨k0,k1,k2,k3,k4,k5⟩:=cs6 ((hW.block _ (lt_of_some Bx.out)).trans Bx.out);go_simp;refine hK _ _ (Below.refl _ _) ?_;with_reducible rfl
 refine' Grow.stepC _ rfl ?_ ?_;rotate_left 1
 ·refine Obl.plain rfl ?_;intro ac wg K hsz hW hf hK;clear hsz;have e2:=hf 2 (by decide)
  simp [slotFact,List.lookup] at e2
  clear hf;obtain ⟨k0,k1,k2,k3,k4,k5⟩:=cs6 ((hW.block _ (lt_of_some Bk.out)).trans Bk.out);go_simp;refine hK _ _ (Below.refl _ _) ?_;with_reducible rfl
 refine Grow.step (BindClaimClV c) rfl (BindClaimClV.mono c) ?_ ?_
 ·refine Obl.plain rfl ?_;intro ac wg K hsz hW hf hK;clear hsz;have e35:=hf 35 (by decide)
  simp [slotFact,List.lookup] at e35
  clear hf;go_simp;refine (toCluster_any d c _ (HR.out.below (HB.out.trans (hW.mono HB.out.size))) HF.out).mono ?_;rintro e w6 ⟨d3,rfl,ho,hb6⟩;exact hK _ _ hb6 ⟨d3,rfl,ho.row⟩
 refine' Grow.stepC (.bool true) rfl ?_ ?_
 ·refine Obl.plain rfl ?_;intro ac wg K hsz hW hf hK;clear hsz;have e34:=hf 34 (by decide)
  simp [slotFact,List.lookup] at e34
  have e36:=hf 36 (by decide)
  simp [slotFact,List.lookup] at e36
  obtain ⟨d3,e36,hrow⟩:=e36;clear hf;go_simp;refine (eqCluster_any d2 d3 c _ (HO2.out.row.below hW) hrow).mono ?_;rintro e w6 ⟨rfl,hb6⟩;exact hK _ _ hb6 rfl
 refine' Grow.stepC _ rfl ?_ ?_;rotate_left 1
 ·refine Obl.plain rfl ?_;intro ac wg K hsz hW hf hK;clear hsz;have e37:=hf 37 (by decide)
  simp [slotFact,List.lookup] at e37
  clear hf;go_simp;refine hK _ _ (Below.refl _ _) ?_;with_reducible rfl
 refine Grow.done ?_;intro q wz hW hf;simp only [List.forall_mem_cons] at hf;obtain ⟨h38,-⟩:=hf;have hb:=hW;refine hK0 _ _ ?_;simp only [putsAll,List.foldr,Act.put,List.setIfInBounds_toArray,List.set_cons_zero,List.set_cons_succ,h38];clear hK0;replace Bk:=upK Bk hb;replace Ba:=upK Ba hb;replace Bx:=upK Bx hb;replace Bg:=upK Bg hb;replace HY:=hidK (HY.out.below hb);replace HO2:=hidK (HO2.out.below hb);replace HO1:=hidK (HO1.out.below hb);replace HB:=upB HB hb;clear hb;clear hW;obtain ⟨rk,hrk⟩ : ∃ r : Int,r = mkCn 1 c.raw:=⟨_,rfl⟩
 have hrk0 : decide (rk < 0) = false:=by rw [decide_eq_false_iff_not,hrk];have:=mkCn_ge 1 c.raw;omega
 obtain ⟨k0,k1,k2,k3,k4,k5⟩:=cs6 Bk.out;have ltk_7:=lt_of_some Bk.out;obtain ⟨a0,a1,a2,a3,a4,a5,a6,a7⟩:=cs8 Ba.out;have lta_7:=lt_of_some Ba.out;obtain ⟨x0,x1,x2,x3,x4,x5⟩:=cs6 Bx.out;have ltx_7:=lt_of_some Bx.out;obtain ⟨g0,g1,g2,g3,g4,g5,g6,g7⟩:=cs8 Bg.out;have ltg_7:=lt_of_some Bg.out;go_wp2_with fail;refine (markCluster_any d2 c 1 _ wz HO2.out (fun k s => by have s2:=s.2;have q9:=HY.out.le;have q8:=lt_of_some Bx.out;have q3:=HQ3.out;have q4:=HQ4.out;have q5:=HQ5.out;omega) (by decide) HF.out.marks).mono ?_;rintro e w8 ⟨rfl,ho,hk⟩;clear k0 k1 k2 k3 k4 k5 ltk_7 a0 a1 a2 a3 a4 a5 a6 a7 lta_7 x0 x1 x2 x3 x4 x5 ltx_7 g0 g1 g2 g3 g4 g5 g6 g7 ltg_7;have Ck:=hidK ((hk.block (w.heap.size) (lt_of_some Bk.out) (fun s => by have s1:=s.1;have s2:=s.2;have q3:=HQ3.out;have q4:=HQ4.out;have q5:=HQ5.out;omega)).trans Bk.out);have Ca:=hidK ((hk.block (w3.heap.size) (lt_of_some Ba.out) (fun s => by have s1:=s.1;have s2:=s.2;have q3:=HQ3.out;have q4:=HQ4.out;have q5:=HQ5.out;omega)).trans Ba.out);have Cx:=hidK ((hk.block (w4.heap.size) (lt_of_some Bx.out) (fun s => by have s1:=s.1;have s2:=s.2;have q3:=HQ3.out;have q4:=HQ4.out;have q5:=HQ5.out;omega)).trans Bx.out);have Cg:=hidK ((hk.block (w5.heap.size) (lt_of_some Bg.out) (fun s => by have s1:=s.1;have s2:=s.2;have q3:=HQ3.out;have q4:=HQ4.out;have q5:=HQ5.out;omega)).trans Bg.out);have HB8:=hidK (HB.out.trans (hk.low (X:=w.heap.size) HB.out.size (fun k s => by have s1:=s.1;have q3:=HQ3.out;have q4:=HQ4.out;have q5:=HQ5.out;omega)));have CHY:=hidK (HY.out.kept hk (fun k s => by have s1:=s.1;have q3:=HQ3.out;have q4:=HQ4.out;have q5:=HQ5.out;omega));have CHO1:=hidK (HO1.out.kept hk (fun k s s' => by have s1:=s.1;have s2:=s.2;have t1:=s'.1;have t2:=s'.2;have q3:=HQ3.out;have q4:=HQ4.out;have q5:=HQ5.out;omega))
 clear HB HY hk HO2 HO1 Bk Ba Bx Bg;have HB:=HB8;clear HB8;have HY:=CHY;clear CHY;have HO1:=CHO1;clear CHO1;have Bk:=Ck;clear Ck;have Ba:=Ca;clear Ca;have Bx:=Cx;clear Cx;have Bg:=Cg;clear Cg;clear ho;rw [← hrk];clear hrk;obtain ⟨k0,k1,k2,k3,k4,k5⟩:=cs6 Bk.out;have ltk_8:=lt_of_some Bk.out;obtain ⟨a0,a1,a2,a3,a4,a5,a6,a7⟩:=cs8 Ba.out;have lta_8:=lt_of_some Ba.out;obtain ⟨x0,x1,x2,x3,x4,x5⟩:=cs6 Bx.out;have ltx_8:=lt_of_some Bx.out;obtain ⟨g0,g1,g2,g3,g4,g5,g6,g7⟩:=cs8 Bg.out;have ltg_8:=lt_of_some Bg.out;go_wp2_with fail;refine (eqCout_any dg1 dg0 o _ (HO1.out.row) (R0.out.below HY.out.out)).mono ?_;rintro e w9 ⟨rfl,hb⟩;clear k0 k1 k2 k3 k4 k5 ltk_8 a0 a1 a2 a3 a4 a5 a6 a7 lta_8 x0 x1 x2 x3 x4 x5 ltx_8 g0 g1 g2 g3 g4 g5 g6 g7 ltg_8;replace Bk:=upK Bk hb;replace Ba:=upK Ba hb;replace Bx:=upK Bx hb;replace Bg:=upK Bg hb;replace HY:=hidK (HY.out.below hb);replace HO1:=hidK (HO1.out.below hb);replace HB:=upB HB hb;clear hb;clear hrk0;obtain ⟨k0,k1,k2,k3,k4,k5⟩:=cs6 Bk.out;have ltk_9:=lt_of_some Bk.out;obtain ⟨a0,a1,a2,a3,a4,a5,a6,a7⟩:=cs8 Ba.out;have lta_9:=lt_of_some Ba.out;obtain ⟨x0,x1,x2,x3,x4,x5⟩:=cs6 Bx.out;have ltx_9:=lt_of_some Bx.out;obtain ⟨g0,g1,g2,g3,g4,g5,g6,g7⟩:=cs8 Bg.out;have ltg_9:=lt_of_some Bg.out;go_wp2_with fail;refine (markCout_any dg1 o 1 _ _ HO1.out (fun k s => by have s2:=s.2;have q9:=HB.out.size;have q8:=HY.out.le;have q7:=lt_of_some Bg.out;have q3:=HQ3.out;have q4:=HQ4.out;have q5:=HQ5.out; omega) (by decide) hlz).mono ?_;rintro e w10 ⟨rfl,ho,hk⟩;clear k0 k1 k2 k3 k4 k5 ltk_9 a0 a1 a2 a3 a4 a5 a6 a7 lta_9 x0 x1 x2 x3 x4 x5 ltx_9 g0 g1 g2 g3 g4 g5 g6 g7 ltg_9;have Ck:=hidK ((hk.block (w.heap.size) (lt_of_some Bk.out) (fun s => by have s1:=s.1;have s2:=s.2;have q3:=HQ3.out;have q4:=HQ4.out;have q5:=HQ5.out;omega)).trans Bk.out)
 have Ca:=hidK ((hk.block (w3.heap.size) (lt_of_some Ba.out) (fun s => by have s1:=s.1;have s2:=s.2;have q3:=HQ3.out;have q4:=HQ4.out;have q5:=HQ5.out;omega)).trans Ba.out);have Cx:=hidK ((hk.block (w4.heap.size) (lt_of_some Bx.out) (fun s => by have s1:=s.1;have s2:=s.2;have q3:=HQ3.out;have q4:=HQ4.out;have q5:=HQ5.out;omega)).trans Bx.out);have Cg:=hidK ((hk.block (w5.heap.size) (lt_of_some Bg.out) (fun s => by have s1:=s.1;have s2:=s.2;have q3:=HQ3.out;have q4:=HQ4.out;have q5:=HQ5.out;omega)).trans Bg.out);have HB10:=hidK (HB.out.trans (hk.low (X:=w.heap.size) HB.out.size (fun k s => by have s1:=s.1;have q3:=HQ3.out;have q4:=HQ4.out;have q5:=HQ5.out;omega)));have CHY:=hidK (HY.out.kept hk (fun k s => by have s1:=s.1;have q3:=HQ3.out;have q4:=HQ4.out;have q5:=HQ5.out;omega));clear HB HY hk HO1 Bk Ba Bx Bg;have HB:=HB10;clear HB10;have HY:=CHY;clear CHY;have Bk:=Ck;clear Ck;have Ba:=Ca;clear Ca;have Bx:=Cx;clear Cx;have Bg:=Cg;clear Cg;have HM1:=hidK ho;clear ho;rw [← HMM.out];obtain ⟨k0,k1,k2,k3,k4,k5⟩:=cs6 Bk.out;have ltk_10:=lt_of_some Bk.out;obtain ⟨a0,a1,a2,a3,a4,a5,a6,a7⟩:=cs8 Ba.out;have lta_10:=lt_of_some Ba.out;obtain ⟨x0,x1,x2,x3,x4,x5⟩:=cs6 Bx.out;have ltx_10:=lt_of_some Bx.out;obtain ⟨g0,g1,g2,g3,g4,g5,g6,g7⟩:=cs8 Bg.out;have ltg_10:=lt_of_some Bg.out;go_wp2_with fail;refine (HH.out _ HM1.out.row).mono ?_;rintro e w11 ⟨rfl,hb⟩;clear k0 k1 k2 k3 k4 k5 ltk_10 a0 a1 a2 a3 a4 a5 a6 a7 lta_10 x0 x1 x2 x3 x4 x5 ltx_10 g0 g1 g2 g3 g4 g5 g6 g7 ltg_10;replace Bk:=upK Bk hb;replace Ba:=upK Ba hb;replace Bx:=upK Bx hb;replace Bg:=upK Bg hb;replace HY:=hidK (HY.out.below hb);replace HM1:=hidK (HM1.out.below hb);replace HB:=upB HB hb;clear hb;obtain ⟨k0,k1,k2,k3,k4,k5⟩:=cs6 Bk.out;have ltk_11:=lt_of_some Bk.out;go_wp2_with fail
 refine (toCluster_any d c _ (HR.out.below HB.out) HF.out).mono ?_;rintro e w12 ⟨d4,rfl,ho,hb⟩;clear k0 k1 k2 k3 k4 k5 ltk_11;replace Bk:=upK Bk hb;replace Ba:=upK Ba hb;replace Bx:=upK Bx hb;replace Bg:=upK Bg hb;replace HY:=hidK (HY.out.below hb);replace HM1:=hidK (HM1.out.below hb);replace HB:=upB HB hb;clear hb;have HO:=hidK ho.row;clear ho;go_wp2_with fail;refine (ibind_any d4 c t E _ HO.out (HE.out.below HB.out)).mono ?_;rintro e w13 ⟨dg2,o2,rfl,hI,ho,hb⟩;obtain rfl:=HIS.out.same hI;clear hI HO;have HR2:=hidK ho.row;clear ho;replace Bk:=upK Bk hb;replace Ba:=upK Ba hb;replace Bx:=upK Bx hb;replace Bg:=upK Bg hb;replace HY:=hidK (HY.out.below hb);replace HM1:=hidK (HM1.out.below hb);replace HB:=upB HB hb;clear hb;obtain ⟨k0,k1,k2,k3,k4,k5⟩:=cs6 Bk.out;have ltk_13:=lt_of_some Bk.out;obtain ⟨a0,a1,a2,a3,a4,a5,a6,a7⟩:=cs8 Ba.out;have lta_13:=lt_of_some Ba.out;obtain ⟨x0,x1,x2,x3,x4,x5⟩:=cs6 Bx.out;have ltx_13:=lt_of_some Bx.out;obtain ⟨g0,g1,g2,g3,g4,g5,g6,g7⟩:=cs8 Bg.out;have ltg_13:=lt_of_some Bg.out;go_wp2_with fail;refine (eqCout_any dg2 dg0 o _ (HR2.out.below (below1 _ _)) (R0.out.below (HY.out.below (below1 _ _)).out)).mono ?_;rintro e w14 ⟨rfl,hb⟩;clear k0 k1 k2 k3 k4 k5 ltk_13 a0 a1 a2 a3 a4 a5 a6 a7 lta_13 x0 x1 x2 x3 x4 x5 ltx_13 g0 g1 g2 g3 g4 g5 g6 g7 ltg_13;obtain ⟨HA0,hbx⟩:=slots1 hb;replace Bk:=upK Bk hbx;replace Ba:=upK Ba hbx;replace Bx:=upK Bx hbx;replace Bg:=upK Bg hbx;have Bh:=hidK HA0;replace HY:=hidK (HY.out.below hbx);replace HM1:=hidK (HM1.out.below hbx);replace HB:=upB HB hbx;clear hb hbx HA0;obtain ⟨k0,k1,k2,k3,k4,k5⟩:=cs6 Bk.out;have ltk_14:=lt_of_some Bk.out;obtain ⟨g0,g1,g2,g3,g4,g5,g6,g7⟩:=cs8 Bg.out;have ltg_14:=lt_of_some Bg.out;go_wp2_with fail;refine (HH.out _ HM1.out.row).mono ?_;rintro e w15 ⟨rfl,hb⟩
 clear k0 k1 k2 k3 k4 k5 ltk_14 g0 g1 g2 g3 g4 g5 g6 g7 ltg_14;replace Bk:=upK Bk hb;replace Ba:=upK Ba hb;replace Bx:=upK Bx hb;replace Bg:=upK Bg hb;replace Bh:=upK Bh hb;replace HY:=hidK (HY.out.below hb);replace HM1:=hidK (HM1.out.below hb);replace HB:=upB HB hb;clear hb;go_wp2_with fail;go_ret;exact ⟨rfl,HB.out⟩

set_option linter.unusedVariables false in
theorem fnExactBindClaim_walk (a1 : Option Addr) (l1 y1 : Nat) (ns : List Nd) (a2 : Option Addr) (l2 y2 : Nat) (ks : List Kd) (a3 : Option Addr) (l3 y3 : Nat) (vs : List Vd) (a4 : Option Addr) (l4 y4 : Nat) (xs : List Xd) (a5 : Option Addr) (l5 y5 : Nat) (ps : List Pd) (now : Int) (t : ByteArray) (w : World)
  (h1 : RRow w a1 l1 y1 7 (ns.map ndF)) (h2 : RRow w a2 l2 y2 4 (ks.map kdF)) (h3 : RRow w a3 l3 y3 8 (vs.map vdF)) (h4 : RRow w a4 l4 y4 5 (xs.map xdF)) (h5 : RRow w a5 l5 y5 6 (ps.map pdF)) (_ : (Lit.int .i64 now).wf = true) (ht : t.size ≤ maxLen) (hG : ∃ E,Ers w E) :
  Calls Tryz.prog 3 #[.agg #[.slice a1 l1 y1,.slice a2 l2 y2,.slice a3 l3 y3,.slice a4 l4 y4,.slice a5 l5 y5,.int .i64 now],.string t] w fun e w' => e = .returned (.bool true) ∧ Below w.heap.size w w' :=
 by obtain ⟨E,hG⟩:=hG;exact bindClaim_walk ⟨a1,l1,y1,a2,l2,y2,a3,l3,y3,a4,l4,y4,a5,l5,y5⟩ ⟨ns,ks,vs,xs,ps,now⟩ t E w ⟨h1,h2,h3,h4,h5⟩ ht hG

end Go.Proofs.YtmknjejaochfjaaGreatDoor

namespace Go.Proofs.YtmknjejaochfjaaGreatDoor
open Go.RowKit
namespace Rc

theorem wordStar : "*" ++ "errors.errorString" = "*errors.errorString":=by decide
theorem wordRow (u : TypeId) (h : Tryz.prog.typeName? 3 u = some "*errors.errorString") : u = 216 :=
 typeName_ptr_named (nm:= "errors.errorString") (by rw [wordStar];kernel_rfl) (by kernel_rfl) (by decide) u (by rw [wordStar];exact h)

theorem laid_words {P : Program} {W : World} {nm : String} {ti tp te ts : TypeId} {ms : Array (String × TypeId)} {f : Field} (hi : P.underlying ti = some (.interface ms)) (hrow : ∀ u,P.typeName? 3 u = some nm → u = tp)
  (hp : P.underlying tp = some (.pointer te)) (he : P.underlying te = some (.struct #[f])) (hft : f.type = ts) (hfo : f.offset = 0) (hs : P.underlying ts = some .string) (hc : P.cellsOf te = 1) (hcs : P.cellsOf ts = 1) :
  ∀ (l : List (String × List UInt8)) (ps : List MemPlace),(∀ x ∈ l,∃ g,P.globalNamed x.1 = some g ∧ (P.globals[g]?).map (·.type) = some ti) →
   DataW.LaidVars P W (l.map fun x => (x.1,.iface nm (.ptr (.agg [.lit (.string x.2)])))) ps → ps.Nodup →
   (∀ b off,MemPlace.cell b off ∈ ps → (∃ c t,W.heap[b]? = some (.cells c t (0,0))) ∧ ∀ u v,W.cell? ⟨b,off,none⟩ = some (.iface u v) → Value.okWide P W .any 0 u v) →
   ∃ E : Nat → Addr,(∀ (i : Nat) x,l[i]? = some x → W.var? P x.1 = some #[.iface tp (.pointer (some (E i)))] ∧ MemPlace.cell (E i).block (E i).off ∈ ps) ∧ ∀ i j,i < l.length → j < l.length → E i = E j → i = j
 | [],ps,_,_,_,_ => ⟨fun _ => ⟨0,0,none⟩,fun i x h => by simp at h,fun i j h => by simp at h⟩
 | x :: l,ps,hT,hv,hnd,hrows => by
  obtain ⟨g,t,cs,fuel,p,q,hg,ht,hvar,hd,hq,rfl⟩:=hv;obtain ⟨g',hg',ht'⟩:=hT x (by simp);obtain rfl:=Option.some.inj (hg.symm.trans hg');obtain rfl:=Option.some.inj (ht.symm.trans ht');have hsub : ∀ {y},y ∈ q → y ∈ MemPlace.row ⟨g,0,none⟩ cs.size ++ p ++ q:=fun h => List.mem_append_right _ h;obtain ⟨E,hE1,hE2⟩:=laid_words hi hrow hp he hft hfo hs hc hcs l q (fun y hy => hT y (by simp [hy])) hq (List.Nodup.sublist (List.sublist_append_right _ _) hnd) (fun b off hm => hrows b off (hsub hm));obtain ⟨l0⟩:=cs
  have ok0 : ∀ u v,l0 = [.iface u v] → Value.okWide P W .any 0 u v:=fun u v e => by
   subst e;exact (hrows g 0 (by simp [MemPlace.row])).2 u v (by simpa using World.var?_cell hg hvar 0)
  obtain ⟨a0,s0,rfl,hc0,hs0,hz0,rfl⟩:=errorString_of_trod hi hrow hp he hft hfo hs hc hcs hd ok0
  have ha : MemPlace.cell a0.block a0.off ∈ MemPlace.row a0 1:=by simp [MemPlace.row]
  have hdis : ∀ i,i < l.length → ¬ E i = a0:=fun i hi' e => by
   have h1:=(hE1 i _ (List.getElem?_eq_getElem hi')).2;rw [e] at h1;have h2:=(List.nodup_append.1 hnd).2.2 _ (List.mem_append_right _ ha) _ h1;exact h2 rfl
  refine ⟨fun i => match i with | 0 => a0 | i + 1 => E i,fun i y hy => ?_,fun i j hi' hj' e => ?_⟩
  ·cases i with
   | zero =>
    obtain rfl : x = y:=by simpa using hy
    exact ⟨hvar,List.mem_append_left _ (List.mem_append_right _ ha)⟩
   | succ i =>
    obtain ⟨h1,h2⟩:=hE1 i y (by simpa using hy);exact ⟨h1,hsub h2⟩
  ·cases i with
   | zero => cases j with
    | zero => rfl
    | succ j => exact absurd e.symm (hdis j (by simpa using hj'))
   | succ i => cases j with
    | zero => exact absurd e (hdis i (by simpa using hi'))
    | succ j => rw [hE2 i j (by simpa using hi') (by simpa using hj') e]

theorem vars_length {H : Type} {enc : TypeId × Value → H} {P : Program} {w : World} {sp : Nat → Bool} : ∀ (ns : List String) (gs : List (DataW H)) (ps : List MemPlace),DataW.TrodVars enc P w sp ns gs ps → gs.length = ns.length
 | [],[],_,_ => rfl
 | [],_ :: _,_,h => h.elim
 | _ :: _,[],_,h => h.elim
 | _ :: ns,_ :: gs,_,h => by
  obtain ⟨_,_,_,_,_,q,_,_,_,_,h1,_⟩:=h
  simp [vars_length ns gs q h1]
theorem len10 {α : Type} : ∀ {l : List α},l.length = 10 → ∃ a b c d e f g h i j,l = [a,b,c,d,e,f,g,h,i,j]
 | [a,b,c,d,e,f,g,h,i,j],_ => ⟨a,b,c,d,e,f,g,h,i,j,rfl⟩

end Rc
end Go.Proofs.YtmknjejaochfjaaGreatDoor

namespace Go.Proofs.YtmknjejaochfjaaGreatDoor
open Go.RowKit Go.ChangeShapes Go.WideShapes Go.Deep

theorem list6 {α : Type} {l : List α} (h : l.length = 6) : ∃ x0 x1 x2 x3 x4 x5,l = [x0,x1,x2,x3,x4,x5]:=by
 match l,h with
 | [x0,x1,x2,x3,x4,x5],_ => exact ⟨_,_,_,_,_,_,rfl⟩
section
variable {H : Type} {enc : TypeId × Value → H} {P : Program} {w : World} {base : Nat} {spare : Nat → Bool} {held : Bool}

theorem open_aggN {r : Reach} {b0 : Nat} {t : TypeId} {fs : Array Field} {v : Value} {d : DataW H} {p : List MemPlace} (hs : P.underlying t = some (.struct fs)) (hone : oneCellFields P fs = true) (hC : P.cellsOf t = fs.size)
  (hv : Value.okWide P w r b0 t v) (h : DataW.Trod enc P w base spare held t v d p) :
  ∃ (cs : List Value) (n : Nat),v = .agg cs.toArray ∧ cs.length = fs.size ∧ ∀ (i : Nat) (f : Field),fs[i]? = some f → ∃ c y,cs[i]? = some c ∧ DataW.trod enc P w base spare held n f.type [c] = some y:=by
 obtain ⟨cs,rfl,hsz⟩:=okWide_struct hs hv;obtain ⟨fuel,hf⟩:=h;obtain ⟨xs,n,_,hx,hl,hlen,hf'⟩:=DataW.trod_struct hs hf;refine ⟨cs.toList,n,rfl,by rw [Array.length_toList];exact hsz.trans hC,fun i f hi => ?_⟩;obtain ⟨o,k⟩:=hone_of hone i f hi;have hlt : i < fs.size:=(Array.getElem?_eq_some_iff.1 hi).1
 have hlc : i < cs.toList.length:=by rw [Array.length_toList,hsz,hC];exact hlt
 have g:=hf' i f hi;rw [o,k] at g
 have e : ((Value.agg cs).cells.toList.drop i).take 1 = [cs.toList[i]'hlc]:=by
  show (cs.toList.drop i).take 1 = _
  rw [List.drop_eq_getElem_cons hlc]
  rfl
 rw [e] at g;exact ⟨_,xs[i]'(by omega),List.getElem?_eq_getElem hlc,by rw [g,List.getElem?_eq_getElem]⟩

theorem row_of_trod {t e : TypeId} {n : Nat} {c : Value} {y : DataW H × List MemPlace} (ht : P.underlying t = some (.slice e)) (he : P.underlying e = some .string) (hc : P.cellsOf e = 1)
  (h : DataW.trod enc P w base spare held n t [c] = some y) : ∃ a len cap zs,c = .slice a len cap ∧ TxRow w a len cap zs:=by
 rcases open_strs ht he hc h with ⟨hcs,_⟩ | ⟨a,len,cap,m,Sx,hcs,hb,hl,hm,hmm,_,hx⟩
 ·exact ⟨none,0,0,[],by simpa using hcs,rfl,Nat.le_refl _,by omega,fun j x hx => by simp at hx,Or.inl rfl⟩
 ·have hlm : len ≤ m:=by rw [hmm];split <;> omega
  have hm' : cap ≤ 9223372036854775807:=by unfold maxLen at hm;omega
  refine ⟨some a,len,cap,(List.range len).map Sx,by simpa using hcs,by simp,hl,hm',fun j x hj => ?_,?_⟩
  ·rw [List.getElem?_map] at hj
   by_cases hjl : j < len
   ·rw [List.getElem?_range hjl] at hj;obtain rfl:=Option.some.inj hj;have:=(hx j (by omega)).2;unfold maxLen at this
    omega
   ·rw [List.getElem?_eq_none (by simp;omega)] at hj
    cases hj
  ·by_cases h0 : len = 0
   ·subst h0;exact Or.inl rfl
   right
   obtain ⟨b,o,spot⟩:=a;have h0':=(hx 0 (by omega)).1
   have hspot : spot = none:=by simpa [Addr.add] using World.cell?_spot h0'
   subst hspot;refine ⟨b,o,rfl,?_,fun j x hj => ?_⟩
   ·rw [Addr.add_lit] at h0'
    rcases Nat.lt_or_ge b w.heap.size with h1 | h1
    ·exact h1
    ·simp [World.cell?,Array.getElem?_eq_none h1] at h0'
   ·rw [List.getElem?_map] at hj
    by_cases hjl : j < len
    ·rw [List.getElem?_range hjl] at hj;obtain rfl:=Option.some.inj hj;have:=(hx j (by omega)).1;rw [Addr.add_lit] at this;exact this
    ·rw [List.getElem?_eq_none (by simp;omega)] at hj
     cases hj
end

section
variable {H : Type} {enc : TypeId × Value → H} {w : World} {base : Nat} {spare : Nat → Bool} {held : Bool}

theorem open_aggC {P : Program} {n : Nat} {t : TypeId} {fs : Array Field} {cs : List Value} {x : DataW H × List MemPlace} (hs : P.underlying t = some (.struct fs)) (hone : oneCellFields P fs = true) (hC : P.cellsOf t = fs.size)
  (h : DataW.trod enc P w base spare held n t cs = some x) :
  ∃ (n : Nat),cs.length = fs.size ∧ ∀ (i : Nat) (f : Field),fs[i]? = some f → ∃ c y,cs[i]? = some c ∧ DataW.trod enc P w base spare held n f.type [c] = some y:=by
 obtain ⟨xs,n,_,hx,hl,hlen,hf'⟩:=DataW.trod_struct hs h;refine ⟨n,hl.trans hC,fun i f hi => ?_⟩;obtain ⟨o,k⟩:=hone_of hone i f hi;have hlt : i < fs.size:=(Array.getElem?_eq_some_iff.1 hi).1
 have hlc : i < cs.length:=by rw [hl,hC];exact hlt
 have g:=hf' i f hi;rw [o,k] at g
 have e : (cs.drop i).take 1 = [cs[i]'hlc]:=by
  rw [List.drop_eq_getElem_cons hlc]
  rfl
 rw [e] at g;exact ⟨_,xs[i]'(by omega),List.getElem?_eq_getElem hlc,by rw [g,List.getElem?_eq_getElem]⟩

end

end Go.Proofs.YtmknjejaochfjaaGreatDoor

namespace Go.Proofs.YtmknjejaochfjaaGreatDoor
open Go.RowKit Go.ChangeShapes Go.WideShapes Go.Deep
namespace Rc

section
variable {H : Type} {enc : TypeId × Value → H} {w : World} {base : Nat} {spare : Nat → Bool} {held : Bool}

theorem nd_of_trod {b o n : Nat} {cs : List Value} {x : DataW H × List MemPlace} (hc : ∀ i,i < 7 → w.cell? ⟨b,o + i,none⟩ = cs[i]?) (h : DataW.trod enc Tryz.prog w base spare held n 87 cs = some x) : ∃ v : Nd,RAt w b o (ndF v):=by
 obtain ⟨m,hl,hf⟩:=open_aggC Tryz.underlying87 (by kernel_rfl) (by kernel_rfl) h;obtain ⟨c0,y0,e0,t0⟩:=hf 0 _ rfl;obtain ⟨b0,q0,-,s0⟩:=DataW.trod_string Tryz.underlying9 t0
 obtain rfl : c0 = .string b0:=by simpa using q0
 obtain ⟨c1,y1,e1,t1⟩:=hf 1 _ rfl;obtain ⟨b1,q1,-,s1⟩:=DataW.trod_string Tryz.underlying9 t1
 obtain rfl : c1 = .string b1:=by simpa using q1
 obtain ⟨c2,y2,e2,t2⟩:=hf 2 _ rfl;obtain ⟨b2,q2,-,s2⟩:=DataW.trod_int Tryz.underlying2 t2
 obtain rfl : c2 = .int .i64 b2:=by simpa using q2
 obtain ⟨c3,y3,e3,t3⟩:=hf 3 _ rfl;obtain ⟨b3,q3,-,s3⟩:=DataW.trod_int Tryz.underlying2 t3
 obtain rfl : c3 = .int .i64 b3:=by simpa using q3
 obtain ⟨c4,y4,e4,t4⟩:=hf 4 _ rfl;obtain ⟨b4,q4,-,s4⟩:=DataW.trod_int Tryz.underlying2 t4
 obtain rfl : c4 = .int .i64 b4:=by simpa using q4
 obtain ⟨c5,y5,e5,t5⟩:=hf 5 _ rfl;obtain ⟨b5,q5,-⟩:=DataW.trod_bool Tryz.underlying4 t5
 obtain rfl : c5 = .bool b5:=by simpa using q5
 obtain ⟨c6,y6,e6,t6⟩:=hf 6 _ rfl;obtain ⟨b6,l6,p6,zz,rfl,r6⟩:=row_of_trod Tryz.underlying85 Tryz.underlying9 (by kernel_rfl) t6;unfold maxLen at s0 s1;refine ⟨⟨b0,b1,b2,b3,b4,b5,zz⟩,fun i f hi => ?_⟩
 rcases i with _ | _ | _ | _ | _ | _ | _ | i
 ·cases hi
  exact ⟨_,(hc 0 (by omega)).trans e0,rfl,show b0.size ≤ _ by omega⟩
 ·cases hi
  exact ⟨_,(hc 1 (by omega)).trans e1,rfl,show b1.size ≤ _ by omega⟩
 ·cases hi
  exact ⟨_,(hc 2 (by omega)).trans e2,rfl⟩
 ·cases hi
  exact ⟨_,(hc 3 (by omega)).trans e3,rfl⟩
 ·cases hi
  exact ⟨_,(hc 4 (by omega)).trans e4,rfl⟩
 ·cases hi
  exact ⟨_,(hc 5 (by omega)).trans e5,rfl⟩
 ·cases hi
  exact ⟨_,(hc 6 (by omega)).trans e6,b6,l6,p6,rfl,r6⟩
 ·first | (cases hi;done) | (simp [ndF] at hi;done)

theorem ndrow_of_trod {n : Nat} {c : Value} {y : DataW H × List MemPlace} (h : DataW.trod enc Tryz.prog w base spare held n 22 [c] = some y) : ∃ a len cap,∃ xs : List Nd,c = .slice a len cap ∧ RRow w a len cap 7 (xs.map ndF):=by
 rcases open_slice Tryz.underlying22 h with ⟨hcs,_⟩ | ⟨a,len,cap,m,n',D,Pl,hcs,hb,hl,hm,hmm,_,hx⟩
 ·exact ⟨none,0,0,[],by simpa using hcs,rfl,Nat.le_refl _,by omega,.inl rfl⟩
 have hlm : len ≤ m:=by rw [hmm];split <;> omega
 have hm' : cap ≤ 9223372036854775807:=by unfold maxLen at hm;omega
 have hce : Tryz.prog.cellsOf 87 = 7:=by kernel_rfl
 rw [hce] at hx
 by_cases h0 : len = 0
 ·subst h0;exact ⟨some a,0,cap,[],by simpa using hcs,rfl,hl,hm',.inl rfl⟩
 obtain ⟨b,o,spot⟩:=a;obtain ⟨cs0,k1,k2⟩:=hx 0 (by omega)
 have hspot : spot = none:=by
  obtain ⟨_,hl0,hc0⟩:=World.cells?_some k1;have:=hc0 0 (by omega);rw [List.getElem?_eq_getElem (by omega)] at this
  simpa [Addr.add] using World.cell?_spot this
 subst hspot
 have hblt : b < w.heap.size:=by
  obtain ⟨_,hl0,hc0⟩:=World.cells?_some k1;have:=hc0 0 (by omega);rw [List.getElem?_eq_getElem (by omega)] at this
  rcases Nat.lt_or_ge b w.heap.size with h1 | h1
  ·exact h1
  ·simp [Addr.add,World.cell?,Array.getElem?_eq_none h1] at this
 have each : ∀ i,i < len → ∃ v : Nd,RAt w b (o + i * 7) (ndF v):=fun i hi => by
  obtain ⟨cs,k1,k2⟩:=hx i (by omega);obtain ⟨_,hl0,hc0⟩:=World.cells?_some k1;refine nd_of_trod (fun j hj => ?_) k2;have:=hc0 j hj;rw [add_add,Addr.add_lit] at this;rw [Nat.add_assoc];exact this
 have hin : Inhabited Nd:=⟨⟨⟨#[]⟩,⟨#[]⟩,0,0,0,false,[]⟩⟩;obtain ⟨f,hf⟩:=choose_lt each;refine ⟨some ⟨b,o,none⟩,len,cap,(List.range len).map f,by simpa using hcs,by simp,hl,hm',.inr ⟨b,o,rfl,hblt,fun j r hj => ?_⟩⟩;rw [List.getElem?_map,List.getElem?_map] at hj
 by_cases hjl : j < len
 ·rw [List.getElem?_range hjl] at hj;obtain rfl:=Option.some.inj hj;exact hf j hjl
 ·rw [List.getElem?_eq_none (by simp;omega)] at hj
  cases hj

theorem kd_of_trod {b o n : Nat} {cs : List Value} {x : DataW H × List MemPlace} (hc : ∀ i,i < 4 → w.cell? ⟨b,o + i,none⟩ = cs[i]?) (h : DataW.trod enc Tryz.prog w base spare held n 89 cs = some x) : ∃ v : Kd,RAt w b o (kdF v):=by
 obtain ⟨m,hl,hf⟩:=open_aggC Tryz.underlying89 (by kernel_rfl) (by kernel_rfl) h;obtain ⟨c0,y0,e0,t0⟩:=hf 0 _ rfl;obtain ⟨b0,q0,-,s0⟩:=DataW.trod_string Tryz.underlying9 t0
 obtain rfl : c0 = .string b0:=by simpa using q0
 obtain ⟨c1,y1,e1,t1⟩:=hf 1 _ rfl;obtain ⟨b1,q1,-⟩:=DataW.trod_bool Tryz.underlying4 t1
 obtain rfl : c1 = .bool b1:=by simpa using q1
 obtain ⟨c2,y2,e2,t2⟩:=hf 2 _ rfl;obtain ⟨b2,q2,-⟩:=DataW.trod_bool Tryz.underlying4 t2
 obtain rfl : c2 = .bool b2:=by simpa using q2
 obtain ⟨c3,y3,e3,t3⟩:=hf 3 _ rfl;obtain ⟨b3,q3,-,s3⟩:=DataW.trod_string Tryz.underlying9 t3
 obtain rfl : c3 = .string b3:=by simpa using q3
 unfold maxLen at s0 s3;refine ⟨⟨b0,b1,b2,b3⟩,fun i f hi => ?_⟩
 rcases i with _ | _ | _ | _ | i
 ·cases hi
  exact ⟨_,(hc 0 (by omega)).trans e0,rfl,show b0.size ≤ _ by omega⟩
 ·cases hi
  exact ⟨_,(hc 1 (by omega)).trans e1,rfl⟩
 ·cases hi
  exact ⟨_,(hc 2 (by omega)).trans e2,rfl⟩
 ·cases hi
  exact ⟨_,(hc 3 (by omega)).trans e3,rfl,show b3.size ≤ _ by omega⟩
 ·first | (cases hi;done) | (simp [kdF] at hi;done)

theorem kdrow_of_trod {n : Nat} {c : Value} {y : DataW H × List MemPlace} (h : DataW.trod enc Tryz.prog w base spare held n 23 [c] = some y) : ∃ a len cap,∃ xs : List Kd,c = .slice a len cap ∧ RRow w a len cap 4 (xs.map kdF):=by
 rcases open_slice Tryz.underlying23 h with ⟨hcs,_⟩ | ⟨a,len,cap,m,n',D,Pl,hcs,hb,hl,hm,hmm,_,hx⟩
 ·exact ⟨none,0,0,[],by simpa using hcs,rfl,Nat.le_refl _,by omega,.inl rfl⟩
 have hlm : len ≤ m:=by rw [hmm];split <;> omega
 have hm' : cap ≤ 9223372036854775807:=by unfold maxLen at hm;omega
 have hce : Tryz.prog.cellsOf 89 = 4:=by kernel_rfl
 rw [hce] at hx
 by_cases h0 : len = 0
 ·subst h0;exact ⟨some a,0,cap,[],by simpa using hcs,rfl,hl,hm',.inl rfl⟩
 obtain ⟨b,o,spot⟩:=a;obtain ⟨cs0,k1,k2⟩:=hx 0 (by omega)
 have hspot : spot = none:=by
  obtain ⟨_,hl0,hc0⟩:=World.cells?_some k1;have:=hc0 0 (by omega);rw [List.getElem?_eq_getElem (by omega)] at this
  simpa [Addr.add] using World.cell?_spot this
 subst hspot
 have hblt : b < w.heap.size:=by
  obtain ⟨_,hl0,hc0⟩:=World.cells?_some k1;have:=hc0 0 (by omega);rw [List.getElem?_eq_getElem (by omega)] at this
  rcases Nat.lt_or_ge b w.heap.size with h1 | h1
  ·exact h1
  ·simp [Addr.add,World.cell?,Array.getElem?_eq_none h1] at this
 have each : ∀ i,i < len → ∃ v : Kd,RAt w b (o + i * 4) (kdF v):=fun i hi => by
  obtain ⟨cs,k1,k2⟩:=hx i (by omega);obtain ⟨_,hl0,hc0⟩:=World.cells?_some k1;refine kd_of_trod (fun j hj => ?_) k2;have:=hc0 j hj;rw [add_add,Addr.add_lit] at this;rw [Nat.add_assoc];exact this
 have hin : Inhabited Kd:=⟨⟨⟨#[]⟩,false,false,⟨#[]⟩⟩⟩;obtain ⟨f,hf⟩:=choose_lt each;refine ⟨some ⟨b,o,none⟩,len,cap,(List.range len).map f,by simpa using hcs,by simp,hl,hm',.inr ⟨b,o,rfl,hblt,fun j r hj => ?_⟩⟩;rw [List.getElem?_map,List.getElem?_map] at hj
 by_cases hjl : j < len
 ·rw [List.getElem?_range hjl] at hj;obtain rfl:=Option.some.inj hj;exact hf j hjl
 ·rw [List.getElem?_eq_none (by simp;omega)] at hj
  cases hj

theorem vd_of_trod {b o n : Nat} {cs : List Value} {x : DataW H × List MemPlace} (hc : ∀ i,i < 8 → w.cell? ⟨b,o + i,none⟩ = cs[i]?) (h : DataW.trod enc Tryz.prog w base spare held n 92 cs = some x) : ∃ v : Vd,RAt w b o (vdF v):=by
 obtain ⟨m,hl,hf⟩:=open_aggC Tryz.underlying92 (by kernel_rfl) (by kernel_rfl) h;obtain ⟨c0,y0,e0,t0⟩:=hf 0 _ rfl;obtain ⟨b0,q0,-,s0⟩:=DataW.trod_string Tryz.underlying9 t0
 obtain rfl : c0 = .string b0:=by simpa using q0
 obtain ⟨c1,y1,e1,t1⟩:=hf 1 _ rfl;obtain ⟨b1,q1,-,s1⟩:=DataW.trod_int Tryz.underlying2 t1
 obtain rfl : c1 = .int .i64 b1:=by simpa using q1
 obtain ⟨c2,y2,e2,t2⟩:=hf 2 _ rfl;obtain ⟨b2,q2,-,s2⟩:=DataW.trod_string Tryz.underlying9 t2
 obtain rfl : c2 = .string b2:=by simpa using q2
 obtain ⟨c3,y3,e3,t3⟩:=hf 3 _ rfl;obtain ⟨b3,q3,-,s3⟩:=DataW.trod_string Tryz.underlying9 t3
 obtain rfl : c3 = .string b3:=by simpa using q3
 obtain ⟨c4,y4,e4,t4⟩:=hf 4 _ rfl;obtain ⟨b4,q4,-⟩:=DataW.trod_bool Tryz.underlying4 t4
 obtain rfl : c4 = .bool b4:=by simpa using q4
 obtain ⟨c5,y5,e5,t5⟩:=hf 5 _ rfl;obtain ⟨b5,q5,-,s5⟩:=DataW.trod_string Tryz.underlying9 t5
 obtain rfl : c5 = .string b5:=by simpa using q5
 obtain ⟨c6,y6,e6,t6⟩:=hf 6 _ rfl;obtain ⟨b6,q6,-⟩:=DataW.trod_bool Tryz.underlying4 t6
 obtain rfl : c6 = .bool b6:=by simpa using q6
 obtain ⟨c7,y7,e7,t7⟩:=hf 7 _ rfl;obtain ⟨b7,l7,p7,zz,rfl,r7⟩:=row_of_trod Tryz.underlying85 Tryz.underlying9 (by kernel_rfl) t7;unfold maxLen at s0 s2 s3 s5;refine ⟨⟨b0,b1,b2,b3,b4,b5,b6,zz⟩,fun i f hi => ?_⟩
 rcases i with _ | _ | _ | _ | _ | _ | _ | _ | i
 ·cases hi
  exact ⟨_,(hc 0 (by omega)).trans e0,rfl,show b0.size ≤ _ by omega⟩
 ·cases hi
  exact ⟨_,(hc 1 (by omega)).trans e1,rfl⟩
 ·cases hi
  exact ⟨_,(hc 2 (by omega)).trans e2,rfl,show b2.size ≤ _ by omega⟩
 ·cases hi
  exact ⟨_,(hc 3 (by omega)).trans e3,rfl,show b3.size ≤ _ by omega⟩
 ·cases hi
  exact ⟨_,(hc 4 (by omega)).trans e4,rfl⟩
 ·cases hi
  exact ⟨_,(hc 5 (by omega)).trans e5,rfl,show b5.size ≤ _ by omega⟩
 ·cases hi
  exact ⟨_,(hc 6 (by omega)).trans e6,rfl⟩
 ·cases hi
  exact ⟨_,(hc 7 (by omega)).trans e7,b7,l7,p7,rfl,r7⟩
 ·first | (cases hi;done) | (simp [vdF] at hi;done)

theorem vdrow_of_trod {n : Nat} {c : Value} {y : DataW H × List MemPlace} (h : DataW.trod enc Tryz.prog w base spare held n 24 [c] = some y) : ∃ a len cap,∃ xs : List Vd,c = .slice a len cap ∧ RRow w a len cap 8 (xs.map vdF):=by
 rcases open_slice Tryz.underlying24 h with ⟨hcs,_⟩ | ⟨a,len,cap,m,n',D,Pl,hcs,hb,hl,hm,hmm,_,hx⟩
 ·exact ⟨none,0,0,[],by simpa using hcs,rfl,Nat.le_refl _,by omega,.inl rfl⟩
 have hlm : len ≤ m:=by rw [hmm];split <;> omega
 have hm' : cap ≤ 9223372036854775807:=by unfold maxLen at hm;omega
 have hce : Tryz.prog.cellsOf 92 = 8:=by kernel_rfl
 rw [hce] at hx
 by_cases h0 : len = 0
 ·subst h0;exact ⟨some a,0,cap,[],by simpa using hcs,rfl,hl,hm',.inl rfl⟩
 obtain ⟨b,o,spot⟩:=a;obtain ⟨cs0,k1,k2⟩:=hx 0 (by omega)
 have hspot : spot = none:=by
  obtain ⟨_,hl0,hc0⟩:=World.cells?_some k1;have:=hc0 0 (by omega);rw [List.getElem?_eq_getElem (by omega)] at this
  simpa [Addr.add] using World.cell?_spot this
 subst hspot
 have hblt : b < w.heap.size:=by
  obtain ⟨_,hl0,hc0⟩:=World.cells?_some k1;have:=hc0 0 (by omega);rw [List.getElem?_eq_getElem (by omega)] at this
  rcases Nat.lt_or_ge b w.heap.size with h1 | h1
  ·exact h1
  ·simp [Addr.add,World.cell?,Array.getElem?_eq_none h1] at this
 have each : ∀ i,i < len → ∃ v : Vd,RAt w b (o + i * 8) (vdF v):=fun i hi => by
  obtain ⟨cs,k1,k2⟩:=hx i (by omega);obtain ⟨_,hl0,hc0⟩:=World.cells?_some k1;refine vd_of_trod (fun j hj => ?_) k2;have:=hc0 j hj;rw [add_add,Addr.add_lit] at this;rw [Nat.add_assoc];exact this
 have hin : Inhabited Vd:=⟨⟨⟨#[]⟩,0,⟨#[]⟩,⟨#[]⟩,false,⟨#[]⟩,false,[]⟩⟩;obtain ⟨f,hf⟩:=choose_lt each;refine ⟨some ⟨b,o,none⟩,len,cap,(List.range len).map f,by simpa using hcs,by simp,hl,hm',.inr ⟨b,o,rfl,hblt,fun j r hj => ?_⟩⟩;rw [List.getElem?_map,List.getElem?_map] at hj
 by_cases hjl : j < len
 ·rw [List.getElem?_range hjl] at hj;obtain rfl:=Option.some.inj hj;exact hf j hjl
 ·rw [List.getElem?_eq_none (by simp;omega)] at hj
  cases hj

theorem xd_of_trod {b o n : Nat} {cs : List Value} {x : DataW H × List MemPlace} (hc : ∀ i,i < 5 → w.cell? ⟨b,o + i,none⟩ = cs[i]?) (h : DataW.trod enc Tryz.prog w base spare held n 94 cs = some x) : ∃ v : Xd,RAt w b o (xdF v):=by
 obtain ⟨m,hl,hf⟩:=open_aggC Tryz.underlying94 (by kernel_rfl) (by kernel_rfl) h;obtain ⟨c0,y0,e0,t0⟩:=hf 0 _ rfl;obtain ⟨b0,q0,-,s0⟩:=DataW.trod_string Tryz.underlying9 t0
 obtain rfl : c0 = .string b0:=by simpa using q0
 obtain ⟨c1,y1,e1,t1⟩:=hf 1 _ rfl;obtain ⟨b1,q1,-,s1⟩:=DataW.trod_int Tryz.underlying2 t1
 obtain rfl : c1 = .int .i64 b1:=by simpa using q1
 obtain ⟨c2,y2,e2,t2⟩:=hf 2 _ rfl;obtain ⟨b2,q2,-,s2⟩:=DataW.trod_string Tryz.underlying9 t2
 obtain rfl : c2 = .string b2:=by simpa using q2
 obtain ⟨c3,y3,e3,t3⟩:=hf 3 _ rfl;obtain ⟨b3,q3,-⟩:=DataW.trod_bool Tryz.underlying4 t3
 obtain rfl : c3 = .bool b3:=by simpa using q3
 obtain ⟨c4,y4,e4,t4⟩:=hf 4 _ rfl;obtain ⟨b4,q4,-,s4⟩:=DataW.trod_string Tryz.underlying9 t4
 obtain rfl : c4 = .string b4:=by simpa using q4
 unfold maxLen at s0 s2 s4;refine ⟨⟨b0,b1,b2,b3,b4⟩,fun i f hi => ?_⟩
 rcases i with _ | _ | _ | _ | _ | i
 ·cases hi
  exact ⟨_,(hc 0 (by omega)).trans e0,rfl,show b0.size ≤ _ by omega⟩
 ·cases hi
  exact ⟨_,(hc 1 (by omega)).trans e1,rfl⟩
 ·cases hi
  exact ⟨_,(hc 2 (by omega)).trans e2,rfl,show b2.size ≤ _ by omega⟩
 ·cases hi
  exact ⟨_,(hc 3 (by omega)).trans e3,rfl⟩
 ·cases hi
  exact ⟨_,(hc 4 (by omega)).trans e4,rfl,show b4.size ≤ _ by omega⟩
 ·first | (cases hi;done) | (simp [xdF] at hi;done)

theorem xdrow_of_trod {n : Nat} {c : Value} {y : DataW H × List MemPlace} (h : DataW.trod enc Tryz.prog w base spare held n 25 [c] = some y) : ∃ a len cap,∃ xs : List Xd,c = .slice a len cap ∧ RRow w a len cap 5 (xs.map xdF):=by
 rcases open_slice Tryz.underlying25 h with ⟨hcs,_⟩ | ⟨a,len,cap,m,n',D,Pl,hcs,hb,hl,hm,hmm,_,hx⟩
 ·exact ⟨none,0,0,[],by simpa using hcs,rfl,Nat.le_refl _,by omega,.inl rfl⟩
 have hlm : len ≤ m:=by rw [hmm];split <;> omega
 have hm' : cap ≤ 9223372036854775807:=by unfold maxLen at hm;omega
 have hce : Tryz.prog.cellsOf 94 = 5:=by kernel_rfl
 rw [hce] at hx
 by_cases h0 : len = 0
 ·subst h0;exact ⟨some a,0,cap,[],by simpa using hcs,rfl,hl,hm',.inl rfl⟩
 obtain ⟨b,o,spot⟩:=a;obtain ⟨cs0,k1,k2⟩:=hx 0 (by omega)
 have hspot : spot = none:=by
  obtain ⟨_,hl0,hc0⟩:=World.cells?_some k1;have:=hc0 0 (by omega);rw [List.getElem?_eq_getElem (by omega)] at this
  simpa [Addr.add] using World.cell?_spot this
 subst hspot
 have hblt : b < w.heap.size:=by
  obtain ⟨_,hl0,hc0⟩:=World.cells?_some k1;have:=hc0 0 (by omega);rw [List.getElem?_eq_getElem (by omega)] at this
  rcases Nat.lt_or_ge b w.heap.size with h1 | h1
  ·exact h1
  ·simp [Addr.add,World.cell?,Array.getElem?_eq_none h1] at this
 have each : ∀ i,i < len → ∃ v : Xd,RAt w b (o + i * 5) (xdF v):=fun i hi => by
  obtain ⟨cs,k1,k2⟩:=hx i (by omega);obtain ⟨_,hl0,hc0⟩:=World.cells?_some k1;refine xd_of_trod (fun j hj => ?_) k2;have:=hc0 j hj;rw [add_add,Addr.add_lit] at this;rw [Nat.add_assoc];exact this
 have hin : Inhabited Xd:=⟨⟨⟨#[]⟩,0,⟨#[]⟩,false,⟨#[]⟩⟩⟩;obtain ⟨f,hf⟩:=choose_lt each;refine ⟨some ⟨b,o,none⟩,len,cap,(List.range len).map f,by simpa using hcs,by simp,hl,hm',.inr ⟨b,o,rfl,hblt,fun j r hj => ?_⟩⟩;rw [List.getElem?_map,List.getElem?_map] at hj
 by_cases hjl : j < len
 ·rw [List.getElem?_range hjl] at hj;obtain rfl:=Option.some.inj hj;exact hf j hjl
 ·rw [List.getElem?_eq_none (by simp;omega)] at hj
  cases hj

theorem pd_of_trod {b o n : Nat} {cs : List Value} {x : DataW H × List MemPlace} (hc : ∀ i,i < 6 → w.cell? ⟨b,o + i,none⟩ = cs[i]?) (h : DataW.trod enc Tryz.prog w base spare held n 97 cs = some x) : ∃ v : Pd,RAt w b o (pdF v):=by
 obtain ⟨m,hl,hf⟩:=open_aggC Tryz.underlying97 (by kernel_rfl) (by kernel_rfl) h;obtain ⟨c0,y0,e0,t0⟩:=hf 0 _ rfl;obtain ⟨b0,q0,-,s0⟩:=DataW.trod_string Tryz.underlying9 t0
 obtain rfl : c0 = .string b0:=by simpa using q0
 obtain ⟨c1,y1,e1,t1⟩:=hf 1 _ rfl;obtain ⟨b1,q1,-,s1⟩:=DataW.trod_int Tryz.underlying2 t1
 obtain rfl : c1 = .int .i64 b1:=by simpa using q1
 obtain ⟨c2,y2,e2,t2⟩:=hf 2 _ rfl;obtain ⟨b2,q2,-,s2⟩:=DataW.trod_string Tryz.underlying9 t2
 obtain rfl : c2 = .string b2:=by simpa using q2
 obtain ⟨c3,y3,e3,t3⟩:=hf 3 _ rfl;obtain ⟨b3,l3,p3,zz,rfl,r3⟩:=row_of_trod Tryz.underlying85 Tryz.underlying9 (by kernel_rfl) t3;obtain ⟨c4,y4,e4,t4⟩:=hf 4 _ rfl;obtain ⟨b4,q4,-,s4⟩:=DataW.trod_string Tryz.underlying9 t4
 obtain rfl : c4 = .string b4:=by simpa using q4
 obtain ⟨c5,y5,e5,t5⟩:=hf 5 _ rfl;obtain ⟨b5,q5,-,s5⟩:=DataW.trod_int Tryz.underlying2 t5
 obtain rfl : c5 = .int .i64 b5:=by simpa using q5
 unfold maxLen at s0 s2 s4;refine ⟨⟨b0,b1,b2,zz,b4,b5⟩,fun i f hi => ?_⟩
 rcases i with _ | _ | _ | _ | _ | _ | i
 ·cases hi
  exact ⟨_,(hc 0 (by omega)).trans e0,rfl,show b0.size ≤ _ by omega⟩
 ·cases hi
  exact ⟨_,(hc 1 (by omega)).trans e1,rfl⟩
 ·cases hi
  exact ⟨_,(hc 2 (by omega)).trans e2,rfl,show b2.size ≤ _ by omega⟩
 ·cases hi
  exact ⟨_,(hc 3 (by omega)).trans e3,b3,l3,p3,rfl,r3⟩
 ·cases hi
  exact ⟨_,(hc 4 (by omega)).trans e4,rfl,show b4.size ≤ _ by omega⟩
 ·cases hi
  exact ⟨_,(hc 5 (by omega)).trans e5,rfl⟩
 ·first | (cases hi;done) | (simp [pdF] at hi;done)

theorem pdrow_of_trod {n : Nat} {c : Value} {y : DataW H × List MemPlace} (h : DataW.trod enc Tryz.prog w base spare held n 26 [c] = some y) : ∃ a len cap,∃ xs : List Pd,c = .slice a len cap ∧ RRow w a len cap 6 (xs.map pdF):=by
 rcases open_slice Tryz.underlying26 h with ⟨hcs,_⟩ | ⟨a,len,cap,m,n',D,Pl,hcs,hb,hl,hm,hmm,_,hx⟩
 ·exact ⟨none,0,0,[],by simpa using hcs,rfl,Nat.le_refl _,by omega,.inl rfl⟩
 have hlm : len ≤ m:=by rw [hmm];split <;> omega
 have hm' : cap ≤ 9223372036854775807:=by unfold maxLen at hm;omega
 have hce : Tryz.prog.cellsOf 97 = 6:=by kernel_rfl
 rw [hce] at hx
 by_cases h0 : len = 0
 ·subst h0;exact ⟨some a,0,cap,[],by simpa using hcs,rfl,hl,hm',.inl rfl⟩
 obtain ⟨b,o,spot⟩:=a;obtain ⟨cs0,k1,k2⟩:=hx 0 (by omega)
 have hspot : spot = none:=by
  obtain ⟨_,hl0,hc0⟩:=World.cells?_some k1;have:=hc0 0 (by omega);rw [List.getElem?_eq_getElem (by omega)] at this
  simpa [Addr.add] using World.cell?_spot this
 subst hspot
 have hblt : b < w.heap.size:=by
  obtain ⟨_,hl0,hc0⟩:=World.cells?_some k1;have:=hc0 0 (by omega);rw [List.getElem?_eq_getElem (by omega)] at this
  rcases Nat.lt_or_ge b w.heap.size with h1 | h1
  ·exact h1
  ·simp [Addr.add,World.cell?,Array.getElem?_eq_none h1] at this
 have each : ∀ i,i < len → ∃ v : Pd,RAt w b (o + i * 6) (pdF v):=fun i hi => by
  obtain ⟨cs,k1,k2⟩:=hx i (by omega);obtain ⟨_,hl0,hc0⟩:=World.cells?_some k1;refine pd_of_trod (fun j hj => ?_) k2;have:=hc0 j hj;rw [add_add,Addr.add_lit] at this;rw [Nat.add_assoc];exact this
 have hin : Inhabited Pd:=⟨⟨⟨#[]⟩,0,⟨#[]⟩,[],⟨#[]⟩,0⟩⟩;obtain ⟨f,hf⟩:=choose_lt each;refine ⟨some ⟨b,o,none⟩,len,cap,(List.range len).map f,by simpa using hcs,by simp,hl,hm',.inr ⟨b,o,rfl,hblt,fun j r hj => ?_⟩⟩;rw [List.getElem?_map,List.getElem?_map] at hj
 by_cases hjl : j < len
 ·rw [List.getElem?_range hjl] at hj;obtain rfl:=Option.some.inj hj;exact hf j hjl
 ·rw [List.getElem?_eq_none (by simp;omega)] at hj
  cases hj

end

end Rc
end Go.Proofs.YtmknjejaochfjaaGreatDoor

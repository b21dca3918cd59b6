import Derived.Test.YtcogpoamhflgjaaGreatDoorP4
import Derived.Stop.LaidErr
import Derived.ChangeVars
import Derived.Deep.Strs
import Derived.Deep.Fields
import Derived.WideShapes
import Derived.ChangeArms
/-
 append of a list that may be empty, whatever its address, onto one that is the call's own; the code of a thing more.
-/
set_option maxRecDepth 100000
set_option maxHeartbeats 12800000
namespace Go.Proofs.YtcogpoamhflgjaaGreatDoor
open Go.RowKit
namespace Rc
open Mk

theorem run_append_empty {w : World} {base : Nat} {t ty e : TypeId} {i : TypeInfo} {size : Nat} (ht : Tryz.prog.underlying t = some (.slice e)) (hi : Tryz.prog.info? e = some i) {v : Value} {n : Nat} {xs : List Value} (hown : w.ownsRow base e size v n xs) (ax : Option Addr) (cx : Nat) :
  (Builtin.append_ #[t,t] ty #[v,.slice ax 0 cx]).run Tryz.prog w = .ok v w:=by
 rcases hown.2 with ⟨rfl,rfl⟩ | ⟨g,cap,cur,rfl,_,_,hnc,_⟩
 ·cases ax <;> simp [Builtin.append_,run_underlying ht,sizeOf,typeInfo,hi,Builtin.lenOf,Builtin.firstCells,loadCells,loadCellsFrom]
 ·cases ax <;> simp [Builtin.append_,run_underlying ht,sizeOf,typeInfo,hi,Builtin.lenOf,Builtin.firstCells,hnc,storeCells,loadCells,loadCellsFrom]
theorem wpList_append_any {w : World} {ops : Array Oper} {rest : List Oper} {o : Oper} {a : Act} {Q : Exit → Act → World → Prop} (hgd : o.guard = none) (s x : Operand) (t : TypeId)
  (ho : o.op = .call { callee:=.builtin .append,args:=#[s,x],argTypes:=#[t,t] })
  (base : Nat) (e : TypeId) (i : TypeInfo) (z : Value) (size bytes : Nat) (ht : Tryz.prog.underlying t = some (.slice e)) (hi : Tryz.prog.info? e = some i) (hz : i.zero = some z)
  (hsize : i.size = size) (hby : i.bytes = bytes) (hzs : z.cells.size = size) (hsz : 0 < size)
  (v : Value) (n : Nat) (xs : List Value) (hs : a.eval s = v) (hown : w.ownsRow base e size v n xs)
  (ax : Option Addr) (l c : Nat) (news : List Value) (hx : a.eval x = .slice ax l c) (hl : news.length = l * size) (hnews : ∀ (j : Nat) u,news[j]? = some u → ∃ ad : Addr,ax = some ad ∧ w.cell? (ad.add j) = some u) (h1 : ∀ u ∈ news,u.oneCell' = true)
  (h63 : n + l ≤ maxLen) (hbytes : (n + l) * bytes ≤ 140737488355328) (hbase : base ≤ w.heap.size)
  (h : ∀ v' w',w'.ownsRow base e size v' (n + l) (xs ++ news) → w.grownBy w' v.ownBlock → wpList Tryz.prog ops Q rest (a.put o.dst v') w') : wpList Tryz.prog ops Q (o :: rest) a w:=by
 rcases news with _ | ⟨u,news⟩
 ·have hl0 : l = 0:=by
   rcases Nat.eq_zero_or_pos l with e | e
   ·exact e
   ·have:=Nat.mul_pos e hsz
    simp at hl
    omega
  subst hl0;refine wpList_plain hgd fun K hK => ?_;have hr:=run_append_empty (ty:=o.type) ht hi hown ax c;unfold Oper.wp execOp;simp only [ho,resolve,invoke,builtin,Sem.run_bind,Sem.run_pure,Result.andThen_ok,List.map_toArray,List.map_cons,List.map_nil,hs,hx,hr];exact hK _ _ (h v w (by simpa using hown) (World.grownBy.refl _ _))
 ·obtain ⟨ad,rfl,_⟩:=hnews 0 u rfl
  exact wpList_append_two hgd s x t t ho base e e i z size bytes ht ht hi hz hsize hby hzs hsz v n xs hs hown ad l c (u :: news) hx hl (fun j y hy => by
   obtain ⟨ad',e,h2⟩:=hnews j y hy
   cases e
   exact h2) h1 h63 hbytes hbase h

theorem scode_there (many most : Nat) (w : World) : Calls Tryz.prog 33 #[.bool true,.int .i64 many,.int .i64 most] w fun e w' => e = .returned (.int .i64 7) ∧ Below w.heap.size w w':=by
 go_enter Tryz.func33,Tryz.ntmps33
 go_wp2
 go_ret;exact ⟨rfl,Below.refl _ _⟩

theorem scode_full (many most : Nat) (hm : most ≤ many) (w : World) : Calls Tryz.prog 33 #[.bool false,.int .i64 many,.int .i64 most] w fun e w' => e = .returned (.int .i64 9) ∧ Below w.heap.size w w':=by
 have h1 : ¬ ((many : Int) < (most : Int)):=by omega
 go_enter Tryz.func33,Tryz.ntmps33
 go_wp2
 go_ret;exact ⟨rfl,Below.refl _ _⟩

theorem scode_ok (many most : Nat) (hm : many < most) (w : World) : Calls Tryz.prog 33 #[.bool false,.int .i64 many,.int .i64 most] w fun e w' => e = .returned (.int .i64 0) ∧ Below w.heap.size w w':=by
 have h1 : (many : Int) < (most : Int):=by omega
 go_enter Tryz.func33,Tryz.ntmps33
 go_wp2
 go_ret;exact ⟨rfl,Below.refl _ _⟩

theorem put8 {w : World} {b : Nat} {T : TypeId} {u0 u1 u2 u3 u4 u5 u6 u7 v0 v1 v2 v3 v4 v5 v6 v7 : Value} (h : w.heap[b]? = some (.cells #[u0,u1,u2,u3,u4,u5,u6,u7] T (0,0))) : ((((((((w.setCell ⟨b,0,none⟩ v0).setCell ⟨b,1,none⟩ v1).setCell ⟨b,2,none⟩ v2).setCell ⟨b,3,none⟩ v3).setCell ⟨b,4,none⟩ v4).setCell ⟨b,5,none⟩ v5).setCell ⟨b,6,none⟩ v6).setCell ⟨b,7,none⟩ v7).heap[b]? = some (.cells #[v0,v1,v2,v3,v4,v5,v6,v7] T (0,0)):=by
 have h0 : (w.setCell ⟨b,0,none⟩ v0).heap[b]? = some (.cells #[v0,u1,u2,u3,u4,u5,u6,u7] T (0,0)):=block_set h v0;have h1 : ((w.setCell ⟨b,0,none⟩ v0).setCell ⟨b,1,none⟩ v1).heap[b]? = some (.cells #[v0,v1,u2,u3,u4,u5,u6,u7] T (0,0)):=block_set h0 v1;have h2 : (((w.setCell ⟨b,0,none⟩ v0).setCell ⟨b,1,none⟩ v1).setCell ⟨b,2,none⟩ v2).heap[b]? = some (.cells #[v0,v1,v2,u3,u4,u5,u6,u7] T (0,0)):=block_set h1 v2;have h3 : ((((w.setCell ⟨b,0,none⟩ v0).setCell ⟨b,1,none⟩ v1).setCell ⟨b,2,none⟩ v2).setCell ⟨b,3,none⟩ v3).heap[b]? = some (.cells #[v0,v1,v2,v3,u4,u5,u6,u7] T (0,0)):=block_set h2 v3;have h4 : (((((w.setCell ⟨b,0,none⟩ v0).setCell ⟨b,1,none⟩ v1).setCell ⟨b,2,none⟩ v2).setCell ⟨b,3,none⟩ v3).setCell ⟨b,4,none⟩ v4).heap[b]? = some (.cells #[v0,v1,v2,v3,v4,u5,u6,u7] T (0,0)):=block_set h3 v4;have h5 : ((((((w.setCell ⟨b,0,none⟩ v0).setCell ⟨b,1,none⟩ v1).setCell ⟨b,2,none⟩ v2).setCell ⟨b,3,none⟩ v3).setCell ⟨b,4,none⟩ v4).setCell ⟨b,5,none⟩ v5).heap[b]? = some (.cells #[v0,v1,v2,v3,v4,v5,u6,u7] T (0,0)):=block_set h4 v5;have h6 : (((((((w.setCell ⟨b,0,none⟩ v0).setCell ⟨b,1,none⟩ v1).setCell ⟨b,2,none⟩ v2).setCell ⟨b,3,none⟩ v3).setCell ⟨b,4,none⟩ v4).setCell ⟨b,5,none⟩ v5).setCell ⟨b,6,none⟩ v6).heap[b]? = some (.cells #[v0,v1,v2,v3,v4,v5,v6,u7] T (0,0)):=block_set h5 v6;exact block_set h6 v7
theorem put8_ne {w : World} {b k : Nat} {v0 v1 v2 v3 v4 v5 v6 v7 : Value} (hk : ¬ k = b) : ((((((((w.setCell ⟨b,0,none⟩ v0).setCell ⟨b,1,none⟩ v1).setCell ⟨b,2,none⟩ v2).setCell ⟨b,3,none⟩ v3).setCell ⟨b,4,none⟩ v4).setCell ⟨b,5,none⟩ v5).setCell ⟨b,6,none⟩ v6).setCell ⟨b,7,none⟩ v7).heap[k]? = w.heap[k]?:=by
 rw [Below.heap_setCell _ _ _ _ hk,Below.heap_setCell _ _ _ _ hk,Below.heap_setCell _ _ _ _ hk,Below.heap_setCell _ _ _ _ hk,Below.heap_setCell _ _ _ _ hk,Below.heap_setCell _ _ _ _ hk,Below.heap_setCell _ _ _ _ hk,Below.heap_setCell _ _ _ _ hk]
def BoxF (B : Nat) : Fact:=fun v w => ∃ b,v = .pointer (some ⟨b,0,none⟩) ∧ B ≤ b ∧ w.heap[b]? = some (.cells #[.slice none 0 0,.slice none 0 0,.slice none 0 0,.slice none 0 0,.slice none 0 0,.int .i64 0,.string ⟨#[]⟩,.int .i64 0] 42 (0,0))
theorem BoxF.mono (B : Nat) : Fact.Mono (BoxF B):=by
 rintro v w w' ⟨b,h1,h2,h3⟩ hb;exact ⟨b,h1,h2,(hb.block _ (lt_of_some h3)).trans h3⟩
theorem ClOwn.fr {w : World} {d : Ad} {c : Cr} {S : Nat → Prop} (h : ClOwn w d c S) : ClFr w d c (fun _ => True):=by
 obtain ⟨P,h⟩:=h;exact ⟨h.n.into (fun _ _ _ => trivial),h.k.into (fun _ _ _ => trivial),h.v.into (fun _ _ _ => trivial),h.x.into (fun _ _ _ => trivial),h.p.into (fun _ _ _ => trivial)⟩
theorem ClFr.below {w w' : World} {d : Ad} {c : Cr} {S : Nat → Prop} (h : ClFr w d c S) (hb : Below w.heap.size w w') : ClFr w' d c S:=⟨h.n.below hb,h.k.below hb,h.v.below hb,h.x.below hb,h.p.below hb⟩
theorem ClFr.past {w w' : World} {d : Ad} {c : Cr} {S : Nat → Prop} (h : ClFr w d c S) {b : Nat} {cs : Array Value} (hb : w.heap[b]? = some (.cells cs 42 (0,0))) (hk : ∀ k,¬ k = b → w'.heap[k]? = w.heap[k]?) : ClFr w' d c S :=
 ⟨(h.n.away hb (by decide) (by decide)).keep (fun k _ s => hk k s.2) (fun _ _ s => s.1),(h.k.away hb (by decide) (by decide)).keep (fun k _ s => hk k s.2) (fun _ _ s => s.1),(h.v.away hb (by decide) (by decide)).keep (fun k _ s => hk k s.2) (fun _ _ s => s.1),(h.x.away hb (by decide) (by decide)).keep (fun k _ s => hk k s.2) (fun _ _ s => s.1),(h.p.away hb (by decide) (by decide)).keep (fun k _ s => hk k s.2) (fun _ _ s => s.1)⟩
def OutF (Is : Co → Prop) (w : World) (e : Ending) (w' : World) : Prop:=∃ g o,e = .returned (.agg #[.slice g.a1 g.l1 g.c1,.slice g.a2 g.l2 g.c2,.slice g.a3 g.l3 g.c3,.slice g.a4 g.l4 g.c4,.slice g.a5 g.l5 g.c5,.int .i64 o.c.now,.string o.n,.int .i64 o.p]) ∧ Is o ∧ ClFr w' g o.c.raw (fun _ => True) ∧ Below w.heap.size w w'
def AnsF (Is : Co → Prop) : Fact:=fun v w => ∃ g o,v = .agg #[.slice g.a1 g.l1 g.c1,.slice g.a2 g.l2 g.c2,.slice g.a3 g.l3 g.c3,.slice g.a4 g.l4 g.c4,.slice g.a5 g.l5 g.c5,.int .i64 o.c.now,.string o.n,.int .i64 o.p] ∧ Is o ∧ ClFr w g o.c.raw (fun _ => True)
theorem AnsF.mono (Is : Co → Prop) : Fact.Mono (AnsF Is):=by
 rintro v w w' ⟨g,o,h1,h2,h3⟩ hb;exact ⟨g,o,h1,h2,h3.below hb⟩

theorem sxpd_hit (d : Ad) (now : Int) (xs : List Pd) (t : ByteArray) (w : World) (hr : RRow w d.a5 d.l5 d.c5 6 (xs.map pdF)) (hs : RisBy Pd.n xs) {j : Nat} {x : Pd} (hx : xs[j]? = some x) (hn : x.n = t) :
  Calls Tryz.prog 68 #[.agg #[.slice d.a1 d.l1 d.c1,.slice d.a2 d.l2 d.c2,.slice d.a3 d.l3 d.c3,.slice d.a4 d.l4 d.c4,.slice d.a5 d.l5 d.c5,.int .i64 now],.string t] w fun e w' => e = .returned (.int .i64 j) ∧ Below w.heap.size w w':=by
 refine (sxpd_any d now xs t w hr).mono ?_;rintro e w' ⟨hb,h⟩
 rcases h with ⟨i,y,h1,h2,rfl⟩ | ⟨h1,rfl⟩
 ·obtain ⟨rfl,_⟩:=hs.inj h1 hx (h2.trans hn.symm);exact ⟨rfl,hb⟩
 ·exact absurd hn (h1 j x hx)
theorem sxpd_miss (d : Ad) (now : Int) (xs : List Pd) (t : ByteArray) (w : World) (hr : RRow w d.a5 d.l5 d.c5 6 (xs.map pdF)) (hn : ∀ (j : Nat) x,xs[j]? = some x → ¬ x.n = t) :
  Calls Tryz.prog 68 #[.agg #[.slice d.a1 d.l1 d.c1,.slice d.a2 d.l2 d.c2,.slice d.a3 d.l3 d.c3,.slice d.a4 d.l4 d.c4,.slice d.a5 d.l5 d.c5,.int .i64 now],.string t] w fun e w' => e = .returned (.int .i64 (-1)) ∧ Below w.heap.size w w':=by
 refine (sxpd_any d now xs t w hr).mono ?_;rintro e w' ⟨hb,h⟩
 rcases h with ⟨i,y,h1,h2,rfl⟩ | ⟨h1,rfl⟩
 ·exact absurd h2 (hn i y h1)
 ·exact ⟨rfl,hb⟩

theorem setBlk {w : World} {b : Nat} {a0 a1 a2 a3 a4 a5 v : Value} {T : TypeId} (h : w.heap[b]? = some (.cells #[a0,a1,a2,a3,a4,a5] T (0,0))) : Hid ((w.setCell ⟨b,3,none⟩ v).heap[b]? = some (.cells #[a0,a1,a2,v,a4,a5] T (0,0))):=by
 exact block_set h v

theorem pd_ins {w w4 : World} {v4 : Value} {base n j hh : Nat} {xs : List Pd} {x : Pd} {va : Option Addr} {vl vc : Nat} {vss : List (List Value)} {H : Nat → Nat → Nat} {Q Q2 : Nat → Prop} (hV : VRecs w Q 6 (xs.map pdF) vss H) (hxl : xs.length = n) (hj : j = pl Pd.n xs x.n) (hbs : w.heap.size ≤ base) (hB4 : Below w.heap.size w w4)
  (hxf : ∀ (i : Nat) f,(pdF x)[i]? = some f → ∃ v,[.string x.n,.int .i64 x.c,.string x.z,.slice va vl vc,.string x.d,.int .i64 x.p][i]? = some v ∧ f.Fr w hh Q2 v) (hq : ∀ k,Q k → Q2 k → False) (ho4 : w4.ownsRow base 58 6 v4 (n + 1) (inAt j [.string x.n,.int .i64 x.c,.string x.z,.slice va vl vc,.string x.d,.int .i64 x.p] vss).flatten) :
  ∃ a' c',v4 = .slice a' (n + 1) c' ∧ ROwn w4 a' (n + 1) c' 6 58 ((inAt (pl Pd.n xs x.n) x xs).map pdF) (fun k => (Q k ∨ Q2 k) ∨ w.heap.size ≤ k):=by
 have hjn : j ≤ n:=by rw [hj,← hxl];exact List.findIdx_le_length
 have hV4:=(hV.below hB4).keep (w':=w4) (S':=fun k => (Q k ∨ Q2 k) ∨ w.heap.size ≤ k) (fun _ _ _ _ => rfl) (fun _ _ s => .inl (.inl s))
 obtain ⟨H4,hV5⟩:=hV4.ins (p:=j) (r:=pdF x) (vs:=[.string x.n,.int .i64 x.c,.string x.z,.slice va vl vc,.string x.d,.int .i64 x.p]) (hh:=fun _ => hh) rfl rfl (fun i f hf => by
   obtain ⟨v,h1,h2⟩:=hxf i f hf
   exact ⟨v,h1,h2.keep (fun cu _ q => hB4.block _ (lt_of_some q)) (fun _ s => .inl (.inr s))⟩) (fun i zs h hz k r i2 zs2 hr2 hz2 hne e => by
  obtain ⟨v,_,h2⟩:=hxf i _ h;obtain ⟨_,_,_,_,_,_,_,_,h3⟩:=h2
  have hkv : k < vss.length:=by rw [hV.len];exact (List.getElem?_eq_some_iff.1 hr2).1
  obtain ⟨v',_,h5⟩:=hV.cell k r _ hr2 (List.getElem?_eq_getElem hkv) i2 _ hz2;obtain ⟨_,_,_,_,_,_,_,_,h6⟩:=h5
  rcases h3 with h3 | ⟨_,h3,_⟩
  ·exact hz h3
  ·rcases h6 with h6 | ⟨_,h6,_⟩
   ·exact hne h6
   ·rw [e] at h6
    exact hq _ h6 h3) (fun i i2 zs zs2 h _ h2 _ => by
  rcases i with _ | _ | _ | _ | _ | _ | i <;> simp [pdF] at h <;> rcases i2 with _ | _ | _ | _ | _ | _ | i2 <;> simp [pdF] at h2 <;> rfl) (by rw [List.length_map];omega)
 have h45 : VRecs w4 (fun k => (Q k ∨ Q2 k) ∨ w.heap.size ≤ k) 6 ((inAt j x xs).map pdF) (inAt j [.string x.n,.int .i64 x.c,.string x.z,.slice va vl vc,.string x.d,.int .i64 x.p] vss) H4:=by rw [inAt_map];exact hV5
 have hle : ((inAt j x xs).map pdF).length = n + 1:=by rw [List.length_map,inAt_len (by omega),hxl]
 obtain ⟨a',c',e,hR⟩:=h45.own ho4 hle.symm (by decide) (fun g hg => .inr (by have:=(ho4.lt g hg).1;omega));rw [hle] at e hR;rw [hj] at hR;exact ⟨a',c',e,hR⟩

theorem saddP_bad (d : Ad) (c : Cl) (x : Pd) (va : Option Addr) (vl vc : Nat) (w : World) (hr : ClRow w d c.raw) (hx : TxRow w va vl vc x.zs) (z0 : x.n.size ≤ 9223372036854775807) (z2 : x.z.size ≤ 9223372036854775807) (z4 : x.d.size ≤ 9223372036854775807) (hn : ¬ (x.p = 0)) :
  Calls Tryz.prog 19 #[.agg #[.slice d.a1 d.l1 d.c1,.slice d.a2 d.l2 d.c2,.slice d.a3 d.l3 d.c3,.slice d.a4 d.l4 d.c4,.slice d.a5 d.l5 d.c5,.int .i64 c.now],.agg #[.string x.n,.int .i64 x.c,.string x.z,.slice va vl vc,.string x.d,.int .i64 x.p]] w (OutF (AddPodIs c x) w):=by
 have HR:=hidK hr;have HX:=hidK hx;have HB:=hidK (Below.refl w.heap.size w);have HV : Hid (AddPodIs c x (co0 1)):=.inl ⟨1,fun h => hn h.2.2,rfl⟩
 have hv1 : (x.p == 0) = false:=by simpa using hn
 clear hr hx hn
 go_enter Tryz.func19,Tryz.ntmps19
 go_wp2_with fail;refine (sright_any d c _ (HR.out.below (HB.out.trans ((below3 _ _ _ _).mono HB.out.size)))).mono ?_;rintro e w1 ⟨r,rfl,-,hb⟩;obtain ⟨HA0,HA1,HA2,hbx⟩:=slots3 hb;have Bk:=hidK HA0;have Bx:=hidK HA1;have Br:=hidK HA2;replace HB:=upB HB hbx;clear hb hbx HA0 HA1 HA2
 cases r
 ·obtain ⟨k0,k1,k2,k3,k4,k5⟩:=cs6 Bk.out;have ltk_1:=lt_of_some Bk.out;obtain ⟨x0,x1,x2,x3,x4,x5⟩:=cs6 Bx.out;have ltx_1:=lt_of_some Bx.out;go_wp2_with fail;refine (sill_any 1 _).mono ?_;rintro e w2 ⟨rfl,hb⟩;clear k0 k1 k2 k3 k4 k5 ltk_1 x0 x1 x2 x3 x4 x5 ltx_1;replace Bk:=upK Bk hb;replace Bx:=upK Bx hb;replace Br:=upK Br hb;replace HB:=upB HB hb;clear hb;obtain ⟨r0,r1,r2,r3,r4,r5,r6,r7⟩:=cs8 Br.out;have ltr_2:=lt_of_some Br.out;obtain ⟨fr0,fr1,fr2,fr3,fr4,fr5,fr6,fr7⟩:=fro8 Br.out;have hrl : w.heap.size + 1 + 1 < w2.heap.size:=lt_of_some Br.out
  go_wp2
  exact bodyPost_ret (v:=.agg #[.slice none 0 0,.slice none 0 0,.slice none 0 0,.slice none 0 0,.slice none 0 0,.int .i64 0,.string ⟨#[]⟩,.int .i64 1]) (by simp [results,Tryz.results19,go_sem, *]) rfl ⟨ad0,co0 1,rfl,HV.out,(own0 _ (fun _ => True)).fr,sets8 (show w.heap.size ≤ w.heap.size + 1 + 1 by omega) (HB.out)⟩
 obtain ⟨k0,k1,k2,k3,k4,k5⟩:=cs6 Bk.out;have ltk_1:=lt_of_some Bk.out;obtain ⟨x0,x1,x2,x3,x4,x5⟩:=cs6 Bx.out;have ltx_1:=lt_of_some Bx.out;go_wp2_with fail;refine (spod_any x.n x.c x.z va vl vc x.zs x.d x.p _ z0 z2 z4 (HX.out.below HB.out)).mono ?_;rintro e w2 ⟨r,rfl,-,hb⟩;clear k0 k1 k2 k3 k4 k5 ltk_1 x0 x1 x2 x3 x4 x5 ltx_1;replace Bk:=upK Bk hb;replace Bx:=upK Bx hb;replace Br:=upK Br hb;replace HB:=upB HB hb;clear hb
 cases r
 ·obtain ⟨k0,k1,k2,k3,k4,k5⟩:=cs6 Bk.out;have ltk_2:=lt_of_some Bk.out;obtain ⟨x0,x1,x2,x3,x4,x5⟩:=cs6 Bx.out;have ltx_2:=lt_of_some Bx.out;go_wp2_with fail;refine (sill_any 1 _).mono ?_;rintro e w3 ⟨rfl,hb⟩;clear k0 k1 k2 k3 k4 k5 ltk_2 x0 x1 x2 x3 x4 x5 ltx_2;replace Bk:=upK Bk hb;replace Bx:=upK Bx hb;replace Br:=upK Br hb;replace HB:=upB HB hb;clear hb;obtain ⟨r0,r1,r2,r3,r4,r5,r6,r7⟩:=cs8 Br.out;have ltr_3:=lt_of_some Br.out;obtain ⟨fr0,fr1,fr2,fr3,fr4,fr5,fr6,fr7⟩:=fro8 Br.out;have hrl : w.heap.size + 1 + 1 < w3.heap.size:=lt_of_some Br.out
  go_wp2
  exact bodyPost_ret (v:=.agg #[.slice none 0 0,.slice none 0 0,.slice none 0 0,.slice none 0 0,.slice none 0 0,.int .i64 0,.string ⟨#[]⟩,.int .i64 1]) (by simp [results,Tryz.results19,go_sem, *]) rfl ⟨ad0,co0 1,rfl,HV.out,(own0 _ (fun _ => True)).fr,sets8 (show w.heap.size ≤ w.heap.size + 1 + 1 by omega) (HB.out)⟩
 obtain ⟨k0,k1,k2,k3,k4,k5⟩:=cs6 Bk.out;have ltk_2:=lt_of_some Bk.out;obtain ⟨x0,x1,x2,x3,x4,x5⟩:=cs6 Bx.out;have ltx_2:=lt_of_some Bx.out;go_wp2_with fail;refine (sill_any 1 _).mono ?_;rintro e w3 ⟨rfl,hb⟩;clear k0 k1 k2 k3 k4 k5 ltk_2 x0 x1 x2 x3 x4 x5 ltx_2;replace Bk:=upK Bk hb;replace Bx:=upK Bx hb;replace Br:=upK Br hb;replace HB:=upB HB hb;clear hb;obtain ⟨r0,r1,r2,r3,r4,r5,r6,r7⟩:=cs8 Br.out;have ltr_3:=lt_of_some Br.out;obtain ⟨fr0,fr1,fr2,fr3,fr4,fr5,fr6,fr7⟩:=fro8 Br.out;have hrl : w.heap.size + 1 + 1 < w3.heap.size:=lt_of_some Br.out
 go_wp2
 exact bodyPost_ret (v:=.agg #[.slice none 0 0,.slice none 0 0,.slice none 0 0,.slice none 0 0,.slice none 0 0,.int .i64 0,.string ⟨#[]⟩,.int .i64 1]) (by simp [results,Tryz.results19,go_sem, *]) rfl ⟨ad0,co0 1,rfl,HV.out,(own0 _ (fun _ => True)).fr,sets8 (show w.heap.size ≤ w.heap.size + 1 + 1 by omega) (HB.out)⟩

theorem saddP_good (d : Ad) (c : Cl) (xn : ByteArray) (xc : Int) (xz : ByteArray) (zs : List ByteArray) (xd : ByteArray) (va : Option Addr) (vl vc : Nat) (w : World) (hr : ClRow w d c.raw) (hx : TxRow w va vl vc zs) (z0 : xn.size ≤ 9223372036854775807) (z2 : xz.size ≤ 9223372036854775807) (z4 : xd.size ≤ 9223372036854775807) :
  Calls Tryz.prog 19 #[.agg #[.slice d.a1 d.l1 d.c1,.slice d.a2 d.l2 d.c2,.slice d.a3 d.l3 d.c3,.slice d.a4 d.l4 d.c4,.slice d.a5 d.l5 d.c5,.int .i64 c.now],.agg #[.string xn,.int .i64 xc,.string xz,.slice va vl vc,.string xd,.int .i64 0]] w (OutF (AddPodIs c (⟨xn,xc,xz,zs,xd,0⟩ : Pd)) w):=by
 obtain ⟨a1,l1,y1,a2,l2,y2,a3,l3,y3,a4,l4,y4,a5,l5,y5⟩:=d;dsimp only;have HR:=hidK hr;have HX:=hidK hx;have hvm : vl ≤ 9223372036854775807:=Nat.le_trans hx.2.1 hx.2.2.1;have hxl : zs.length = vl:=hx.1
 have hlc : c.ps.length = l5:=by simpa using (show (c.ps.map pdF).length = l5 from hr.p.1)
 have hlm : l5 ≤ 9223372036854775807:=Nat.le_trans hr.p.2.1 hr.p.2.2.1;have HB:=hidK (Below.refl w.heap.size w);clear hr hx
 go_enter Tryz.func19,Tryz.ntmps19
 go_wp2_with fail;refine (sright_any ⟨a1,l1,y1,a2,l2,y2,a3,l3,y3,a4,l4,y4,a5,l5,y5⟩ c _ (HR.out.below (HB.out.trans ((below3 _ _ _ _).mono HB.out.size)))).mono ?_;rintro e w1 ⟨r,rfl,hi,hb⟩;obtain ⟨HA0,HA1,HA2,hbx⟩:=slots3 hb;have Bk:=hidK HA0;have Bx:=hidK HA1;have Br:=hidK HA2;replace HB:=upB HB hbx;clear hb hbx HA0 HA1 HA2;have HI:=hidK hi;clear hi
 cases r
 ·have HV : Hid (AddPodIs c (⟨xn,xc,xz,zs,xd,0⟩ : Pd) (co0 1)):=.inl ⟨1,fun h => (by have:=HI.out.2 h.1;cases this),rfl⟩;obtain ⟨k0,k1,k2,k3,k4,k5⟩:=cs6 Bk.out;have ltk_1:=lt_of_some Bk.out;obtain ⟨x0,x1,x2,x3,x4,x5⟩:=cs6 Bx.out;have ltx_1:=lt_of_some Bx.out;go_wp2_with fail;refine (sill_any 1 _).mono ?_;rintro e w2 ⟨rfl,hb⟩;clear k0 k1 k2 k3 k4 k5 ltk_1 x0 x1 x2 x3 x4 x5 ltx_1;replace Bk:=upK Bk hb;replace Bx:=upK Bx hb;replace Br:=upK Br hb;replace HB:=upB HB hb;clear hb;obtain ⟨r0,r1,r2,r3,r4,r5,r6,r7⟩:=cs8 Br.out;have ltr_2:=lt_of_some Br.out;obtain ⟨fr0,fr1,fr2,fr3,fr4,fr5,fr6,fr7⟩:=fro8 Br.out;have hrl : w.heap.size + 1 + 1 < w2.heap.size:=lt_of_some Br.out
  go_wp2
  exact bodyPost_ret (v:=.agg #[.slice none 0 0,.slice none 0 0,.slice none 0 0,.slice none 0 0,.slice none 0 0,.int .i64 0,.string ⟨#[]⟩,.int .i64 1]) (by simp [results,Tryz.results19,go_sem, *]) rfl ⟨ad0,co0 1,rfl,HV.out,(own0 _ (fun _ => True)).fr,sets8 (show w.heap.size ≤ w.heap.size + 1 + 1 by omega) (HB.out)⟩
 have HT:=hidK (HI.out.1 (by first | trivial | rfl));clear HI;obtain ⟨k0,k1,k2,k3,k4,k5⟩:=cs6 Bk.out;have ltk_1:=lt_of_some Bk.out;obtain ⟨x0,x1,x2,x3,x4,x5⟩:=cs6 Bx.out;have ltx_1:=lt_of_some Bx.out;go_wp2_with fail;refine (spod_any xn xc xz va vl vc zs xd 0 _ z0 z2 z4 (HX.out.below HB.out)).mono ?_;rintro e w2 ⟨r,rfl,hi,hb⟩;clear k0 k1 k2 k3 k4 k5 ltk_1 x0 x1 x2 x3 x4 x5 ltx_1;replace Bk:=upK Bk hb;replace Bx:=upK Bx hb;replace Br:=upK Br hb;replace HB:=upB HB hb;clear hb;have HI:=hidK hi;clear hi
 cases r
 ·have HV : Hid (AddPodIs c (⟨xn,xc,xz,zs,xd,0⟩ : Pd) (co0 1)):=.inl ⟨1,fun h => (by have:=HI.out.2 h.2.1;cases this),rfl⟩;obtain ⟨k0,k1,k2,k3,k4,k5⟩:=cs6 Bk.out;have ltk_2:=lt_of_some Bk.out;obtain ⟨x0,x1,x2,x3,x4,x5⟩:=cs6 Bx.out;have ltx_2:=lt_of_some Bx.out;go_wp2_with fail;refine (sill_any 1 _).mono ?_;rintro e w3 ⟨rfl,hb⟩;clear k0 k1 k2 k3 k4 k5 ltk_2 x0 x1 x2 x3 x4 x5 ltx_2;replace Bk:=upK Bk hb;replace Bx:=upK Bx hb;replace Br:=upK Br hb;replace HB:=upB HB hb;clear hb;obtain ⟨r0,r1,r2,r3,r4,r5,r6,r7⟩:=cs8 Br.out;have ltr_3:=lt_of_some Br.out;obtain ⟨fr0,fr1,fr2,fr3,fr4,fr5,fr6,fr7⟩:=fro8 Br.out;have hrl : w.heap.size + 1 + 1 < w3.heap.size:=lt_of_some Br.out
  go_wp2
  exact bodyPost_ret (v:=.agg #[.slice none 0 0,.slice none 0 0,.slice none 0 0,.slice none 0 0,.slice none 0 0,.int .i64 0,.string ⟨#[]⟩,.int .i64 1]) (by simp [results,Tryz.results19,go_sem, *]) rfl ⟨ad0,co0 1,rfl,HV.out,(own0 _ (fun _ => True)).fr,sets8 (show w.heap.size ≤ w.heap.size + 1 + 1 by omega) (HB.out)⟩
 have HO : Hid (AddPOk c (⟨xn,xc,xz,zs,xd,0⟩ : Pd)):=⟨HT.out,HI.out.1 (by first | trivial | rfl),rfl⟩
 have hv3 : vl ≤ 3:=by have h9 : (zs.length : Int) ≤ 3:=HO.out.2.1.2.2.2.1.1;omega
 clear HI;obtain ⟨k0,k1,k2,k3,k4,k5⟩:=cs6 Bk.out;have ltk_2:=lt_of_some Bk.out;obtain ⟨x0,x1,x2,x3,x4,x5⟩:=cs6 Bx.out;have ltx_2:=lt_of_some Bx.out;go_wp2_with fail;clear k0 k1 k2 k3 k4 k5 ltk_2 x0 x1 x2 x3 x4 x5 ltx_2;have HRI : Hid (RisBy Pd.n c.ps):=HT.out.2.1.2.2.2.2.2.2
 cases hh : hit Pd.n c.ps xn
 rotate_left
 ·obtain ⟨y,hy,hyn⟩:=hit_yes hh;have HY:=hidK hy;have HYN:=hidK hyn;have HV : Hid (AddPodIs c (⟨xn,xc,xz,zs,xd,0⟩ : Pd) (co0 7)):=.inl ⟨3,⟨HO.out,hh⟩,rfl⟩;clear hy hyn hh;obtain ⟨j,hj⟩ : ∃ j,j = pl Pd.n c.ps xn:=⟨_,rfl⟩;rw [← hj] at HY;clear hj
  have hj0 : ¬ (j : Int) < 0:=by omega
  have Gk:=Bk;have Gx:=Bx;have Gr:=Br;have HW:=HB;obtain ⟨k0,k1,k2,k3,k4,k5⟩:=sl6 Gk;obtain ⟨x0,x1,x2,x3,x4,x5⟩:=sl6 Gx;have hne0:=Wd.ne w2;have HC0:=hidK (fun q : Wd w2 => sxpd_hit ⟨a1,l1,y1,a2,l2,y2,a3,l3,y3,a4,l4,y4,a5,l5,y5⟩ c.now c.ps xn q.w (HR.out.p.below (HW.out.trans (q.b.mono HW.out.size))) HRI.out HY.out HYN.out);have HC1:=hidK (fun q : Wd w2 => scode_there l5 8 q.w);go_wp2_with fail;refine wp_region_wide (by kernel_rfl) (by kernel_rfl) ?_
  repeat (go_big_quiet_step (first | (go_at_call 68;exact Calls.wide (HC0.out _)) | (go_at_call 33;exact Calls.wide (HC1.out _)) | fail))
  refine wpQuiet_nil ?_;rintro _ ⟨q1,rfl⟩;have HB3:=upB HW q1.b;have Ck:=upK Gk q1.b;have Cx:=upK Gx q1.b;have Cr:=upK Gr q1.b;clear hne0 HW HB HC0 HC1 k0 k1 k2 k3 k4 k5 x0 x1 x2 x3 x4 x5 Gk Gx Gr Bk Bx Br;have HB:=HB3;clear HB3;have Bk:=Ck;clear Ck;have Bx:=Cx;clear Cx;have Br:=Cr;clear Cr;obtain ⟨k0,k1,k2,k3,k4,k5⟩:=cs6 Bk.out;have ltk_3:=lt_of_some Bk.out;obtain ⟨x0,x1,x2,x3,x4,x5⟩:=cs6 Bx.out;have ltx_3:=lt_of_some Bx.out
  go_wp2
  clear k0 k1 k2 k3 k4 k5 ltk_3 x0 x1 x2 x3 x4 x5 ltx_3
  go_loopw [5,6] (fun vk vi wr => ∃ k : Nat,k ≤ vl ∧ vk = .int .i64 7 ∧ vi = .int .i64 k ∧ Hid (Below q1.w.heap.size q1.w wr)) (fun _ vi _ => vl - (intOf vi).toNat)
  case atStart => exact ⟨0,by omega,rfl,rfl,Below.refl _ _⟩
  case round =>
   obtain ⟨k,hk,rfl,rfl,HL⟩:=hrel;have hb:=HL.out;replace Bk:=upK Bk hb;replace Bx:=upK Bx hb;replace Br:=upK Br hb;replace HB:=upB HB hb;clear hb
   by_cases hlt : k < vl
   ·have hk1 : (k : Int) < vl:=by omega
    obtain ⟨k0,k1,k2,k3,k4,k5⟩:=cs6 Bk.out;have ltk_4:=lt_of_some Bk.out;obtain ⟨x0,x1,x2,x3,x4,x5⟩:=cs6 Bx.out;have ltx_4:=lt_of_some Bx.out;go_wp2_with fail;clear k0 k1 k2 k3 k4 k5 ltk_4 x0 x1 x2 x3 x4 x5 ltx_4;have Gk:=Bk;have Gx:=Bx;have Gr:=Br;have HW:=HB;have hne0:=Wd.ne wr;go_wp2_with fail;refine wp_region_wide (by kernel_rfl) (by kernel_rfl) ?_
    repeat (go_big_quiet_step (first | fail))
    refine wpQuiet_nil ?_;rintro _ ⟨q3,rfl⟩;have HB5:=upB HW q3.b;have Ck:=upK Gk q3.b;have Cx:=upK Gx q3.b;have Cr:=upK Gr q3.b;clear hne0 HW HB Gk Gx Gr Bk Bx Br;have HB:=HB5;clear HB5;have Bk:=Ck;clear Ck;have Bx:=Cx;clear Cx;have Br:=Cr;clear Cr
    go_wp2
    exact ⟨⟨k + 1,by omega,rfl,by go_num,HL.out.trans (q3.b.mono HL.out.size)⟩,by simp [intOf];omega⟩
   have hk1 : ¬ (k : Int) < vl:=by omega
   obtain ⟨k0,k1,k2,k3,k4,k5⟩:=cs6 Bk.out;have ltk_4:=lt_of_some Bk.out;obtain ⟨x0,x1,x2,x3,x4,x5⟩:=cs6 Bx.out;have ltx_4:=lt_of_some Bx.out;go_wp2_with fail;refine (sill_any 7 _).mono ?_;rintro e w4 ⟨rfl,hb⟩;clear k0 k1 k2 k3 k4 k5 ltk_4 x0 x1 x2 x3 x4 x5 ltx_4;replace Bk:=upK Bk hb;replace Bx:=upK Bx hb;replace Br:=upK Br hb;replace HB:=upB HB hb;clear hb;obtain ⟨r0,r1,r2,r3,r4,r5,r6,r7⟩:=cs8 Br.out;have ltr_5:=lt_of_some Br.out;obtain ⟨fr0,fr1,fr2,fr3,fr4,fr5,fr6,fr7⟩:=fro8 Br.out;have hrl : w.heap.size + 1 + 1 < w4.heap.size:=lt_of_some Br.out
   go_wp2
   exact bodyPost_ret (v:=.agg #[.slice none 0 0,.slice none 0 0,.slice none 0 0,.slice none 0 0,.slice none 0 0,.int .i64 0,.string ⟨#[]⟩,.int .i64 7]) (by simp [results,Tryz.results19,go_sem, *]) rfl ⟨ad0,co0 7,rfl,HV.out,(own0 _ (fun _ => True)).fr,sets8 (show w.heap.size ≤ w.heap.size + 1 + 1 by omega) (HB.out)⟩
 have HMS : Hid (∀ (j : Nat) y,c.ps[j]? = some y → ¬ y.n = xn):=fun j y h1 h2 => by rw [(hit_at HRI.out h1 h2).2] at hh;cases hh
 by_cases hfull : 8 ≤ l5
 ·have HV : Hid (AddPodIs c (⟨xn,xc,xz,zs,xd,0⟩ : Pd) (co0 9)):=.inl ⟨4,⟨HO.out,hh,by omega⟩,rfl⟩;clear hh;have Gk:=Bk;have Gx:=Bx;have Gr:=Br;have HW:=HB;obtain ⟨k0,k1,k2,k3,k4,k5⟩:=sl6 Gk;obtain ⟨x0,x1,x2,x3,x4,x5⟩:=sl6 Gx;have hne0:=Wd.ne w2;have HC0:=hidK (fun q : Wd w2 => sxpd_miss ⟨a1,l1,y1,a2,l2,y2,a3,l3,y3,a4,l4,y4,a5,l5,y5⟩ c.now c.ps xn q.w (HR.out.p.below (HW.out.trans (q.b.mono HW.out.size))) HMS.out);have HC1:=hidK (fun q : Wd w2 => scode_full l5 8 hfull q.w);go_wp2_with fail;refine wp_region_wide (by kernel_rfl) (by kernel_rfl) ?_
  repeat (go_big_quiet_step (first | (go_at_call 68;exact Calls.wide (HC0.out _)) | (go_at_call 33;exact Calls.wide (HC1.out _)) | fail))
  refine wpQuiet_nil ?_;rintro _ ⟨q1,rfl⟩;have HB3:=upB HW q1.b;have Ck:=upK Gk q1.b;have Cx:=upK Gx q1.b;have Cr:=upK Gr q1.b;clear hne0 HW HB HC0 HC1 k0 k1 k2 k3 k4 k5 x0 x1 x2 x3 x4 x5 Gk Gx Gr Bk Bx Br;have HB:=HB3;clear HB3;have Bk:=Ck;clear Ck;have Bx:=Cx;clear Cx;have Br:=Cr;clear Cr;obtain ⟨k0,k1,k2,k3,k4,k5⟩:=cs6 Bk.out;have ltk_3:=lt_of_some Bk.out;obtain ⟨x0,x1,x2,x3,x4,x5⟩:=cs6 Bx.out;have ltx_3:=lt_of_some Bx.out
  go_wp2
  clear k0 k1 k2 k3 k4 k5 ltk_3 x0 x1 x2 x3 x4 x5 ltx_3
  go_loopw [5,6] (fun vk vi wr => ∃ k : Nat,k ≤ vl ∧ vk = .int .i64 9 ∧ vi = .int .i64 k ∧ Hid (Below q1.w.heap.size q1.w wr)) (fun _ vi _ => vl - (intOf vi).toNat)
  case atStart => exact ⟨0,by omega,rfl,rfl,Below.refl _ _⟩
  case round =>
   obtain ⟨k,hk,rfl,rfl,HL⟩:=hrel;have hb:=HL.out;replace Bk:=upK Bk hb;replace Bx:=upK Bx hb;replace Br:=upK Br hb;replace HB:=upB HB hb;clear hb
   by_cases hlt : k < vl
   ·have hk1 : (k : Int) < vl:=by omega
    obtain ⟨k0,k1,k2,k3,k4,k5⟩:=cs6 Bk.out;have ltk_4:=lt_of_some Bk.out;obtain ⟨x0,x1,x2,x3,x4,x5⟩:=cs6 Bx.out;have ltx_4:=lt_of_some Bx.out;go_wp2_with fail;clear k0 k1 k2 k3 k4 k5 ltk_4 x0 x1 x2 x3 x4 x5 ltx_4;have Gk:=Bk;have Gx:=Bx;have Gr:=Br;have HW:=HB;have hne0:=Wd.ne wr;go_wp2_with fail;refine wp_region_wide (by kernel_rfl) (by kernel_rfl) ?_
    repeat (go_big_quiet_step (first | fail))
    refine wpQuiet_nil ?_;rintro _ ⟨q3,rfl⟩;have HB5:=upB HW q3.b;have Ck:=upK Gk q3.b;have Cx:=upK Gx q3.b;have Cr:=upK Gr q3.b;clear hne0 HW HB Gk Gx Gr Bk Bx Br;have HB:=HB5;clear HB5;have Bk:=Ck;clear Ck;have Bx:=Cx;clear Cx;have Br:=Cr;clear Cr
    go_wp2
    exact ⟨⟨k + 1,by omega,rfl,by go_num,HL.out.trans (q3.b.mono HL.out.size)⟩,by simp [intOf];omega⟩
   have hk1 : ¬ (k : Int) < vl:=by omega
   obtain ⟨k0,k1,k2,k3,k4,k5⟩:=cs6 Bk.out;have ltk_4:=lt_of_some Bk.out;obtain ⟨x0,x1,x2,x3,x4,x5⟩:=cs6 Bx.out;have ltx_4:=lt_of_some Bx.out;go_wp2_with fail;refine (sill_any 9 _).mono ?_;rintro e w4 ⟨rfl,hb⟩;clear k0 k1 k2 k3 k4 k5 ltk_4 x0 x1 x2 x3 x4 x5 ltx_4;replace Bk:=upK Bk hb;replace Bx:=upK Bx hb;replace Br:=upK Br hb;replace HB:=upB HB hb;clear hb;obtain ⟨r0,r1,r2,r3,r4,r5,r6,r7⟩:=cs8 Br.out;have ltr_5:=lt_of_some Br.out;obtain ⟨fr0,fr1,fr2,fr3,fr4,fr5,fr6,fr7⟩:=fro8 Br.out;have hrl : w.heap.size + 1 + 1 < w4.heap.size:=lt_of_some Br.out
   go_wp2
   exact bodyPost_ret (v:=.agg #[.slice none 0 0,.slice none 0 0,.slice none 0 0,.slice none 0 0,.slice none 0 0,.int .i64 0,.string ⟨#[]⟩,.int .i64 9]) (by simp [results,Tryz.results19,go_sem, *]) rfl ⟨ad0,co0 9,rfl,HV.out,(own0 _ (fun _ => True)).fr,sets8 (show w.heap.size ≤ w.heap.size + 1 + 1 by omega) (HB.out)⟩
 have HNO:=hidK hh
 have hfull2 : l5 < 8:=by omega
 clear hh hfull;have Gk:=Bk;have Gx:=Bx;have Gr:=Br;have HW:=HB;obtain ⟨k0,k1,k2,k3,k4,k5⟩:=sl6 Gk;obtain ⟨x0,x1,x2,x3,x4,x5⟩:=sl6 Gx;have hne0:=Wd.ne w2;have HC0:=hidK (fun q : Wd w2 => sxpd_miss ⟨a1,l1,y1,a2,l2,y2,a3,l3,y3,a4,l4,y4,a5,l5,y5⟩ c.now c.ps xn q.w (HR.out.p.below (HW.out.trans (q.b.mono HW.out.size))) HMS.out);have HC1:=hidK (fun q : Wd w2 => scode_ok l5 8 hfull2 q.w);go_wp2_with fail;refine wp_region_wide (by kernel_rfl) (by kernel_rfl) ?_
 repeat (go_big_quiet_step (first | (go_at_call 68;exact Calls.wide (HC0.out _)) | (go_at_call 33;exact Calls.wide (HC1.out _)) | fail))
 refine wpQuiet_nil ?_;rintro _ ⟨q1,rfl⟩;have HB3:=upB HW q1.b;have Ck:=upK Gk q1.b;have Cx:=upK Gx q1.b;have Cr:=upK Gr q1.b;clear hne0 HW HB HC0 HC1 k0 k1 k2 k3 k4 k5 x0 x1 x2 x3 x4 x5 Gk Gx Gr Bk Bx Br;have HB:=HB3;clear HB3;have Bk:=Ck;clear Ck;have Bx:=Cx;clear Cx;have Br:=Cr;clear Cr;obtain ⟨k0,k1,k2,k3,k4,k5⟩:=cs6 Bk.out;have ltk_3:=lt_of_some Bk.out;obtain ⟨x0,x1,x2,x3,x4,x5⟩:=cs6 Bx.out;have ltx_3:=lt_of_some Bx.out
 go_wp2
 clear k0 k1 k2 k3 k4 k5 ltk_3 x0 x1 x2 x3 x4 x5 ltx_3
 go_loopw [5,6] (fun vk vi wr => ∃ (k : Nat),k ≤ vl ∧ vi = .int .i64 k ∧ ((vk = .int .i64 0 ∧ Hid (∀ (j : Nat) t,j < k → zs[j]? = some t → hit Xd.n c.xs t = true)) ∨ (vk = .int .i64 6 ∧ Hid (¬ (∀ (j : Nat) t,zs[j]? = some t → hit Xd.n c.xs t = true)))) ∧ Hid (Below q1.w.heap.size q1.w wr)) (fun _ vi _ => vl - (intOf vi).toNat)
 case atStart => exact ⟨0,by omega,rfl,.inl ⟨rfl,fun j t h => by omega⟩,Below.refl _ _⟩
 case round =>
  obtain ⟨k,hk,rfl,hcd,HL⟩:=hrel;have hb:=HL.out;replace Bk:=upK Bk hb;replace Bx:=upK Bx hb;replace Br:=upK Br hb;replace HB:=upB HB hb;clear hb
  by_cases hlt : k < vl
  ·have hk1 : (k : Int) < vl:=by omega
   obtain ⟨b,o,t,rfl,hb,hx,hc,hsz⟩:=(HX.out.below HB.out).at hlt;have HXT:=hidK hx;clear hx hsz
   rcases hcd with ⟨rfl,HQ⟩ | ⟨rfl,HQ⟩
   ·cases hh : hit Xd.n c.xs t
    rotate_left
    ·obtain ⟨y,hy,hyn⟩:=hit_yes hh;have HY:=hidK hy;have HYN:=hidK hyn;have HHT:=hidK hh;clear hy hyn hh;obtain ⟨j,hj⟩ : ∃ j,j = pl Xd.n c.xs t:=⟨_,rfl⟩;rw [← hj] at HY;clear hj
     have hj0 : ¬ (j : Int) < 0:=by omega
     have hj1 : decide ((j : Int) < 0) = false:=by simp
     obtain ⟨k0,k1,k2,k3,k4,k5⟩:=cs6 Bk.out;have ltk_4:=lt_of_some Bk.out;obtain ⟨x0,x1,x2,x3,x4,x5⟩:=cs6 Bx.out;have ltx_4:=lt_of_some Bx.out;go_wp2_with fail;clear k0 k1 k2 k3 k4 k5 ltk_4 x0 x1 x2 x3 x4 x5 ltx_4;have Gk:=Bk;have Gx:=Bx;have Gr:=Br;have HW:=HB;obtain ⟨k0,k1,k2,k3,k4,k5⟩:=sl6 Gk;obtain ⟨x0,x1,x2,x3,x4,x5⟩:=sl6 Gx;have tc:=fun q : Wd wr => (q.cell hb).trans hc;have hne0:=Wd.ne wr;have HC0:=hidK (fun q : Wd wr => sxxd_hit ⟨a1,l1,y1,a2,l2,y2,a3,l3,y3,a4,l4,y4,a5,l5,y5⟩ c.now c.xs t q.w (HR.out.x.below (HW.out.trans (q.b.mono HW.out.size))) HT.out.2.1.2.2.2.1.2.2 HY.out HYN.out);go_wp2_with fail;refine wp_region_wide (by kernel_rfl) (by kernel_rfl) ?_
     repeat (go_big_quiet_step (first | (go_at_call 69;exact Calls.wide (HC0.out _)) | fail))
     refine wpQuiet_nil ?_;rintro _ ⟨q3,rfl⟩;have HB5:=upB HW q3.b;have Ck:=upK Gk q3.b;have Cx:=upK Gx q3.b;have Cr:=upK Gr q3.b;clear hne0 HW HB HC0 k0 k1 k2 k3 k4 k5 x0 x1 x2 x3 x4 x5 tc Gk Gx Gr Bk Bx Br hc hb;have HB:=HB5;clear HB5;have Bk:=Ck;clear Ck;have Bx:=Cx;clear Cx;have Br:=Cr;clear Cr
     go_wp2
     refine ⟨⟨k + 1,by omega,by go_num,.inl ⟨rfl,fun j z hj hz => ?_⟩,HL.out.trans (q3.b.mono HL.out.size)⟩,by simp [intOf];omega⟩
     by_cases e : j = k
     ·subst e;rw [HXT.out] at hz;obtain rfl:=Option.some.inj hz;exact HHT.out
     ·exact HQ.out j z (by omega) hz
    have HMS2 : Hid (∀ (j : Nat) y,c.xs[j]? = some y → ¬ y.n = t):=fun j y h1 h2 => by rw [(hit_at HT.out.2.1.2.2.2.1.2.2 h1 h2).2] at hh;cases hh
    have HHT : Hid (¬ (∀ (j : Nat) t,zs[j]? = some t → hit Xd.n c.xs t = true)):=fun h => (by have h1:=h k t HXT.out;rw [hh] at h1;cases h1);clear hh;obtain ⟨k0,k1,k2,k3,k4,k5⟩:=cs6 Bk.out;have ltk_4:=lt_of_some Bk.out;obtain ⟨x0,x1,x2,x3,x4,x5⟩:=cs6 Bx.out;have ltx_4:=lt_of_some Bx.out;go_wp2_with fail;clear k0 k1 k2 k3 k4 k5 ltk_4 x0 x1 x2 x3 x4 x5 ltx_4;have Gk:=Bk;have Gx:=Bx;have Gr:=Br;have HW:=HB;obtain ⟨k0,k1,k2,k3,k4,k5⟩:=sl6 Gk;obtain ⟨x0,x1,x2,x3,x4,x5⟩:=sl6 Gx;have tc:=fun q : Wd wr => (q.cell hb).trans hc;have hne0:=Wd.ne wr;have HC0:=hidK (fun q : Wd wr => sxxd_miss ⟨a1,l1,y1,a2,l2,y2,a3,l3,y3,a4,l4,y4,a5,l5,y5⟩ c.now c.xs t q.w (HR.out.x.below (HW.out.trans (q.b.mono HW.out.size))) HMS2.out);go_wp2_with fail;refine wp_region_wide (by kernel_rfl) (by kernel_rfl) ?_
    repeat (go_big_quiet_step (first | (go_at_call 69;exact Calls.wide (HC0.out _)) | fail))
    refine wpQuiet_nil ?_;rintro _ ⟨q3,rfl⟩;have HB5:=upB HW q3.b;have Ck:=upK Gk q3.b;have Cx:=upK Gx q3.b;have Cr:=upK Gr q3.b;clear hne0 HW HB HC0 k0 k1 k2 k3 k4 k5 x0 x1 x2 x3 x4 x5 tc Gk Gx Gr Bk Bx Br hc hb;have HB:=HB5;clear HB5;have Bk:=Ck;clear Ck;have Bx:=Cx;clear Cx;have Br:=Cr;clear Cr
    go_wp2
    exact ⟨⟨k + 1,by omega,by go_num,.inr ⟨rfl,HHT⟩,HL.out.trans (q3.b.mono HL.out.size)⟩,by simp [intOf];omega⟩
   obtain ⟨k0,k1,k2,k3,k4,k5⟩:=cs6 Bk.out;have ltk_4:=lt_of_some Bk.out;obtain ⟨x0,x1,x2,x3,x4,x5⟩:=cs6 Bx.out;have ltx_4:=lt_of_some Bx.out;go_wp2_with fail;clear k0 k1 k2 k3 k4 k5 ltk_4 x0 x1 x2 x3 x4 x5 ltx_4;have Gk:=Bk;have Gx:=Bx;have Gr:=Br;have HW:=HB;have hne0:=Wd.ne wr;go_wp2_with fail;refine wp_region_wide (by kernel_rfl) (by kernel_rfl) ?_
   repeat (go_big_quiet_step (first | fail))
   refine wpQuiet_nil ?_;rintro _ ⟨q3,rfl⟩;have HB5:=upB HW q3.b;have Ck:=upK Gk q3.b;have Cx:=upK Gx q3.b;have Cr:=upK Gr q3.b;clear hne0 HW HB Gk Gx Gr Bk Bx Br;have HB:=HB5;clear HB5;have Bk:=Ck;clear Ck;have Bx:=Cx;clear Cx;have Br:=Cr;clear Cr
   go_wp2
   exact ⟨⟨k + 1,by omega,by go_num,.inr ⟨rfl,HQ⟩,HL.out.trans (q3.b.mono HL.out.size)⟩,by simp [intOf];omega⟩
  have hk1 : ¬ (k : Int) < vl:=by omega
  rcases hcd with ⟨rfl,HQ⟩ | ⟨rfl,HQ⟩
  rotate_left
  ·have HV : Hid (AddPodIs c (⟨xn,xc,xz,zs,xd,0⟩ : Pd) (co0 6)):=.inl ⟨2,⟨HO.out,HNO.out,by omega,HQ.out⟩,rfl⟩;obtain ⟨k0,k1,k2,k3,k4,k5⟩:=cs6 Bk.out;have ltk_4:=lt_of_some Bk.out;obtain ⟨x0,x1,x2,x3,x4,x5⟩:=cs6 Bx.out;have ltx_4:=lt_of_some Bx.out;go_wp2_with fail;refine (sill_any 6 _).mono ?_;rintro e w4 ⟨rfl,hb⟩;clear k0 k1 k2 k3 k4 k5 ltk_4 x0 x1 x2 x3 x4 x5 ltx_4;replace Bk:=upK Bk hb;replace Bx:=upK Bx hb;replace Br:=upK Br hb;replace HB:=upB HB hb;clear hb;obtain ⟨r0,r1,r2,r3,r4,r5,r6,r7⟩:=cs8 Br.out;have ltr_5:=lt_of_some Br.out;obtain ⟨fr0,fr1,fr2,fr3,fr4,fr5,fr6,fr7⟩:=fro8 Br.out;have hrl : w.heap.size + 1 + 1 < w4.heap.size:=lt_of_some Br.out
   go_wp2
   exact bodyPost_ret (v:=.agg #[.slice none 0 0,.slice none 0 0,.slice none 0 0,.slice none 0 0,.slice none 0 0,.int .i64 0,.string ⟨#[]⟩,.int .i64 6]) (by simp [results,Tryz.results19,go_sem, *]) rfl ⟨ad0,co0 6,rfl,HV.out,(own0 _ (fun _ => True)).fr,sets8 (show w.heap.size ≤ w.heap.size + 1 + 1 by omega) (HB.out)⟩
  have HV : Hid (AddPodIs c (⟨xn,xc,xz,zs,xd,0⟩ : Pd) ⟨addP c (⟨xn,xc,xz,zs,xd,0⟩ : Pd),⟨#[]⟩,0⟩):=.inr ⟨HO.out,HNO.out,by omega,fun j t ht => HQ.out j t (by have h9 : j < zs.length:=(List.getElem?_eq_some_iff.1 ht).1;omega) ht,rfl⟩;clear HQ HNO;have HQ1 : Hid (w.heap.size + 1 + 1 < wr.heap.size):=lt_of_some Br.out;obtain ⟨k0,k1,k2,k3,k4,k5⟩:=cs6 Bk.out;have ltk_4:=lt_of_some Bk.out;obtain ⟨x0,x1,x2,x3,x4,x5⟩:=cs6 Bx.out;have ltx_4:=lt_of_some Bx.out;go_wp2_with fail;refine (scopyC_any ⟨a1,l1,y1,a2,l2,y2,a3,l3,y3,a4,l4,y4,a5,l5,y5⟩ c _ (HR.out.below HB.out) HT.out.sm).mono ?_;rintro e w4 ⟨d',rfl,ho,hb⟩;have HQ2:=hidK hb.size;clear k0 k1 k2 k3 k4 k5 ltk_4 x0 x1 x2 x3 x4 x5 ltx_4;replace Bk:=upK Bk hb;replace Bx:=upK Bx hb;replace Br:=upK Br hb;replace HB:=upB HB hb;clear hb;obtain ⟨g1,m1,n1,g2,m2,n2,g3,m3,n3,g4,m4,n4,g5,m5,n5⟩:=d'
  have hm5 : l5 = m5:=by have h6 : (c.ps.map pdF).length = m5:=ho.p.1;rw [List.length_map] at h6;omega
  subst hm5;have hmn : l5 ≤ n5:=ho.p.2.1;have hmx : n5 ≤ 9223372036854775807:=ho.p.2.2.1;have HFR:=hidK ho;clear ho;obtain ⟨wr3,hwr3⟩ : ∃ n : Nat,n = wr.heap.size:=⟨_,rfl⟩;rw [← hwr3] at HQ1 HQ2 HFR;clear hwr3 HL hk1 hlt hk;obtain ⟨k0,k1,k2,k3,k4,k5⟩:=cs6 Bk.out;have ltk_5:=lt_of_some Bk.out;obtain ⟨x0,x1,x2,x3,x4,x5⟩:=cs6 Bx.out;have ltx_5:=lt_of_some Bx.out
  go_wp2
  clear k0 k1 k2 k3 k4 k5 ltk_5 x0 x1 x2 x3 x4 x5 ltx_5
  go_loopw [8] (fun vi wr => ∃ k : Nat,k ≤ l5 ∧ vi = .int .i64 k ∧ Hid (∀ (j : Nat) y,j < k → c.ps[j]? = some y → Op.bytesLess y.n.toList xn.toList = true) ∧ Hid (Below (w4.heap.size + 1) (w4.alloc (.cells #[.slice g1 m1 n1,.slice g2 m2 n2,.slice g3 m3 n3,.slice g4 m4 n4,.slice g5 l5 n5,.int .i64 c.now] 40)) wr)) (fun vi _ => l5 - (intOf vi).toNat)
  case atStart => exact ⟨0,by omega,rfl,fun j y hj => by omega,Below.refl _ _⟩
  case round =>
   obtain ⟨k,hk,rfl,HE,HL⟩:=hrel
   have hLs : w4.heap.size + 1 ≤ wr.heap.size:=by have:=HL.out.size;simpa using this
   have hb4 : Below w4.heap.size w4 wr:=(below1 w4 (.cells #[.slice g1 m1 n1,.slice g2 m2 n2,.slice g3 m3 n3,.slice g4 m4 n4,.slice g5 l5 n5,.int .i64 c.now] 40)).trans (HL.out.mono (by omega));replace HB:=upB HB hb4;replace Bk:=upK Bk hb4;replace Bx:=upK Bx hb4;replace Br:=upK Br hb4;have Bo:=hidK ((HL.out.block w4.heap.size (by omega)).trans (heap_alloc_new w4 (.cells #[.slice g1 m1 n1,.slice g2 m2 n2,.slice g3 m3 n3,.slice g4 m4 n4,.slice g5 l5 n5,.int .i64 c.now] 40)));have HB4:=hidK hb4;clear hb4
   by_cases hlt : k < l5
   ·obtain ⟨b,o,y,rfl,hb,hx,hat⟩:=pd_at (HR.out.p.below HB.out) hlt;obtain ⟨ya,yl,yc,-,-,-,-,hc0,-,-,-,-,-⟩:=pd_cells hat;have HXy:=hidK hx;have hbw : b < wr.heap.size:=hb
    have hk1 : (k : Int) < l5:=by omega
    have hk2 : decide ((k : Int) < l5) = true:=by simp;omega
    clear hb hat hx
    cases hless : Op.bytesLess y.n.toList xn.toList
    ·have Gk : Hid (wr.heap[w.heap.size]? = some (.cells #[.slice a1 l1 y1,.slice a2 l2 y2,.slice a3 l3 y3,.slice a4 l4 y4,.slice (some ⟨b,o,none⟩) l5 y5,.int .i64 c.now] 40 (0,0))):=Bk.out;have Gx:=Bx;have Gr:=Br;have Go:=Bo;have HW:=HB;have k4:=fun q : Wd wr => q.slot (o:=4) Gk.out rfl;have x0:=fun q : Wd wr => q.slot (o:=0) Gx.out rfl;have yn:=fun q : Wd wr => (q.cell hbw).trans hc0;have hne0:=Wd.ne wr;go_wp2_with fail;refine wp_region_wide (by kernel_rfl) (by kernel_rfl) ?_
     repeat (go_big_quiet_step (first | fail))
     refine wpQuiet_nil ?_;rintro _ ⟨q2,rfl⟩;have HB6:=upB HW q2.b;have Ck:=upK Gk q2.b;have Cx:=upK Gx q2.b;have Cr:=upK Gr q2.b;have Co:=upK Go q2.b;clear hne0 HW HB k4 x0 yn Gk Gx Gr Go Bk Bx Br Bo hc0 hbw;have HB:=HB6;clear HB6;have Bk:=Ck;clear Ck;have Bx:=Cx;clear Cx;have Br:=Cr;clear Cr;have Bo:=Co;clear Co;have hpl : k = pl Pd.n c.ps xn:=(pl_at HE.out HXy.out hless).symm;have HPL:=hidK hpl;clear hpl;have hq1:=HQ1.out;have hq2:=HQ2.out;have hs4:=HB4.out.size;have hs5 : wr.heap.size ≤ q2.w.heap.size:=q2.b.size;have h4Q : Below w4.heap.size w4 q2.w:=HB4.out.trans (q2.b.mono HB4.out.size);have HQF : Hid (ClFr q2.w ⟨g1,m1,n1,g2,m2,n2,g3,m3,n3,g4,m4,n4,g5,l5,n5⟩ c.raw (fun k => wr3 ≤ k ∧ k < w4.heap.size)):=⟨(HFR.out.n.into (fun k hk s => ⟨s,hk⟩)).below h4Q,(HFR.out.k.into (fun k hk s => ⟨s,hk⟩)).below h4Q,(HFR.out.v.into (fun k hk s => ⟨s,hk⟩)).below h4Q,(HFR.out.x.into (fun k hk s => ⟨s,hk⟩)).below h4Q,(HFR.out.p.into (fun k hk s => ⟨s,hk⟩)).below h4Q⟩;obtain ⟨i0,hi0',hz0,hz1,hz2⟩:=info_parts infoStr;have HIS:=hidK (And.intro hi0' (And.intro hz0 (And.intro hz1 hz2)));obtain ⟨i5,hi5',hz0',hz1',hz2'⟩:=info_parts infopd;have HI0:=hidK (And.intro hi5' (And.intro hz0' (And.intro hz1' hz2')));clear hi0' hz0 hz1 hz2 hi5' hz0' hz1' hz2' h4Q;have HOW0 : Hid ((q2.w.alloc (.cells #[] 9)).ownsRow q2.w.heap.size 9 1 (.slice (some ⟨q2.w.heap.size,0,none⟩) 0 0) 0 []):=World.ownsRow_made q2.w #[] 0 (Nat.le_refl _) (Nat.zero_le _) (by simp);have HXQ:=hidK (HX.out.below HB.out)
     have HBX : Hid (∀ (W : World),Below q2.w.heap.size q2.w W → ∀ (j : Nat) u,(zs.map Value.string)[j]? = some u → ∃ ad : Addr,va = some ad ∧ W.cell? (ad.add j) = some u):=fun W hW j u hu => by
      rw [List.getElem?_map,Option.map_eq_some_iff] at hu;obtain ⟨z,hz,rfl⟩:=hu;obtain ⟨b,o,x,rfl,hb,hx,hc,hsz⟩:=HXQ.out.at (k:=j) (by have:=(List.getElem?_eq_some_iff.1 hz).1;omega);rw [hz] at hx
      cases hx
      exact ⟨_,rfl,by rw [Addr.add_lit];exact (cell_below hW hb).trans hc⟩
     obtain ⟨x0,x1,x2,x3,x4,x5⟩:=cs6 Bx.out;have ltx_6:=lt_of_some Bx.out;have fx3:=froK Bx.out 3
     go_wp2_with (first | (at_builtin;refine wpList_append_any rfl _ _ 29 rfl q2.w.heap.size 9 i0 (.string ⟨#[]⟩) 1 16 Tryz.underlying29 HIS.out.1 HIS.out.2.1 HIS.out.2.2.1 HIS.out.2.2.2 rfl (by decide) _ _ _ rfl (HOW0.out) _ vl _ (zs.map Value.string) rfl (by rw [List.length_map];omega) (fun j u hu => HBX.out _ (below1 _ _) j u hu) (by intro u hu;obtain ⟨z,_,rfl⟩:=List.mem_map.1 hu;rfl) (by unfold maxLen;omega) (by omega) (by simp) ?_))
     intro v9 w9 hown9 hgr9
     replace hown9 : w9.ownsRow q2.w.heap.size 9 1 v9 vl (zs.map Value.string):=by simpa using hown9
     have hb9 : Below q2.w.heap.size q2.w w9:=(below1 q2.w (.cells #[] 9)).grown hgr9 (by simp) (fun g hg => by simp [Value.ownBlock] at hg;omega);obtain ⟨sa,sc,rfl,hT9⟩:=TOwn.of_row hown9 (fun j y hy => HX.out.2.2.2.1 j y hy);have HT9:=hidK hT9;have H9:=hidK hb9;have hs9:=hb9.size;clear hown9 hgr9 hT9 HOW0;clear x0 x1 x2 x3 x4 x5 ltx_6;have Bx9:=upK Bx hb9;have Bo9:=upK Bo hb9;have Br9:=upK Br hb9;clear hb9;have hxl9:=lt_of_some Bx9.out;have fx9:=froK Bx9.out 3;have hol9:=lt_of_some Bo9.out;have HU0 : Hid (Below w.heap.size w (w9.setCell ⟨w.heap.size + 1,3,none⟩ (.slice sa vl sc))):=set_below (by omega) (HB.out.trans (H9.out.mono HB.out.size));have hku : ∀ k9,¬ k9 = w.heap.size + 1 → (w9.setCell ⟨w.heap.size + 1,3,none⟩ (.slice sa vl sc)).heap[k9]? = w9.heap[k9]?:=fun k9 h => Below.heap_setCell _ _ _ _ h
     have hsu : (w9.setCell ⟨w.heap.size + 1,3,none⟩ (.slice sa vl sc)).heap.size = w9.heap.size:=by simp [World.setCell]
     have BxU : Hid ((w9.setCell ⟨w.heap.size + 1,3,none⟩ (.slice sa vl sc)).heap[w.heap.size + 1]? = some (.cells #[.string xn,.int .i64 xc,.string xz,.slice sa vl sc,.string xd,.int .i64 0] 58 (0,0))):=setBlk Bx9.out;have BoU:=hidK ((hku w4.heap.size (by omega)).trans Bo9.out);have BrU:=hidK ((hku (w.heap.size + 1 + 1) (by omega)).trans Br9.out);have hTU : TOwn (w9.setCell ⟨w.heap.size + 1,3,none⟩ (.slice sa vl sc)) sa vl sc zs (fun k => q2.w.heap.size ≤ k):=HT9.out.keep (fun k hk s => hku k (by have s1 : q2.w.heap.size ≤ k:=s;omega)) (fun _ _ s => s);have hkf : ∀ k9,k9 < q2.w.heap.size → wr3 ≤ k9 ∧ k9 < w4.heap.size → (w9.setCell ⟨w.heap.size + 1,3,none⟩ (.slice sa vl sc)).heap[k9]? = q2.w.heap[k9]?:=fun k9 h s => (hku k9 (by omega)).trans (H9.out.block k9 h);have HFU : Hid (ClFr (w9.setCell ⟨w.heap.size + 1,3,none⟩ (.slice sa vl sc)) ⟨g1,m1,n1,g2,m2,n2,g3,m3,n3,g4,m4,n4,g5,l5,n5⟩ c.raw (fun k => wr3 ≤ k ∧ k < w4.heap.size)):=⟨HQF.out.n.keep hkf (fun _ _ s => s),HQF.out.k.keep hkf (fun _ _ s => s),HQF.out.v.keep hkf (fun _ _ s => s),HQF.out.x.keep hkf (fun _ _ s => s),HQF.out.p.keep hkf (fun _ _ s => s)⟩;obtain ⟨vss,H,hV,hcell⟩:=HFU.out.p.recs
     have hvl : vss.length = l5:=by have h6 : vss.length = (c.ps.map pdF).length:=hV.len;rw [List.length_map] at h6;omega
     have HCQ : Hid (∀ (j : Nat) u,vss.flatten[j]? = some u → ∃ b9,g5 = some ⟨b9,0,none⟩ ∧ b9 < (w9.setCell ⟨w.heap.size + 1,3,none⟩ (.slice sa vl sc)).heap.size ∧ (w9.setCell ⟨w.heap.size + 1,3,none⟩ (.slice sa vl sc)).cell? ⟨b9,j,none⟩ = some u):=fun j u hj => by
      obtain ⟨b9,e,_,h3⟩:=hcell j u hj;exact ⟨b9,e,cell_lt h3,h3⟩
     have HVA:=hidK hV.all;have HV1:=hidK hV.one;obtain ⟨gh,hg⟩:=hTU.fr
     have HFIN : Hid (∀ (W : World) v4 k,k = pl Pd.n c.ps xn → Below (w9.setCell ⟨w.heap.size + 1,3,none⟩ (.slice sa vl sc)).heap.size (w9.setCell ⟨w.heap.size + 1,3,none⟩ (.slice sa vl sc)) W → W.ownsRow w9.heap.size 58 6 v4 (l5 + 1) (inAt k [.string xn,.int .i64 xc,.string xz,.slice sa vl sc,.string xd,.int .i64 0] vss).flatten → ∃ a' c',v4 = .slice a' (l5 + 1) c' ∧ ROwn W a' (l5 + 1) c' 6 58 ((inAt (pl Pd.n c.ps xn) (⟨xn,xc,xz,zs,xd,0⟩ : Pd) c.ps).map pdF) (fun k => ((wr3 ≤ k ∧ k < w4.heap.size) ∨ q2.w.heap.size ≤ k) ∨ (w9.setCell ⟨w.heap.size + 1,3,none⟩ (.slice sa vl sc)).heap.size ≤ k)):=fun W v4 k hk hB4 ho4 => pd_ins (x:=(⟨xn,xc,xz,zs,xd,0⟩ : Pd)) (hh:=gh) hV hlc hk (by omega) hB4 (fun i f hf => by rcases i with _ | _ | _ | _ | _ | _ | i <;> simp [pdF] at hf <;> subst hf;exact ⟨_,rfl,rfl,z0⟩;exact ⟨_,rfl,rfl⟩;exact ⟨_,rfl,rfl,z2⟩;exact ⟨_,rfl,hg⟩;exact ⟨_,rfl,rfl,z4⟩;exact ⟨_,rfl,rfl⟩) (fun k e1 e2 => by have e3:=e1.2;have e4 : q2.w.heap.size ≤ k:=e2;omega) ho4
     have HOW : Hid (((w9.setCell ⟨w.heap.size + 1,3,none⟩ (.slice sa vl sc)).alloc (.cells #[] 58)).ownsRow w9.heap.size 58 6 (.slice (some ⟨w9.heap.size,0,none⟩) 0 0) 0 []):=by have h9:=World.ownsRow_made (e:=58) (size:=6) (w9.setCell ⟨w.heap.size + 1,3,none⟩ (.slice sa vl sc)) #[] 0 (Nat.le_refl _) (Nat.zero_le _) (by simp);rw [hsu] at h9;exact h9
     clear hV hcell hTU hg hkf hku HQF;obtain ⟨o0,o1,o2,o3,o4,o5⟩:=cs6 Bo9.out;obtain ⟨x0,x1,x2,x3,x4,x5⟩:=cs6 Bx9.out
     have hne : ¬ w4.heap.size = w.heap.size + 1:=by omega
     have hne' : ¬ w.heap.size + 1 = w4.heap.size:=by omega
     have hik : (k : Int) ≤ n5:=by omega
     have hkn : k ≤ n5:=by omega
     obtain ⟨UU,hUU⟩ : ∃ UU,UU = (w9.setCell ⟨w.heap.size + 1,3,none⟩ (.slice sa vl sc)):=⟨_,rfl⟩
     have hcap : ¬ n5 = k:=by omega
     rcases g5 with _ | ⟨b2,f2,sp⟩
     ·have h1 : vss[0]? = some (vss[0]'(by omega)):=List.getElem?_eq_getElem _
      have h2 : 0 < (vss[0]'(by omega)).length:=by rw [HVA.out 0 _ h1];decide
      obtain ⟨g,e,_⟩:=HCQ.out _ _ (flat_at HVA.out h1 (List.getElem?_eq_getElem h2))
      cases e
     all_goals (
      go_wp2_with (first | (at_builtin;refine wpList_append_any rfl _ _ 38 rfl w9.heap.size 58 i5 (.agg #[.string ⟨#[]⟩,.int .i64 0,.string ⟨#[]⟩,.slice none 0 0,.string ⟨#[]⟩,.int .i64 0]) 6 88 Tryz.underlying38 HI0.out.1 HI0.out.2.1 HI0.out.2.2.1 HI0.out.2.2.2 rfl (by decide) _ _ _ rfl (HOW.out) _ k _ (vss.take k).flatten rfl (take_flat HVA.out (by omega)) (fun j u hu => by obtain ⟨g,e,hgl,h3⟩:=HCQ.out _ _ (take_at hu);cases e <;> exact ⟨_,rfl,by simp only [Addr.add_lit,Nat.zero_add];exact (cell_below (below1 (w9.setCell ⟨w.heap.size + 1,3,none⟩ (.slice sa vl sc)) _) hgl).trans h3⟩) (mem_take_one HV1.out k).1 (by unfold maxLen;omega) (by omega) (by simp only [size1];omega) ?_))
      intro v5 w5 hown5 hgr5
      replace hown5 : w5.ownsRow w9.heap.size 58 6 v5 k (vss.take k).flatten:=by simpa using hown5
      have hb5 : Below (w9.setCell ⟨w.heap.size + 1,3,none⟩ (.slice sa vl sc)).heap.size (w9.setCell ⟨w.heap.size + 1,3,none⟩ (.slice sa vl sc)) w5:=(below1 (w9.setCell ⟨w.heap.size + 1,3,none⟩ (.slice sa vl sc)) (.cells #[] 58)).grown hgr5 (by simp) (fun g hg => by simp only [Value.ownBlock,Option.some.injEq] at hg;omega);obtain ⟨s1,s2,s3,rfl⟩:=owns_slice hown5;have HO5:=hidK hown5;have H5:=hidK hb5;have hs6:=hb5.size;have Bx5:=upK BxU hb5;clear x0 x1 x2 x3 x4 x5;obtain ⟨x0,x1,x2,x3,x4,x5⟩:=cs6 Bx5.out;have hxl:=lt_of_some Bx5.out;clear hown5 hgr5 hb5 HOW o0 o1 o2 o3 o4 o5
      go_wp2_with (first | (at_builtin;refine wpList_append_any rfl _ _ 38 rfl w9.heap.size 58 i5 (.agg #[.string ⟨#[]⟩,.int .i64 0,.string ⟨#[]⟩,.slice none 0 0,.string ⟨#[]⟩,.int .i64 0]) 6 88 Tryz.underlying38 HI0.out.1 HI0.out.2.1 HI0.out.2.2.1 HI0.out.2.2.2 rfl (by decide) _ _ _ rfl (HO5.out.alloc _) _ 1 _ [.string xn,.int .i64 xc,.string xz,.slice sa vl sc,.string xd,.int .i64 0] rfl rfl (fun j u hu => ⟨_,rfl,by rw [Addr.add_lit,Nat.zero_add,cellK (heap_alloc_new w5 _)];simpa using hu⟩) (by simp [Value.oneCell']) (by unfold maxLen;omega) (by omega) (by simp;omega) ?_))
      intro v6 w6 hown6 hgr6;have hb6 : Below (w9.setCell ⟨w.heap.size + 1,3,none⟩ (.slice sa vl sc)).heap.size (w9.setCell ⟨w.heap.size + 1,3,none⟩ (.slice sa vl sc)) w6:=(H5.out.alloc H5.out.size _).grown hgr6 (by simp only [size1];omega) (fun g hg => by have:=(HO5.out.lt g hg).1;omega);obtain ⟨r1,r2,r3,rfl⟩:=owns_slice hown6;have HO6:=hidK hown6;have H6:=hidK hb6;have hs7:=hb6.size;have Bo6:=upK BoU hb6;obtain ⟨o0,o1,o2,o3,o4,o5⟩:=cs6 Bo6.out;have hol:=lt_of_some Bo6.out;clear hown6 hgr6 hb6 x0 x1 x2 x3 x4 x5 hxl
      go_wp2_with (first | (at_builtin;refine wpList_append_any rfl _ _ 38 rfl w9.heap.size 58 i5 (.agg #[.string ⟨#[]⟩,.int .i64 0,.string ⟨#[]⟩,.slice none 0 0,.string ⟨#[]⟩,.int .i64 0]) 6 88 Tryz.underlying38 HI0.out.1 HI0.out.2.1 HI0.out.2.2.1 HI0.out.2.2.2 rfl (by decide) _ _ _ rfl (HO6.out) _ (l5 - k) _ (vss.drop k).flatten rfl (by rw [drop_flat HVA.out,hvl]) (fun j u hu => by first | (rw [List.drop_eq_nil_of_le (by omega)] at hu;simp at hu;done) | (obtain ⟨g,e,hgl,h3⟩:=HCQ.out _ _ (drop_at HVA.out (by omega) hu);cases e <;> exact ⟨_,rfl,by simp only [Addr.add_lit,Nat.zero_add];exact (cell_below H6.out hgl).trans h3⟩)) (mem_take_one HV1.out k).2 (by unfold maxLen;omega) (by omega) (by omega) ?_))
      intro v7 w7 hown7 hgr7;have hb7 : Below (w9.setCell ⟨w.heap.size + 1,3,none⟩ (.slice sa vl sc)).heap.size (w9.setCell ⟨w.heap.size + 1,3,none⟩ (.slice sa vl sc)) w7:=H6.out.grown hgr7 (by omega) (fun g hg => by have:=(HO6.out.lt g hg).1;omega)
      replace hown7 : w7.ownsRow w9.heap.size 58 6 v7 (l5 + 1) (inAt k [.string xn,.int .i64 xc,.string xz,.slice sa vl sc,.string xd,.int .i64 0] vss).flatten:=by
       have e9 : k + 1 + (l5 - k) = l5 + 1:=by omega
       try rw [e9] at hown7
       simpa [inAt] using hown7
      have HU7:=hidK hb7;have HB7:=upB HU0 hb7;obtain ⟨t1,t3,rfl,hR⟩:=HFIN.out w7 v7 k HPL.out hb7 hown7;have HR7:=hidK hR;have hs8:=hb7.size;have Bo7:=upK BoU hb7;have Br7:=upK BrU hb7;clear o0 o1 o2 o3 o4 o5;obtain ⟨o0,o1,o2,o3,o4,o5⟩:=cs6 Bo7.out;obtain ⟨r0,r1,r2,r3,r4,r5,r6,r7⟩:=cs8 Br7.out;have fo0:=froK Bo7.out 0;have fo1:=froK Bo7.out 1;have fo2:=froK Bo7.out 2;have fo3:=froK Bo7.out 3;have fo4:=froK Bo7.out 4;have fo5:=froK Bo7.out 5;obtain ⟨fr0,fr1,fr2,fr3,fr4,fr5,fr6,fr7⟩:=fro8 Br7.out
      have hne1 : ¬ w.heap.size + 1 + 1 = w4.heap.size:=by omega
      have hne2 : ¬ w4.heap.size = w.heap.size + 1 + 1:=by omega
      have hol7:=lt_of_some Bo7.out;have hrl7:=lt_of_some Br7.out;clear hown7 hgr7 hb7 hR hik hkn hcap
      go_wp2
      refine bodyPost_ret (v:=.agg #[.slice g1 m1 n1,.slice g2 m2 n2,.slice g3 m3 n3,.slice g4 m4 n4,.slice t1 (l5 + 1) t3,.int .i64 c.now,.string ⟨#[]⟩,.int .i64 0]) (by simp [results,Tryz.results19,go_sem, *]) rfl ⟨⟨g1,m1,n1,g2,m2,n2,g3,m3,n3,g4,m4,n4,t1,l5 + 1,t3⟩,⟨addP c (⟨xn,xc,xz,zs,xd,0⟩ : Pd),⟨#[]⟩,0⟩,rfl,HV.out,?_,sets8 (show w.heap.size ≤ w.heap.size + 1 + 1 by omega) (set_below (show w.heap.size ≤ w4.heap.size by omega) (HB7.out))⟩
      have hkeep : ∀ k9,wr3 ≤ k9 → ¬ k9 = w4.heap.size → (((((((((w7.setCell ⟨w4.heap.size,4,none⟩ (.slice t1 (l5 + 1) t3)).setCell ⟨w.heap.size + 1 + 1,0,none⟩ (.slice g1 m1 n1)).setCell ⟨w.heap.size + 1 + 1,1,none⟩ (.slice g2 m2 n2)).setCell ⟨w.heap.size + 1 + 1,2,none⟩ (.slice g3 m3 n3)).setCell ⟨w.heap.size + 1 + 1,3,none⟩ (.slice g4 m4 n4)).setCell ⟨w.heap.size + 1 + 1,4,none⟩ (.slice t1 (l5 + 1) t3)).setCell ⟨w.heap.size + 1 + 1,5,none⟩ (.int .i64 c.now)).setCell ⟨w.heap.size + 1 + 1,6,none⟩ (.string ⟨#[]⟩)).setCell ⟨w.heap.size + 1 + 1,7,none⟩ (.int .i64 0)).heap[k9]? = w7.heap[k9]?:=fun k9 h1 h2 => by rw [Below.heap_setCell _ _ _ _ (show k9 ≠ w.heap.size + 1 + 1 by omega),Below.heap_setCell _ _ _ _ (show k9 ≠ w.heap.size + 1 + 1 by omega),Below.heap_setCell _ _ _ _ (show k9 ≠ w.heap.size + 1 + 1 by omega),Below.heap_setCell _ _ _ _ (show k9 ≠ w.heap.size + 1 + 1 by omega),Below.heap_setCell _ _ _ _ (show k9 ≠ w.heap.size + 1 + 1 by omega),Below.heap_setCell _ _ _ _ (show k9 ≠ w.heap.size + 1 + 1 by omega),Below.heap_setCell _ _ _ _ (show k9 ≠ w.heap.size + 1 + 1 by omega),Below.heap_setCell _ _ _ _ (show k9 ≠ w.heap.size + 1 + 1 by omega),Below.heap_setCell _ _ _ _ (show k9 ≠ w4.heap.size by omega)]
      refine ⟨(HFU.out.n.keep (S':=fun _ => True) (fun k hk s => (hkeep k s.1 (by have:=s.2;omega)).trans (HU7.out.block k hk)) (fun _ _ _ => trivial)),(HFU.out.k.keep (S':=fun _ => True) (fun k hk s => (hkeep k s.1 (by have:=s.2;omega)).trans (HU7.out.block k hk)) (fun _ _ _ => trivial)),(HFU.out.v.keep (S':=fun _ => True) (fun k hk s => (hkeep k s.1 (by have:=s.2;omega)).trans (HU7.out.block k hk)) (fun _ _ _ => trivial)),(HFU.out.x.keep (S':=fun _ => True) (fun k hk s => (hkeep k s.1 (by have:=s.2;omega)).trans (HU7.out.block k hk)) (fun _ _ _ => trivial)),(HR7.out.keep (S':=fun _ => True) (fun k hk s => hkeep k (by rcases s with (s | s) | s <;> omega) (by rcases s with (s | s) | s <;> omega)) (fun _ _ _ => trivial))⟩)
    ·have Gk : Hid (wr.heap[w.heap.size]? = some (.cells #[.slice a1 l1 y1,.slice a2 l2 y2,.slice a3 l3 y3,.slice a4 l4 y4,.slice (some ⟨b,o,none⟩) l5 y5,.int .i64 c.now] 40 (0,0))):=Bk.out;have Gx:=Bx;have Gr:=Br;have Go:=Bo;have HW:=HB;have k4:=fun q : Wd wr => q.slot (o:=4) Gk.out rfl;have x0:=fun q : Wd wr => q.slot (o:=0) Gx.out rfl;have yn:=fun q : Wd wr => (q.cell hbw).trans hc0;have hne0:=Wd.ne wr;go_wp2_with fail;refine wp_region_wide (by kernel_rfl) (by kernel_rfl) ?_
     repeat (go_big_quiet_step (first | fail))
     refine wpQuiet_nil ?_;rintro _ ⟨q2,rfl⟩;have HB6:=upB HW q2.b;have Ck:=upK Gk q2.b;have Cx:=upK Gx q2.b;have Cr:=upK Gr q2.b;have Co:=upK Go q2.b;clear hne0 HW HB k4 x0 yn Gk Gx Gr Go Bk Bx Br Bo hc0 hbw;have HB:=HB6;clear HB6;have Bk:=Ck;clear Ck;have Bx:=Cx;clear Cx;have Br:=Cr;clear Cr;have Bo:=Co;clear Co
     go_wp2
     refine ⟨⟨k + 1,by omega,by go_num,fun j z hj hz => ?_,HL.out.trans (q2.b.mono (by omega))⟩,by simp [intOf];omega⟩
     by_cases e : j = k
     ·subst e;rw [HXy.out] at hz;obtain rfl:=Option.some.inj hz;exact hless
     ·exact HE.out j z (by omega) hz
   ·have hk1 : ¬ (k : Int) < l5:=by omega
    have hk2 : decide ((k : Int) < l5) = false:=by simp;omega
    have Gk:=Bk;have Gx:=Bx;have Gr:=Br;have Go:=Bo;have HW:=HB;have k4:=fun q : Wd wr => q.slot (o:=4) Gk.out rfl;have x0:=fun q : Wd wr => q.slot (o:=0) Gx.out rfl;have hne0:=Wd.ne wr;go_wp2_with fail;refine wp_region_wide (by kernel_rfl) (by kernel_rfl) ?_
    repeat (go_big_quiet_step (first | fail))
    refine wpQuiet_nil ?_;rintro _ ⟨q2,rfl⟩;have HB6:=upB HW q2.b;have Ck:=upK Gk q2.b;have Cx:=upK Gx q2.b;have Cr:=upK Gr q2.b;have Co:=upK Go q2.b;clear hne0 HW HB k4 x0 Gk Gx Gr Go Bk Bx Br Bo;have HB:=HB6;clear HB6;have Bk:=Ck;clear Ck;have Bx:=Cx;clear Cx;have Br:=Cr;clear Cr;have Bo:=Co;clear Co
    have hpl : k = pl Pd.n c.ps xn:=by rw [pl_end (nm:=Pd.n) (xs:=c.ps) (t:=xn) (fun j y hy => HE.out j y (by have:=(List.getElem?_eq_some_iff.1 hy).1;omega) hy)];omega
    have HPL:=hidK hpl;clear hpl;have hq1:=HQ1.out;have hq2:=HQ2.out;have hs4:=HB4.out.size;have hs5 : wr.heap.size ≤ q2.w.heap.size:=q2.b.size;have h4Q : Below w4.heap.size w4 q2.w:=HB4.out.trans (q2.b.mono HB4.out.size);have HQF : Hid (ClFr q2.w ⟨g1,m1,n1,g2,m2,n2,g3,m3,n3,g4,m4,n4,g5,l5,n5⟩ c.raw (fun k => wr3 ≤ k ∧ k < w4.heap.size)):=⟨(HFR.out.n.into (fun k hk s => ⟨s,hk⟩)).below h4Q,(HFR.out.k.into (fun k hk s => ⟨s,hk⟩)).below h4Q,(HFR.out.v.into (fun k hk s => ⟨s,hk⟩)).below h4Q,(HFR.out.x.into (fun k hk s => ⟨s,hk⟩)).below h4Q,(HFR.out.p.into (fun k hk s => ⟨s,hk⟩)).below h4Q⟩;obtain ⟨i0,hi0',hz0,hz1,hz2⟩:=info_parts infoStr;have HIS:=hidK (And.intro hi0' (And.intro hz0 (And.intro hz1 hz2)));obtain ⟨i5,hi5',hz0',hz1',hz2'⟩:=info_parts infopd;have HI0:=hidK (And.intro hi5' (And.intro hz0' (And.intro hz1' hz2')));clear hi0' hz0 hz1 hz2 hi5' hz0' hz1' hz2' h4Q;have HOW0 : Hid ((q2.w.alloc (.cells #[] 9)).ownsRow q2.w.heap.size 9 1 (.slice (some ⟨q2.w.heap.size,0,none⟩) 0 0) 0 []):=World.ownsRow_made q2.w #[] 0 (Nat.le_refl _) (Nat.zero_le _) (by simp);have HXQ:=hidK (HX.out.below HB.out)
    have HBX : Hid (∀ (W : World),Below q2.w.heap.size q2.w W → ∀ (j : Nat) u,(zs.map Value.string)[j]? = some u → ∃ ad : Addr,va = some ad ∧ W.cell? (ad.add j) = some u):=fun W hW j u hu => by
     rw [List.getElem?_map,Option.map_eq_some_iff] at hu;obtain ⟨z,hz,rfl⟩:=hu;obtain ⟨b,o,x,rfl,hb,hx,hc,hsz⟩:=HXQ.out.at (k:=j) (by have:=(List.getElem?_eq_some_iff.1 hz).1;omega);rw [hz] at hx
     cases hx
     exact ⟨_,rfl,by rw [Addr.add_lit];exact (cell_below hW hb).trans hc⟩
    obtain ⟨x0,x1,x2,x3,x4,x5⟩:=cs6 Bx.out;have ltx_6:=lt_of_some Bx.out;have fx3:=froK Bx.out 3
    go_wp2_with (first | (at_builtin;refine wpList_append_any rfl _ _ 29 rfl q2.w.heap.size 9 i0 (.string ⟨#[]⟩) 1 16 Tryz.underlying29 HIS.out.1 HIS.out.2.1 HIS.out.2.2.1 HIS.out.2.2.2 rfl (by decide) _ _ _ rfl (HOW0.out) _ vl _ (zs.map Value.string) rfl (by rw [List.length_map];omega) (fun j u hu => HBX.out _ (below1 _ _) j u hu) (by intro u hu;obtain ⟨z,_,rfl⟩:=List.mem_map.1 hu;rfl) (by unfold maxLen;omega) (by omega) (by simp) ?_))
    intro v9 w9 hown9 hgr9
    replace hown9 : w9.ownsRow q2.w.heap.size 9 1 v9 vl (zs.map Value.string):=by simpa using hown9
    have hb9 : Below q2.w.heap.size q2.w w9:=(below1 q2.w (.cells #[] 9)).grown hgr9 (by simp) (fun g hg => by simp [Value.ownBlock] at hg;omega);obtain ⟨sa,sc,rfl,hT9⟩:=TOwn.of_row hown9 (fun j y hy => HX.out.2.2.2.1 j y hy);have HT9:=hidK hT9;have H9:=hidK hb9;have hs9:=hb9.size;clear hown9 hgr9 hT9 HOW0;clear x0 x1 x2 x3 x4 x5 ltx_6;have Bx9:=upK Bx hb9;have Bo9:=upK Bo hb9;have Br9:=upK Br hb9;clear hb9;have hxl9:=lt_of_some Bx9.out;have fx9:=froK Bx9.out 3;have hol9:=lt_of_some Bo9.out;have HU0 : Hid (Below w.heap.size w (w9.setCell ⟨w.heap.size + 1,3,none⟩ (.slice sa vl sc))):=set_below (by omega) (HB.out.trans (H9.out.mono HB.out.size));have hku : ∀ k9,¬ k9 = w.heap.size + 1 → (w9.setCell ⟨w.heap.size + 1,3,none⟩ (.slice sa vl sc)).heap[k9]? = w9.heap[k9]?:=fun k9 h => Below.heap_setCell _ _ _ _ h
    have hsu : (w9.setCell ⟨w.heap.size + 1,3,none⟩ (.slice sa vl sc)).heap.size = w9.heap.size:=by simp [World.setCell]
    have BxU : Hid ((w9.setCell ⟨w.heap.size + 1,3,none⟩ (.slice sa vl sc)).heap[w.heap.size + 1]? = some (.cells #[.string xn,.int .i64 xc,.string xz,.slice sa vl sc,.string xd,.int .i64 0] 58 (0,0))):=setBlk Bx9.out;have BoU:=hidK ((hku w4.heap.size (by omega)).trans Bo9.out);have BrU:=hidK ((hku (w.heap.size + 1 + 1) (by omega)).trans Br9.out);have hTU : TOwn (w9.setCell ⟨w.heap.size + 1,3,none⟩ (.slice sa vl sc)) sa vl sc zs (fun k => q2.w.heap.size ≤ k):=HT9.out.keep (fun k hk s => hku k (by have s1 : q2.w.heap.size ≤ k:=s;omega)) (fun _ _ s => s);have hkf : ∀ k9,k9 < q2.w.heap.size → wr3 ≤ k9 ∧ k9 < w4.heap.size → (w9.setCell ⟨w.heap.size + 1,3,none⟩ (.slice sa vl sc)).heap[k9]? = q2.w.heap[k9]?:=fun k9 h s => (hku k9 (by omega)).trans (H9.out.block k9 h);have HFU : Hid (ClFr (w9.setCell ⟨w.heap.size + 1,3,none⟩ (.slice sa vl sc)) ⟨g1,m1,n1,g2,m2,n2,g3,m3,n3,g4,m4,n4,g5,l5,n5⟩ c.raw (fun k => wr3 ≤ k ∧ k < w4.heap.size)):=⟨HQF.out.n.keep hkf (fun _ _ s => s),HQF.out.k.keep hkf (fun _ _ s => s),HQF.out.v.keep hkf (fun _ _ s => s),HQF.out.x.keep hkf (fun _ _ s => s),HQF.out.p.keep hkf (fun _ _ s => s)⟩;obtain ⟨vss,H,hV,hcell⟩:=HFU.out.p.recs
    have hvl : vss.length = l5:=by have h6 : vss.length = (c.ps.map pdF).length:=hV.len;rw [List.length_map] at h6;omega
    have HCQ : Hid (∀ (j : Nat) u,vss.flatten[j]? = some u → ∃ b9,g5 = some ⟨b9,0,none⟩ ∧ b9 < (w9.setCell ⟨w.heap.size + 1,3,none⟩ (.slice sa vl sc)).heap.size ∧ (w9.setCell ⟨w.heap.size + 1,3,none⟩ (.slice sa vl sc)).cell? ⟨b9,j,none⟩ = some u):=fun j u hj => by
     obtain ⟨b9,e,_,h3⟩:=hcell j u hj;exact ⟨b9,e,cell_lt h3,h3⟩
    have HVA:=hidK hV.all;have HV1:=hidK hV.one;obtain ⟨gh,hg⟩:=hTU.fr
    have HFIN : Hid (∀ (W : World) v4 k,k = pl Pd.n c.ps xn → Below (w9.setCell ⟨w.heap.size + 1,3,none⟩ (.slice sa vl sc)).heap.size (w9.setCell ⟨w.heap.size + 1,3,none⟩ (.slice sa vl sc)) W → W.ownsRow w9.heap.size 58 6 v4 (l5 + 1) (inAt k [.string xn,.int .i64 xc,.string xz,.slice sa vl sc,.string xd,.int .i64 0] vss).flatten → ∃ a' c',v4 = .slice a' (l5 + 1) c' ∧ ROwn W a' (l5 + 1) c' 6 58 ((inAt (pl Pd.n c.ps xn) (⟨xn,xc,xz,zs,xd,0⟩ : Pd) c.ps).map pdF) (fun k => ((wr3 ≤ k ∧ k < w4.heap.size) ∨ q2.w.heap.size ≤ k) ∨ (w9.setCell ⟨w.heap.size + 1,3,none⟩ (.slice sa vl sc)).heap.size ≤ k)):=fun W v4 k hk hB4 ho4 => pd_ins (x:=(⟨xn,xc,xz,zs,xd,0⟩ : Pd)) (hh:=gh) hV hlc hk (by omega) hB4 (fun i f hf => by rcases i with _ | _ | _ | _ | _ | _ | i <;> simp [pdF] at hf <;> subst hf;exact ⟨_,rfl,rfl,z0⟩;exact ⟨_,rfl,rfl⟩;exact ⟨_,rfl,rfl,z2⟩;exact ⟨_,rfl,hg⟩;exact ⟨_,rfl,rfl,z4⟩;exact ⟨_,rfl,rfl⟩) (fun k e1 e2 => by have e3:=e1.2;have e4 : q2.w.heap.size ≤ k:=e2;omega) ho4
    have HOW : Hid (((w9.setCell ⟨w.heap.size + 1,3,none⟩ (.slice sa vl sc)).alloc (.cells #[] 58)).ownsRow w9.heap.size 58 6 (.slice (some ⟨w9.heap.size,0,none⟩) 0 0) 0 []):=by have h9:=World.ownsRow_made (e:=58) (size:=6) (w9.setCell ⟨w.heap.size + 1,3,none⟩ (.slice sa vl sc)) #[] 0 (Nat.le_refl _) (Nat.zero_le _) (by simp);rw [hsu] at h9;exact h9
    clear hV hcell hTU hg hkf hku HQF;obtain ⟨o0,o1,o2,o3,o4,o5⟩:=cs6 Bo9.out;obtain ⟨x0,x1,x2,x3,x4,x5⟩:=cs6 Bx9.out
    have hne : ¬ w4.heap.size = w.heap.size + 1:=by omega
    have hne' : ¬ w.heap.size + 1 = w4.heap.size:=by omega
    have hik : (k : Int) ≤ n5:=by omega
    have hkn : k ≤ n5:=by omega
    obtain ⟨UU,hUU⟩ : ∃ UU,UU = (w9.setCell ⟨w.heap.size + 1,3,none⟩ (.slice sa vl sc)):=⟨_,rfl⟩
    rcases g5 with _ | ⟨b2,f2,sp⟩
    ·have hl0 : l5 = 0:=Classical.byContradiction fun hne0 => by
      have h1 : vss[0]? = some (vss[0]'(by omega)):=List.getElem?_eq_getElem _
      have h2 : 0 < (vss[0]'(by omega)).length:=by rw [HVA.out 0 _ h1];decide
      obtain ⟨g,e,_⟩:=HCQ.out _ _ (flat_at HVA.out h1 (List.getElem?_eq_getElem h2))
      cases e
     obtain rfl : k = 0:=by omega
     subst hl0
     by_cases hcap : n5 = 0
     all_goals (
      go_wp2_with (first | (at_builtin;refine wpList_append_any rfl _ _ 38 rfl w9.heap.size 58 i5 (.agg #[.string ⟨#[]⟩,.int .i64 0,.string ⟨#[]⟩,.slice none 0 0,.string ⟨#[]⟩,.int .i64 0]) 6 88 Tryz.underlying38 HI0.out.1 HI0.out.2.1 HI0.out.2.2.1 HI0.out.2.2.2 rfl (by decide) _ _ _ rfl (HOW.out) _ 0 _ (vss.take 0).flatten rfl (take_flat HVA.out (by omega)) (fun j u hu => by obtain ⟨g,e,hgl,h3⟩:=HCQ.out _ _ (take_at hu);cases e <;> exact ⟨_,rfl,by simp only [Addr.add_lit,Nat.zero_add];exact (cell_below (below1 (w9.setCell ⟨w.heap.size + 1,3,none⟩ (.slice sa vl sc)) _) hgl).trans h3⟩) (mem_take_one HV1.out 0).1 (by unfold maxLen;omega) (by omega) (by simp only [size1];omega) ?_))
      intro v5 w5 hown5 hgr5
      replace hown5 : w5.ownsRow w9.heap.size 58 6 v5 0 (vss.take 0).flatten:=by simpa using hown5
      have hb5 : Below (w9.setCell ⟨w.heap.size + 1,3,none⟩ (.slice sa vl sc)).heap.size (w9.setCell ⟨w.heap.size + 1,3,none⟩ (.slice sa vl sc)) w5:=(below1 (w9.setCell ⟨w.heap.size + 1,3,none⟩ (.slice sa vl sc)) (.cells #[] 58)).grown hgr5 (by simp) (fun g hg => by simp only [Value.ownBlock,Option.some.injEq] at hg;omega);obtain ⟨s1,s2,s3,rfl⟩:=owns_slice hown5;have HO5:=hidK hown5;have H5:=hidK hb5;have hs6:=hb5.size;have Bx5:=upK BxU hb5;clear x0 x1 x2 x3 x4 x5;obtain ⟨x0,x1,x2,x3,x4,x5⟩:=cs6 Bx5.out;have hxl:=lt_of_some Bx5.out;clear hown5 hgr5 hb5 HOW o0 o1 o2 o3 o4 o5
      go_wp2_with (first | (at_builtin;refine wpList_append_any rfl _ _ 38 rfl w9.heap.size 58 i5 (.agg #[.string ⟨#[]⟩,.int .i64 0,.string ⟨#[]⟩,.slice none 0 0,.string ⟨#[]⟩,.int .i64 0]) 6 88 Tryz.underlying38 HI0.out.1 HI0.out.2.1 HI0.out.2.2.1 HI0.out.2.2.2 rfl (by decide) _ _ _ rfl (HO5.out.alloc _) _ 1 _ [.string xn,.int .i64 xc,.string xz,.slice sa vl sc,.string xd,.int .i64 0] rfl rfl (fun j u hu => ⟨_,rfl,by rw [Addr.add_lit,Nat.zero_add,cellK (heap_alloc_new w5 _)];simpa using hu⟩) (by simp [Value.oneCell']) (by unfold maxLen;omega) (by omega) (by simp;omega) ?_))
      intro v6 w6 hown6 hgr6;have hb6 : Below (w9.setCell ⟨w.heap.size + 1,3,none⟩ (.slice sa vl sc)).heap.size (w9.setCell ⟨w.heap.size + 1,3,none⟩ (.slice sa vl sc)) w6:=(H5.out.alloc H5.out.size _).grown hgr6 (by simp only [size1];omega) (fun g hg => by have:=(HO5.out.lt g hg).1;omega);obtain ⟨r1,r2,r3,rfl⟩:=owns_slice hown6;have HO6:=hidK hown6;have H6:=hidK hb6;have hs7:=hb6.size;have Bo6:=upK BoU hb6;obtain ⟨o0,o1,o2,o3,o4,o5⟩:=cs6 Bo6.out;have hol:=lt_of_some Bo6.out;clear hown6 hgr6 hb6 x0 x1 x2 x3 x4 x5 hxl
      go_wp2_with (first | (at_builtin;refine wpList_append_any rfl _ _ 38 rfl w9.heap.size 58 i5 (.agg #[.string ⟨#[]⟩,.int .i64 0,.string ⟨#[]⟩,.slice none 0 0,.string ⟨#[]⟩,.int .i64 0]) 6 88 Tryz.underlying38 HI0.out.1 HI0.out.2.1 HI0.out.2.2.1 HI0.out.2.2.2 rfl (by decide) _ _ _ rfl (HO6.out) _ (0 - 0) _ (vss.drop 0).flatten rfl (by rw [drop_flat HVA.out,hvl]) (fun j u hu => by first | (rw [List.drop_eq_nil_of_le (by omega)] at hu;simp at hu;done) | (obtain ⟨g,e,hgl,h3⟩:=HCQ.out _ _ (drop_at HVA.out (by omega) hu);cases e <;> exact ⟨_,rfl,by simp only [Addr.add_lit,Nat.zero_add];exact (cell_below H6.out hgl).trans h3⟩)) (mem_take_one HV1.out 0).2 (by unfold maxLen;omega) (by omega) (by omega) ?_))
      intro v7 w7 hown7 hgr7;have hb7 : Below (w9.setCell ⟨w.heap.size + 1,3,none⟩ (.slice sa vl sc)).heap.size (w9.setCell ⟨w.heap.size + 1,3,none⟩ (.slice sa vl sc)) w7:=H6.out.grown hgr7 (by omega) (fun g hg => by have:=(HO6.out.lt g hg).1;omega)
      replace hown7 : w7.ownsRow w9.heap.size 58 6 v7 (1) (inAt 0 [.string xn,.int .i64 xc,.string xz,.slice sa vl sc,.string xd,.int .i64 0] vss).flatten:=by
       have e9 : 0 + 1 + (0 - 0) = 1:=by omega
       try rw [e9] at hown7
       simpa [inAt] using hown7
      have HU7:=hidK hb7;have HB7:=upB HU0 hb7;obtain ⟨t1,t3,rfl,hR⟩:=HFIN.out w7 v7 0 HPL.out hb7 hown7;have HR7:=hidK hR;have hs8:=hb7.size;have Bo7:=upK BoU hb7;have Br7:=upK BrU hb7;clear o0 o1 o2 o3 o4 o5;obtain ⟨o0,o1,o2,o3,o4,o5⟩:=cs6 Bo7.out;obtain ⟨r0,r1,r2,r3,r4,r5,r6,r7⟩:=cs8 Br7.out;have fo0:=froK Bo7.out 0;have fo1:=froK Bo7.out 1;have fo2:=froK Bo7.out 2;have fo3:=froK Bo7.out 3;have fo4:=froK Bo7.out 4;have fo5:=froK Bo7.out 5;obtain ⟨fr0,fr1,fr2,fr3,fr4,fr5,fr6,fr7⟩:=fro8 Br7.out
      have hne1 : ¬ w.heap.size + 1 + 1 = w4.heap.size:=by omega
      have hne2 : ¬ w4.heap.size = w.heap.size + 1 + 1:=by omega
      have hol7:=lt_of_some Bo7.out;have hrl7:=lt_of_some Br7.out;clear hown7 hgr7 hb7 hR hik hkn hcap
      go_wp2
      refine bodyPost_ret (v:=.agg #[.slice g1 m1 n1,.slice g2 m2 n2,.slice g3 m3 n3,.slice g4 m4 n4,.slice t1 (1) t3,.int .i64 c.now,.string ⟨#[]⟩,.int .i64 0]) (by simp [results,Tryz.results19,go_sem, *]) rfl ⟨⟨g1,m1,n1,g2,m2,n2,g3,m3,n3,g4,m4,n4,t1,1,t3⟩,⟨addP c (⟨xn,xc,xz,zs,xd,0⟩ : Pd),⟨#[]⟩,0⟩,rfl,HV.out,?_,sets8 (show w.heap.size ≤ w.heap.size + 1 + 1 by omega) (set_below (show w.heap.size ≤ w4.heap.size by omega) (HB7.out))⟩
      have hkeep : ∀ k9,wr3 ≤ k9 → ¬ k9 = w4.heap.size → (((((((((w7.setCell ⟨w4.heap.size,4,none⟩ (.slice t1 (1) t3)).setCell ⟨w.heap.size + 1 + 1,0,none⟩ (.slice g1 m1 n1)).setCell ⟨w.heap.size + 1 + 1,1,none⟩ (.slice g2 m2 n2)).setCell ⟨w.heap.size + 1 + 1,2,none⟩ (.slice g3 m3 n3)).setCell ⟨w.heap.size + 1 + 1,3,none⟩ (.slice g4 m4 n4)).setCell ⟨w.heap.size + 1 + 1,4,none⟩ (.slice t1 (1) t3)).setCell ⟨w.heap.size + 1 + 1,5,none⟩ (.int .i64 c.now)).setCell ⟨w.heap.size + 1 + 1,6,none⟩ (.string ⟨#[]⟩)).setCell ⟨w.heap.size + 1 + 1,7,none⟩ (.int .i64 0)).heap[k9]? = w7.heap[k9]?:=fun k9 h1 h2 => by rw [Below.heap_setCell _ _ _ _ (show k9 ≠ w.heap.size + 1 + 1 by omega),Below.heap_setCell _ _ _ _ (show k9 ≠ w.heap.size + 1 + 1 by omega),Below.heap_setCell _ _ _ _ (show k9 ≠ w.heap.size + 1 + 1 by omega),Below.heap_setCell _ _ _ _ (show k9 ≠ w.heap.size + 1 + 1 by omega),Below.heap_setCell _ _ _ _ (show k9 ≠ w.heap.size + 1 + 1 by omega),Below.heap_setCell _ _ _ _ (show k9 ≠ w.heap.size + 1 + 1 by omega),Below.heap_setCell _ _ _ _ (show k9 ≠ w.heap.size + 1 + 1 by omega),Below.heap_setCell _ _ _ _ (show k9 ≠ w.heap.size + 1 + 1 by omega),Below.heap_setCell _ _ _ _ (show k9 ≠ w4.heap.size by omega)]
      refine ⟨(HFU.out.n.keep (S':=fun _ => True) (fun k hk s => (hkeep k s.1 (by have:=s.2;omega)).trans (HU7.out.block k hk)) (fun _ _ _ => trivial)),(HFU.out.k.keep (S':=fun _ => True) (fun k hk s => (hkeep k s.1 (by have:=s.2;omega)).trans (HU7.out.block k hk)) (fun _ _ _ => trivial)),(HFU.out.v.keep (S':=fun _ => True) (fun k hk s => (hkeep k s.1 (by have:=s.2;omega)).trans (HU7.out.block k hk)) (fun _ _ _ => trivial)),(HFU.out.x.keep (S':=fun _ => True) (fun k hk s => (hkeep k s.1 (by have:=s.2;omega)).trans (HU7.out.block k hk)) (fun _ _ _ => trivial)),(HR7.out.keep (S':=fun _ => True) (fun k hk s => hkeep k (by rcases s with (s | s) | s <;> omega) (by rcases s with (s | s) | s <;> omega)) (fun _ _ _ => trivial))⟩)
    by_cases hcap : n5 = k
    all_goals (
     go_wp2_with (first | (at_builtin;refine wpList_append_any rfl _ _ 38 rfl w9.heap.size 58 i5 (.agg #[.string ⟨#[]⟩,.int .i64 0,.string ⟨#[]⟩,.slice none 0 0,.string ⟨#[]⟩,.int .i64 0]) 6 88 Tryz.underlying38 HI0.out.1 HI0.out.2.1 HI0.out.2.2.1 HI0.out.2.2.2 rfl (by decide) _ _ _ rfl (HOW.out) _ k _ (vss.take k).flatten rfl (take_flat HVA.out (by omega)) (fun j u hu => by obtain ⟨g,e,hgl,h3⟩:=HCQ.out _ _ (take_at hu);cases e <;> exact ⟨_,rfl,by simp only [Addr.add_lit,Nat.zero_add];exact (cell_below (below1 (w9.setCell ⟨w.heap.size + 1,3,none⟩ (.slice sa vl sc)) _) hgl).trans h3⟩) (mem_take_one HV1.out k).1 (by unfold maxLen;omega) (by omega) (by simp only [size1];omega) ?_))
     intro v5 w5 hown5 hgr5
     replace hown5 : w5.ownsRow w9.heap.size 58 6 v5 k (vss.take k).flatten:=by simpa using hown5
     have hb5 : Below (w9.setCell ⟨w.heap.size + 1,3,none⟩ (.slice sa vl sc)).heap.size (w9.setCell ⟨w.heap.size + 1,3,none⟩ (.slice sa vl sc)) w5:=(below1 (w9.setCell ⟨w.heap.size + 1,3,none⟩ (.slice sa vl sc)) (.cells #[] 58)).grown hgr5 (by simp) (fun g hg => by simp only [Value.ownBlock,Option.some.injEq] at hg;omega);obtain ⟨s1,s2,s3,rfl⟩:=owns_slice hown5;have HO5:=hidK hown5;have H5:=hidK hb5;have hs6:=hb5.size;have Bx5:=upK BxU hb5;clear x0 x1 x2 x3 x4 x5;obtain ⟨x0,x1,x2,x3,x4,x5⟩:=cs6 Bx5.out;have hxl:=lt_of_some Bx5.out;clear hown5 hgr5 hb5 HOW o0 o1 o2 o3 o4 o5
     go_wp2_with (first | (at_builtin;refine wpList_append_any rfl _ _ 38 rfl w9.heap.size 58 i5 (.agg #[.string ⟨#[]⟩,.int .i64 0,.string ⟨#[]⟩,.slice none 0 0,.string ⟨#[]⟩,.int .i64 0]) 6 88 Tryz.underlying38 HI0.out.1 HI0.out.2.1 HI0.out.2.2.1 HI0.out.2.2.2 rfl (by decide) _ _ _ rfl (HO5.out.alloc _) _ 1 _ [.string xn,.int .i64 xc,.string xz,.slice sa vl sc,.string xd,.int .i64 0] rfl rfl (fun j u hu => ⟨_,rfl,by rw [Addr.add_lit,Nat.zero_add,cellK (heap_alloc_new w5 _)];simpa using hu⟩) (by simp [Value.oneCell']) (by unfold maxLen;omega) (by omega) (by simp;omega) ?_))
     intro v6 w6 hown6 hgr6;have hb6 : Below (w9.setCell ⟨w.heap.size + 1,3,none⟩ (.slice sa vl sc)).heap.size (w9.setCell ⟨w.heap.size + 1,3,none⟩ (.slice sa vl sc)) w6:=(H5.out.alloc H5.out.size _).grown hgr6 (by simp only [size1];omega) (fun g hg => by have:=(HO5.out.lt g hg).1;omega);obtain ⟨r1,r2,r3,rfl⟩:=owns_slice hown6;have HO6:=hidK hown6;have H6:=hidK hb6;have hs7:=hb6.size;have Bo6:=upK BoU hb6;obtain ⟨o0,o1,o2,o3,o4,o5⟩:=cs6 Bo6.out;have hol:=lt_of_some Bo6.out;clear hown6 hgr6 hb6 x0 x1 x2 x3 x4 x5 hxl
     go_wp2_with (first | (at_builtin;refine wpList_append_any rfl _ _ 38 rfl w9.heap.size 58 i5 (.agg #[.string ⟨#[]⟩,.int .i64 0,.string ⟨#[]⟩,.slice none 0 0,.string ⟨#[]⟩,.int .i64 0]) 6 88 Tryz.underlying38 HI0.out.1 HI0.out.2.1 HI0.out.2.2.1 HI0.out.2.2.2 rfl (by decide) _ _ _ rfl (HO6.out) _ (l5 - k) _ (vss.drop k).flatten rfl (by rw [drop_flat HVA.out,hvl]) (fun j u hu => by first | (rw [List.drop_eq_nil_of_le (by omega)] at hu;simp at hu;done) | (obtain ⟨g,e,hgl,h3⟩:=HCQ.out _ _ (drop_at HVA.out (by omega) hu);cases e <;> exact ⟨_,rfl,by simp only [Addr.add_lit,Nat.zero_add];exact (cell_below H6.out hgl).trans h3⟩)) (mem_take_one HV1.out k).2 (by unfold maxLen;omega) (by omega) (by omega) ?_))
     intro v7 w7 hown7 hgr7;have hb7 : Below (w9.setCell ⟨w.heap.size + 1,3,none⟩ (.slice sa vl sc)).heap.size (w9.setCell ⟨w.heap.size + 1,3,none⟩ (.slice sa vl sc)) w7:=H6.out.grown hgr7 (by omega) (fun g hg => by have:=(HO6.out.lt g hg).1;omega)
     replace hown7 : w7.ownsRow w9.heap.size 58 6 v7 (l5 + 1) (inAt k [.string xn,.int .i64 xc,.string xz,.slice sa vl sc,.string xd,.int .i64 0] vss).flatten:=by
      have e9 : k + 1 + (l5 - k) = l5 + 1:=by omega
      try rw [e9] at hown7
      simpa [inAt] using hown7
     have HU7:=hidK hb7;have HB7:=upB HU0 hb7;obtain ⟨t1,t3,rfl,hR⟩:=HFIN.out w7 v7 k HPL.out hb7 hown7;have HR7:=hidK hR;have hs8:=hb7.size;have Bo7:=upK BoU hb7;have Br7:=upK BrU hb7;clear o0 o1 o2 o3 o4 o5;obtain ⟨o0,o1,o2,o3,o4,o5⟩:=cs6 Bo7.out;obtain ⟨r0,r1,r2,r3,r4,r5,r6,r7⟩:=cs8 Br7.out;have fo0:=froK Bo7.out 0;have fo1:=froK Bo7.out 1;have fo2:=froK Bo7.out 2;have fo3:=froK Bo7.out 3;have fo4:=froK Bo7.out 4;have fo5:=froK Bo7.out 5;obtain ⟨fr0,fr1,fr2,fr3,fr4,fr5,fr6,fr7⟩:=fro8 Br7.out
     have hne1 : ¬ w.heap.size + 1 + 1 = w4.heap.size:=by omega
     have hne2 : ¬ w4.heap.size = w.heap.size + 1 + 1:=by omega
     have hol7:=lt_of_some Bo7.out;have hrl7:=lt_of_some Br7.out;clear hown7 hgr7 hb7 hR hik hkn hcap
     go_wp2
     refine bodyPost_ret (v:=.agg #[.slice g1 m1 n1,.slice g2 m2 n2,.slice g3 m3 n3,.slice g4 m4 n4,.slice t1 (l5 + 1) t3,.int .i64 c.now,.string ⟨#[]⟩,.int .i64 0]) (by simp [results,Tryz.results19,go_sem, *]) rfl ⟨⟨g1,m1,n1,g2,m2,n2,g3,m3,n3,g4,m4,n4,t1,l5 + 1,t3⟩,⟨addP c (⟨xn,xc,xz,zs,xd,0⟩ : Pd),⟨#[]⟩,0⟩,rfl,HV.out,?_,sets8 (show w.heap.size ≤ w.heap.size + 1 + 1 by omega) (set_below (show w.heap.size ≤ w4.heap.size by omega) (HB7.out))⟩
     have hkeep : ∀ k9,wr3 ≤ k9 → ¬ k9 = w4.heap.size → (((((((((w7.setCell ⟨w4.heap.size,4,none⟩ (.slice t1 (l5 + 1) t3)).setCell ⟨w.heap.size + 1 + 1,0,none⟩ (.slice g1 m1 n1)).setCell ⟨w.heap.size + 1 + 1,1,none⟩ (.slice g2 m2 n2)).setCell ⟨w.heap.size + 1 + 1,2,none⟩ (.slice g3 m3 n3)).setCell ⟨w.heap.size + 1 + 1,3,none⟩ (.slice g4 m4 n4)).setCell ⟨w.heap.size + 1 + 1,4,none⟩ (.slice t1 (l5 + 1) t3)).setCell ⟨w.heap.size + 1 + 1,5,none⟩ (.int .i64 c.now)).setCell ⟨w.heap.size + 1 + 1,6,none⟩ (.string ⟨#[]⟩)).setCell ⟨w.heap.size + 1 + 1,7,none⟩ (.int .i64 0)).heap[k9]? = w7.heap[k9]?:=fun k9 h1 h2 => by rw [Below.heap_setCell _ _ _ _ (show k9 ≠ w.heap.size + 1 + 1 by omega),Below.heap_setCell _ _ _ _ (show k9 ≠ w.heap.size + 1 + 1 by omega),Below.heap_setCell _ _ _ _ (show k9 ≠ w.heap.size + 1 + 1 by omega),Below.heap_setCell _ _ _ _ (show k9 ≠ w.heap.size + 1 + 1 by omega),Below.heap_setCell _ _ _ _ (show k9 ≠ w.heap.size + 1 + 1 by omega),Below.heap_setCell _ _ _ _ (show k9 ≠ w.heap.size + 1 + 1 by omega),Below.heap_setCell _ _ _ _ (show k9 ≠ w.heap.size + 1 + 1 by omega),Below.heap_setCell _ _ _ _ (show k9 ≠ w.heap.size + 1 + 1 by omega),Below.heap_setCell _ _ _ _ (show k9 ≠ w4.heap.size by omega)]
     refine ⟨(HFU.out.n.keep (S':=fun _ => True) (fun k hk s => (hkeep k s.1 (by have:=s.2;omega)).trans (HU7.out.block k hk)) (fun _ _ _ => trivial)),(HFU.out.k.keep (S':=fun _ => True) (fun k hk s => (hkeep k s.1 (by have:=s.2;omega)).trans (HU7.out.block k hk)) (fun _ _ _ => trivial)),(HFU.out.v.keep (S':=fun _ => True) (fun k hk s => (hkeep k s.1 (by have:=s.2;omega)).trans (HU7.out.block k hk)) (fun _ _ _ => trivial)),(HFU.out.x.keep (S':=fun _ => True) (fun k hk s => (hkeep k s.1 (by have:=s.2;omega)).trans (HU7.out.block k hk)) (fun _ _ _ => trivial)),(HR7.out.keep (S':=fun _ => True) (fun k hk s => hkeep k (by rcases s with (s | s) | s <;> omega) (by rcases s with (s | s) | s <;> omega)) (fun _ _ _ => trivial))⟩)

theorem saddP_any (d : Ad) (c : Cl) (x : Pd) (va : Option Addr) (vl vc : Nat) (w : World) (hr : ClRow w d c.raw) (hx : TxRow w va vl vc x.zs) (z0 : x.n.size ≤ 9223372036854775807) (z2 : x.z.size ≤ 9223372036854775807) (z4 : x.d.size ≤ 9223372036854775807) :
  Calls Tryz.prog 19 #[.agg #[.slice d.a1 d.l1 d.c1,.slice d.a2 d.l2 d.c2,.slice d.a3 d.l3 d.c3,.slice d.a4 d.l4 d.c4,.slice d.a5 d.l5 d.c5,.int .i64 c.now],.agg #[.string x.n,.int .i64 x.c,.string x.z,.slice va vl vc,.string x.d,.int .i64 x.p]] w (OutF (AddPodIs c x) w):=by
 by_cases hn : x.p = 0
 ·obtain ⟨xn,xc,xz,zs,xd,xp⟩:=x;obtain rfl : xp = 0:=hn;exact saddP_good d c xn xc xz zs xd va vl vc w hr hx z0 z2 z4
 ·exact saddP_bad d c x va vl vc w hr hx z0 z2 z4 hn

end Rc
end Go.Proofs.YtcogpoamhflgjaaGreatDoor

namespace Go.Proofs.YtcogpoamhflgjaaGreatDoor
open Go.RowKit Rc Mk

def AddPodClV (c : Cl) : Fact:=fun v w => ∃ d : Ad,v = .agg #[.slice d.a1 d.l1 d.c1,.slice d.a2 d.l2 d.c2,.slice d.a3 d.l3 d.c3,.slice d.a4 d.l4 d.c4,.slice d.a5 d.l5 d.c5,.int .i64 c.now] ∧ ClRow w d c.raw
theorem AddPodClV.mono (c : Cl) : Fact.Mono (AddPodClV c):=by
 rintro v w w' ⟨d,h1,h2⟩ hb;exact ⟨d,h1,h2.below hb⟩
theorem tx_of_block {w : World} {g len : Nat} {zs : List ByteArray} {va : Option Addr} {vc : Nat} {w0 : World} (h0 : TxRow w0 va len vc zs) (h : w.heap[g]? = some (.cells (zs.map Value.string).toArray 9 (0,0))) : TxRow w (some ⟨g,0,none⟩) len len zs:=by
 refine ⟨h0.1,Nat.le_refl _,Nat.le_trans h0.2.1 h0.2.2.1,h0.2.2.2.1,.inr ⟨g,0,rfl,lt_of_some h,fun j x hx => ?_⟩⟩;rw [Nat.zero_add,cellK h]
 simp [hx]
theorem toPod_ex (x : Pd) (va : Option Addr) (vl vc : Nat) (w : World) (hr : TxRow w va vl vc x.zs) (hl : vl ≤ 1048576) :
  Calls Tryz.prog 20 #[.agg #[.string x.n,.int .i64 x.c,.string x.z,.slice va vl vc,.string x.d,.int .i64 x.p]] w fun e w' => ∃ g,e = .returned (.agg #[.string x.n,.int .i64 x.c,.string x.z,.slice (some ⟨g,0,none⟩) vl vl,.string x.d,.int .i64 x.p]) ∧ w.heap.size ≤ g ∧ w'.heap[g]? = some (.cells (x.zs.map Value.string).toArray 9 (0,0)) ∧ Below w.heap.size w w':=by
 refine (toPod_any x.n x.c x.z va vl vc x.zs x.d x.p w hr hl).mono ?_;rintro e w' ⟨rfl,h1,h2⟩;exact ⟨_,rfl,by omega,h1,h2⟩
def PodRcV (x : Pd) : Fact:=fun v w => ∃ a l c,v = .agg #[.string x.n,.int .i64 x.c,.string x.z,.slice a l c,.string x.d,.int .i64 x.p] ∧ TxRow w a l c x.zs
theorem PodRcV.mono (x : Pd) : Fact.Mono (PodRcV x):=by
 rintro v w w' ⟨a,l,c,h1,h2⟩ hb;exact ⟨a,l,c,h1,h2.below hb⟩

theorem markPod_at (x : Pd) (g len cap u : Nat) (cur : Array Value) (w : World) (hg : w.heap[g]? = some (.cells cur 9 (0,0))) (hl : len ≤ cur.size) (hu : 0 < u) (hk2 : u + len ≤ 1152921504606846976) :
  Calls Tryz.prog 23 #[.agg #[.string x.n,.int .i64 x.c,.string x.z,.slice (some ⟨g,0,none⟩) len cap,.string x.d,.int .i64 x.p],.int .i64 u] w fun e w' => e = .returned (.int .i64 ((u + len : Nat) : Int)) ∧ KeptS (fun k => k = g) w w':=by
 have hlt:=lt_of_some hg;have HG:=hidK hg;have HL:=hidK hlt;clear hg hlt
 go_enter Tryz.func23,Tryz.ntmps23
 go_wp2_with fail;refine (markS_any g len cap u cur _ ((Below.heap_alloc _ _ _ HL.out).trans HG.out) hl hu hk2).mono ?_;rintro e w1 ⟨rfl,hk,cu,hg1,hm1,hs1⟩;have hk':=(Kept.of_below (g:=g) (below1 w _)).trans hk;have HA : Hid (KeptS (fun k => k = g) w w1):=⟨hk'.os,hk'.tape,hk'.output,hk'.size,hk'.block⟩;clear hk hg1 hm1 hs1 hk';go_wp2_with fail;go_ret;exact ⟨rfl,HA.out⟩

set_option linter.unusedVariables false in
theorem addPod_walk (d : Ad) (c : Cl) (x : Pd) (va : Option Addr) (vl vc : Nat) (E : Nat → Addr) (w : World) (hr : ClRow w d c.raw) (hx : TxRow w va vl vc x.zs) (z0 : x.n.size ≤ 9223372036854775807) (z2 : x.z.size ≤ 9223372036854775807) (z4 : x.d.size ≤ 9223372036854775807) (hG : Ers w E) :
  Calls Tryz.prog 4 #[.agg #[.slice d.a1 d.l1 d.c1,.slice d.a2 d.l2 d.c2,.slice d.a3 d.l3 d.c3,.slice d.a4 d.l4 d.c4,.slice d.a5 d.l5 d.c5,.int .i64 c.now],.agg #[.string x.n,.int .i64 x.c,.string x.z,.slice va vl vc,.string x.d,.int .i64 x.p]] w fun e w' => e = .returned (.bool true) ∧ Below w.heap.size w w':=by
 have HR:=hidK hr;have HE:=hidK hG;have HX:=hidK hx;have HB:=hidK (Below.refl w.heap.size w);clear hr hG hx
 go_enter Tryz.func4,Tryz.ntmps4
 go_wp2_with fail;refine (szCluster_any d c _ (HR.out.below (HB.out.trans ((below2 _ _ _).mono HB.out.size)))).mono ?_;rintro e w1 ⟨r,rfl,hi,hb⟩;obtain ⟨HA0,HA1,hbx⟩:=slots2 hb;have Bk:=hidK HA0;have By:=hidK HA1;replace HB:=upB HB hbx;clear hb hbx HA0 HA1
 rcases hi with rfl | ⟨hr0,hrm,hft⟩
 ·obtain ⟨k0,k1,k2,k3,k4,k5⟩:=cs6 Bk.out;have ltk_1:=lt_of_some Bk.out;obtain ⟨y0,y1,y2,y3,y4,y5⟩:=cs6 By.out;have lty_1:=lt_of_some By.out
  go_wp2
  go_ret;exact ⟨rfl,HB.out⟩
 have HF:=hidK hft;clear hft;obtain ⟨k0,k1,k2,k3,k4,k5⟩:=cs6 Bk.out;have ltk_1:=lt_of_some Bk.out;obtain ⟨y0,y1,y2,y3,y4,y5⟩:=cs6 By.out;have lty_1:=lt_of_some By.out;go_wp2_with fail;refine (szPod_any x.n x.c x.z va vl vc x.zs x.d x.p r _ z0 z2 z4 (HX.out.below HB.out) hr0 hrm).mono ?_;rintro e w2 ⟨r2,rfl,hi,hb⟩;clear k0 k1 k2 k3 k4 k5 ltk_1 y0 y1 y2 y3 y4 y5 lty_1;replace Bk:=upK Bk hb;replace By:=upK By hb;replace HB:=upB HB hb;clear hb
 rcases hi with rfl | ⟨hr1,-,hvl⟩
 ·obtain ⟨k0,k1,k2,k3,k4,k5⟩:=cs6 Bk.out;have ltk_2:=lt_of_some Bk.out;obtain ⟨y0,y1,y2,y3,y4,y5⟩:=cs6 By.out;have lty_2:=lt_of_some By.out
  go_wp2
  go_ret;exact ⟨rfl,HB.out⟩
 have HVL:=hidK hvl;clear hr0 hrm hvl;obtain ⟨k0,k1,k2,k3,k4,k5⟩:=cs6 Bk.out;have ltk_2:=lt_of_some Bk.out;obtain ⟨y0,y1,y2,y3,y4,y5⟩:=cs6 By.out;have lty_2:=lt_of_some By.out;go_wp2_with fail;clear k0 k1 k2 k3 k4 k5 ltk_2 y0 y1 y2 y3 y4 y5 lty_2;rename_i K0 hK0;refine wp_region_grow_last (by kernel_rfl) rfl rfl (by kernel_rfl) ?_;refine' Grow.stepC _ rfl ?_ ?_;rotate_left 1
 ·refine Obl.plain rfl ?_;intro ac wg K hsz hW hf hK;clear hsz;have e2:=hf 2 (by decide)
  simp [slotFact,List.lookup] at e2
  clear hf;obtain ⟨k0,k1,k2,k3,k4,k5⟩:=cs6 ((hW.block _ (lt_of_some Bk.out)).trans Bk.out);go_simp;refine hK _ _ (Below.refl _ _) ?_;with_reducible rfl
 refine Grow.step (AddPodClV c) rfl (AddPodClV.mono c) ?_ ?_
 ·refine Obl.plain rfl ?_;intro ac wg K hsz hW hf hK;clear hsz;have e24:=hf 24 (by decide)
  simp [slotFact,List.lookup] at e24
  clear hf;go_simp;refine (toCluster_any d c _ (HR.out.below (HB.out.trans (hW.mono HB.out.size))) HF.out).mono ?_;rintro e w6 ⟨d3,rfl,ho,hb6⟩;exact hK _ _ hb6 ⟨d3,rfl,ho.row⟩
 refine' Grow.stepC _ rfl ?_ ?_;rotate_left 1
 ·refine Obl.plain rfl ?_;intro ac wg K hsz hW hf hK;clear hsz;have e3:=hf 3 (by decide)
  simp [slotFact,List.lookup] at e3
  clear hf;obtain ⟨y0,y1,y2,y3,y4,y5⟩:=cs6 ((hW.block _ (lt_of_some By.out)).trans By.out);go_simp;refine hK _ _ (Below.refl _ _) ?_;with_reducible rfl
 refine Grow.step (PodRcV x) rfl (PodRcV.mono x) ?_ ?_
 ·refine Obl.plain rfl ?_;intro ac wg K hsz hW hf hK;clear hsz;have e26:=hf 26 (by decide)
  simp [slotFact,List.lookup] at e26
  clear hf;go_simp;refine (toPod_ex x va vl vc _ (HX.out.below (HB.out.trans (hW.mono HB.out.size))) HVL.out).mono ?_;rintro e w6 ⟨g6,rfl,-,hg6,hb6⟩;exact hK _ _ hb6 ⟨_,_,_,rfl,tx_of_block HX.out hg6⟩
 refine Grow.step (AnsF (AddPodIs c x)) rfl (AnsF.mono _) ?_ ?_
 ·refine Obl.plain rfl ?_;intro ac wg K hsz hW hf hK;clear hsz;have e25:=hf 25 (by decide)
  simp [slotFact,List.lookup] at e25
  have e27:=hf 27 (by decide)
  simp [slotFact,List.lookup] at e27
  clear hf;obtain ⟨d3,e25,hrow⟩:=e25;obtain ⟨ta,tl,tc,e27,htx⟩:=e27;go_simp;refine (saddP_any d3 c x ta tl tc _ hrow htx z0 z2 z4).mono ?_;rintro e w6 ⟨dg,o,rfl,hI,ho,hb6⟩;exact hK _ _ hb6 ⟨dg,o,rfl,hI,ho⟩
 refine Grow.step (BoxF w2.heap.size) rfl (BoxF.mono _) ?_ ?_
 ·refine Obl.plain rfl ?_;intro ac wg K hsz hW hf hK;clear hsz;clear hf;go_simp;exact hK _ _ (below1 _ _) ⟨_,rfl,hW.size,Array.getElem?_push_size⟩
 refine Grow.done ?_;intro q wz hW hf;simp only [List.forall_mem_cons] at hf;obtain ⟨⟨b6,h6,hb6,hg6⟩,⟨dg0,o,h27,hIS,hR0⟩,-⟩:=hf;obtain ⟨t0,t1,t2,t3,t4,t5,t6,t7⟩:=cs8 hg6;have f0:=froK hg6 0;have f1:=froK hg6 1;have f2:=froK hg6 2;have f3:=froK hg6 3;have f4:=froK hg6 4;have f5:=froK hg6 5;have f6:=froK hg6 6;have f7:=froK hg6 7;have Ba:=hidK (put8 (v0:=.slice dg0.a1 dg0.l1 dg0.c1) (v1:=.slice dg0.a2 dg0.l2 dg0.c2) (v2:=.slice dg0.a3 dg0.l3 dg0.c3) (v3:=.slice dg0.a4 dg0.l4 dg0.c4) (v4:=.slice dg0.a5 dg0.l5 dg0.c5) (v5:=.int .i64 o.c.now) (v6:=.string o.n) (v7:=.int .i64 o.p) hg6);have HWX : Hid (Below w2.heap.size w2 ((((((((wz.setCell ⟨b6,0,none⟩ (.slice dg0.a1 dg0.l1 dg0.c1)).setCell ⟨b6,1,none⟩ (.slice dg0.a2 dg0.l2 dg0.c2)).setCell ⟨b6,2,none⟩ (.slice dg0.a3 dg0.l3 dg0.c3)).setCell ⟨b6,3,none⟩ (.slice dg0.a4 dg0.l4 dg0.c4)).setCell ⟨b6,4,none⟩ (.slice dg0.a5 dg0.l5 dg0.c5)).setCell ⟨b6,5,none⟩ (.int .i64 o.c.now)).setCell ⟨b6,6,none⟩ (.string o.n)).setCell ⟨b6,7,none⟩ (.int .i64 o.p))):=set_below hb6 (set_below hb6 (set_below hb6 (set_below hb6 (set_below hb6 (set_below hb6 (set_below hb6 (set_below hb6 (hW))))))));have R0 : Hid (ClFr ((((((((wz.setCell ⟨b6,0,none⟩ (.slice dg0.a1 dg0.l1 dg0.c1)).setCell ⟨b6,1,none⟩ (.slice dg0.a2 dg0.l2 dg0.c2)).setCell ⟨b6,2,none⟩ (.slice dg0.a3 dg0.l3 dg0.c3)).setCell ⟨b6,3,none⟩ (.slice dg0.a4 dg0.l4 dg0.c4)).setCell ⟨b6,4,none⟩ (.slice dg0.a5 dg0.l5 dg0.c5)).setCell ⟨b6,5,none⟩ (.int .i64 o.c.now)).setCell ⟨b6,6,none⟩ (.string o.n)).setCell ⟨b6,7,none⟩ (.int .i64 o.p)) dg0 o.c.raw (fun _ => True)):=hR0.past hg6 (fun k hk => put8_ne hk);have HIS:=hidK hIS
 have hsz6 : wz.heap.size ≤ ((((((((wz.setCell ⟨b6,0,none⟩ (.slice dg0.a1 dg0.l1 dg0.c1)).setCell ⟨b6,1,none⟩ (.slice dg0.a2 dg0.l2 dg0.c2)).setCell ⟨b6,2,none⟩ (.slice dg0.a3 dg0.l3 dg0.c3)).setCell ⟨b6,3,none⟩ (.slice dg0.a4 dg0.l4 dg0.c4)).setCell ⟨b6,4,none⟩ (.slice dg0.a5 dg0.l5 dg0.c5)).setCell ⟨b6,5,none⟩ (.int .i64 o.c.now)).setCell ⟨b6,6,none⟩ (.string o.n)).setCell ⟨b6,7,none⟩ (.int .i64 o.p)).heap.size:=by simp [World.setCell]
 clear hg6 hIS hR0;intro K hK;rw [if_pos (by rfl)];simp only [putsAll,List.foldr,Act.put,List.setIfInBounds_toArray,List.set_cons_zero,List.set_cons_succ,h6,h27];simp only [List.getLast];go_simp;refine hK _ _ ?_;refine hK0 _ _ ?_;clear hK hK0 K K0
 generalize ((((((((wz.setCell ⟨b6,0,none⟩ (.slice dg0.a1 dg0.l1 dg0.c1)).setCell ⟨b6,1,none⟩ (.slice dg0.a2 dg0.l2 dg0.c2)).setCell ⟨b6,2,none⟩ (.slice dg0.a3 dg0.l3 dg0.c3)).setCell ⟨b6,3,none⟩ (.slice dg0.a4 dg0.l4 dg0.c4)).setCell ⟨b6,4,none⟩ (.slice dg0.a5 dg0.l5 dg0.c5)).setCell ⟨b6,5,none⟩ (.int .i64 o.c.now)).setCell ⟨b6,6,none⟩ (.string o.n)).setCell ⟨b6,7,none⟩ (.int .i64 o.p)) = X3 at Ba HWX R0 ⊢
 clear t0 t1 t2 t3 t4 t5 t6 t7 f0 f1 f2 f3 f4 f5 f6 f7 hsz6;have HB3:=hidK (HB.out.trans (HWX.out.mono HB.out.size));replace Bk:=hidK ((HWX.out.block _ (lt_of_some Bk.out)).trans Bk.out);replace By:=hidK ((HWX.out.block _ (lt_of_some By.out)).trans By.out);clear HB hW;have HB:=HB3;clear HB3 HWX;have RR:=hidK R0.out.row;clear R0;have HY:=hidK (Bw.refl X3);have HQ3 : Hid (w.heap.size + 1 < X3.heap.size):=lt_of_some By.out;have HQ6 : Hid (b6 < X3.heap.size):=lt_of_some Ba.out;obtain ⟨k0,k1,k2,k3,k4,k5⟩:=cs6 Bk.out;have ltk_2:=lt_of_some Bk.out;go_wp2_with fail;refine (toCluster_any d c _ (HR.out.below HB.out) HF.out).mono ?_;rintro e w4 ⟨d2,rfl,ho,hb⟩;clear k0 k1 k2 k3 k4 k5 ltk_2;replace Bk:=upK Bk hb;replace By:=upK By hb;replace Ba:=upK Ba hb;replace HY:=hidK (HY.out.below hb);replace HB:=upB HB hb;clear hb
 have HQ4 : Hid (X3.heap.size ≤ w4.heap.size):=by have:=HY.out.le;show X3.heap.size ≤ _;omega
 have HO2:=hidK (ho.into (S':=fun k => X3.heap.size ≤ k ∧ k < w4.heap.size) (fun k hk s => ⟨s,hk⟩));clear ho;obtain ⟨k0,k1,k2,k3,k4,k5⟩:=cs6 Bk.out;have ltk_3:=lt_of_some Bk.out;obtain ⟨y0,y1,y2,y3,y4,y5⟩:=cs6 By.out;have lty_3:=lt_of_some By.out;obtain ⟨a0,a1,a2,a3,a4,a5,a6,a7⟩:=cs8 Ba.out;have lta_3:=lt_of_some Ba.out;go_wp2_with fail;refine (toPod_ex x va vl vc _ (HX.out.below (HB.out.trans ((below1 _ _).mono HB.out.size))) HVL.out).mono ?_;rintro e w5 ⟨gb,rfl,hgb,hgx,hb⟩;rw [size1] at hgb;have HQG : Hid (w4.heap.size + 1 ≤ gb):=hgb;have Bl:=hidK hgx;clear hgb hgx;clear k0 k1 k2 k3 k4 k5 ltk_3 y0 y1 y2 y3 y4 y5 lty_3 a0 a1 a2 a3 a4 a5 a6 a7 lta_3;obtain ⟨HA0,hbx⟩:=slots1 hb;replace Bk:=upK Bk hbx;replace By:=upK By hbx;replace Ba:=upK Ba hbx;have Bx:=hidK HA0;replace HY:=hidK (HY.out.below hbx);replace HO2:=hidK (HO2.out.below hbx);replace HB:=upB HB hbx;clear hb hbx HA0;have HQL : Hid (gb < w5.heap.size):=lt_of_some Bl.out;have HQV : Hid (w4.heap.size < w5.heap.size):=lt_of_some Bx.out;obtain ⟨k0,k1,k2,k3,k4,k5⟩:=cs6 Bk.out;have ltk_4:=lt_of_some Bk.out;obtain ⟨y0,y1,y2,y3,y4,y5⟩:=cs6 By.out;have lty_4:=lt_of_some By.out;obtain ⟨a0,a1,a2,a3,a4,a5,a6,a7⟩:=cs8 Ba.out;have lta_4:=lt_of_some Ba.out;obtain ⟨x0,x1,x2,x3,x4,x5⟩:=cs6 Bx.out;have ltx_4:=lt_of_some Bx.out;go_wp2_with fail;obtain ⟨W,hW0⟩ : ∃ W,W = w5.alloc (.cells #[.string x.n,.int .i64 x.c,.string x.z,.slice (some ⟨gb,0,none⟩) vl vl,.string x.d,.int .i64 x.p] 58):=⟨_,rfl⟩
 have hb : Below (w5.alloc (.cells #[.string x.n,.int .i64 x.c,.string x.z,.slice (some ⟨gb,0,none⟩) vl vl,.string x.d,.int .i64 x.p] 58)).heap.size (w5.alloc (.cells #[.string x.n,.int .i64 x.c,.string x.z,.slice (some ⟨gb,0,none⟩) vl vl,.string x.d,.int .i64 x.p] 58)) W:=by rw [hW0];exact Below.refl _ _
 rw [← hW0];clear hW0;clear k0 k1 k2 k3 k4 k5 ltk_4 y0 y1 y2 y3 y4 y5 lty_4 a0 a1 a2 a3 a4 a5 a6 a7 lta_4 x0 x1 x2 x3 x4 x5 ltx_4;obtain ⟨HA0,hbx⟩:=slots1 hb;replace Bk:=upK Bk hbx;replace By:=upK By hbx;replace Ba:=upK Ba hbx;replace Bx:=upK Bx hbx;replace Bl:=upK Bl hbx;have Bu:=hidK HA0;replace HY:=hidK (HY.out.below hbx);replace HO2:=hidK (HO2.out.below hbx);replace HB:=upB HB hbx;clear hb hbx HA0;have HQW : Hid (w5.heap.size < W.heap.size):=lt_of_some Bu.out;refine (iaddP_any d2 c x (some ⟨gb,0,none⟩) vl vl E _ HO2.out.row (HE.out.below HB.out) (tx_of_block HX.out Bl.out) z0 z2 z4).mono ?_;rintro e w6 ⟨dg1,o1,rfl,hI,ho,hb⟩;obtain rfl:=HIS.out.same hI;clear hI;have HO1:=hidK (ho.into (S':=fun k => W.heap.size ≤ k ∧ k < w6.heap.size) (fun k hk s => ⟨s,hk⟩));have HQ5 : Hid (W.heap.size ≤ w6.heap.size):=hb.size;clear ho;replace Bk:=upK Bk hb;replace By:=upK By hb;replace Ba:=upK Ba hb;replace Bx:=upK Bx hb;replace Bl:=upK Bl hb;replace Bu:=upK Bu hb;replace HY:=hidK (HY.out.below hb);replace HO2:=hidK (HO2.out.below hb);replace HB:=upB HB hb;clear hb;have HZ : Hid (w6.heap.size ≤ w6.heap.size):=Nat.le_refl _;have hlz : mkCn 1 o.c.raw ≤ 1152921504606846976:=HIS.out.marks HF.out;have HH:=hidK (fun (W : World) (hr : ClRow W dg1 (mkC 1 o.c.raw)) => heldCout_any dg1 o 1 W hr (by decide) hlz);obtain ⟨M,hM⟩ : ∃ M : Int,M = mkCn 1 o.c.raw:=⟨_,rfl⟩
 have hM0 : (0 : Int) < M:=by rw [hM];have:=mkCn_ge 1 o.c.raw;omega
 rw [← hM] at HH;have HMM:=hidK hM;clear hM;obtain ⟨k0,k1,k2,k3,k4,k5⟩:=cs6 Bk.out;have ltk_6:=lt_of_some Bk.out;obtain ⟨y0,y1,y2,y3,y4,y5⟩:=cs6 By.out;have lty_6:=lt_of_some By.out;obtain ⟨a0,a1,a2,a3,a4,a5,a6,a7⟩:=cs8 Ba.out;have lta_6:=lt_of_some Ba.out;obtain ⟨x0,x1,x2,x3,x4,x5⟩:=cs6 Bx.out;have ltx_6:=lt_of_some Bx.out;obtain ⟨u0,u1,u2,u3,u4,u5⟩:=cs6 Bu.out;have ltu_6:=lt_of_some Bu.out;go_wp2_with fail;refine (eqCout_any dg1 dg0 o _ (HO1.out.row.below (below1 _ _)) (RR.out.below (HY.out.below (below1 _ _)).out)).mono ?_;rintro e v6 ⟨rfl,hb⟩
 replace HZ : Hid (w6.heap.size ≤ v6.heap.size):=by have h8:=hb.size;have h9:=HZ.out;first | exact Nat.le_trans h9 h8 | (rw [size1] at h8;show _ ≤ _;omega)
 clear k0 k1 k2 k3 k4 k5 ltk_6 y0 y1 y2 y3 y4 y5 lty_6 a0 a1 a2 a3 a4 a5 a6 a7 lta_6 x0 x1 x2 x3 x4 x5 ltx_6 u0 u1 u2 u3 u4 u5 ltu_6;obtain ⟨HA0,hbx⟩:=slots1 hb;replace Bk:=upK Bk hbx;replace By:=upK By hbx;replace Ba:=upK Ba hbx;replace Bx:=upK Bx hbx;replace Bl:=upK Bl hbx;replace Bu:=upK Bu hbx;have Bg:=hidK HA0;replace HY:=hidK (HY.out.below hbx);replace HO2:=hidK (HO2.out.below hbx);replace HO1:=hidK (HO1.out.below hbx);replace HB:=upB HB hbx;clear hb hbx HA0;go_wp2_with fail;rename_i K0 hK0;refine wp_region_grow (back:=none) (by kernel_rfl) (List.append_nil _).symm (by kernel_rfl) ?_;refine' Grow.stepC _ rfl ?_ ?_;rotate_left 1
 ·refine Obl.plain rfl ?_;intro ac wg K hsz hW hf hK;clear hsz;have e7:=hf 7 (by decide)
  simp [slotFact,List.lookup] at e7
  clear hf;obtain ⟨k0,k1,k2,k3,k4,k5⟩:=cs6 ((hW.block _ (lt_of_some Bx.out)).trans Bx.out);go_simp;refine hK _ _ (Below.refl _ _) ?_;with_reducible rfl
 refine' Grow.stepC _ rfl ?_ ?_;rotate_left 1
 ·refine Obl.plain rfl ?_;intro ac wg K hsz hW hf hK;clear hsz;have e2:=hf 2 (by decide)
  simp [slotFact,List.lookup] at e2
  clear hf;obtain ⟨k0,k1,k2,k3,k4,k5⟩:=cs6 ((hW.block _ (lt_of_some Bk.out)).trans Bk.out);go_simp;refine hK _ _ (Below.refl _ _) ?_;with_reducible rfl
 refine Grow.step (AddPodClV c) rfl (AddPodClV.mono c) ?_ ?_
 ·refine Obl.plain rfl ?_;intro ac wg K hsz hW hf hK;clear hsz;have e41:=hf 41 (by decide)
  simp [slotFact,List.lookup] at e41
  clear hf;go_simp;refine (toCluster_any d c _ (HR.out.below (HB.out.trans (hW.mono HB.out.size))) HF.out).mono ?_;rintro e w6 ⟨d3,rfl,ho,hb6⟩;exact hK _ _ hb6 ⟨d3,rfl,ho.row⟩
 refine' Grow.stepC (.bool true) rfl ?_ ?_
 ·refine Obl.plain rfl ?_;intro ac wg K hsz hW hf hK;clear hsz;have e40:=hf 40 (by decide)
  simp [slotFact,List.lookup] at e40
  have e42:=hf 42 (by decide)
  simp [slotFact,List.lookup] at e42
  obtain ⟨d3,e42,hrow⟩:=e42;clear hf;go_simp;refine (eqCluster_any d2 d3 c _ (HO2.out.row.below hW) hrow).mono ?_;rintro e w6 ⟨rfl,hb6⟩;exact hK _ _ hb6 rfl
 refine' Grow.stepC _ rfl ?_ ?_;rotate_left 1
 ·refine Obl.plain rfl ?_;intro ac wg K hsz hW hf hK;clear hsz;have e43:=hf 43 (by decide)
  simp [slotFact,List.lookup] at e43
  clear hf;go_simp;refine hK _ _ (Below.refl _ _) ?_;with_reducible rfl
 refine Grow.done ?_;intro q wy hW hf;simp only [List.forall_mem_cons] at hf;obtain ⟨h42,-⟩:=hf;have hb:=hW;refine hK0 _ _ ?_;simp only [putsAll,List.foldr,Act.put,List.setIfInBounds_toArray,List.set_cons_zero,List.set_cons_succ,h42];clear hK0;replace HZ : Hid (w6.heap.size ≤ wy.heap.size):=Nat.le_trans HZ.out hb.size;replace Bk:=upK Bk hb;replace By:=upK By hb;replace Ba:=upK Ba hb;replace Bx:=upK Bx hb;replace Bl:=upK Bl hb;replace Bu:=upK Bu hb;replace Bg:=upK Bg hb;replace HY:=hidK (HY.out.below hb);replace HO2:=hidK (HO2.out.below hb);replace HO1:=hidK (HO1.out.below hb);replace HB:=upB HB hb;clear hb;clear hW;obtain ⟨k0,k1,k2,k3,k4,k5⟩:=cs6 Bk.out;have ltk_8:=lt_of_some Bk.out;obtain ⟨y0,y1,y2,y3,y4,y5⟩:=cs6 By.out;have lty_8:=lt_of_some By.out;obtain ⟨a0,a1,a2,a3,a4,a5,a6,a7⟩:=cs8 Ba.out;have lta_8:=lt_of_some Ba.out;obtain ⟨x0,x1,x2,x3,x4,x5⟩:=cs6 Bx.out;have ltx_8:=lt_of_some Bx.out;obtain ⟨u0,u1,u2,u3,u4,u5⟩:=cs6 Bu.out;have ltu_8:=lt_of_some Bu.out;obtain ⟨g0,g1,g2,g3,g4,g5,g6,g7⟩:=cs8 Bg.out;have ltg_8:=lt_of_some Bg.out;go_wp2_with fail;clear k0 k1 k2 k3 k4 k5 ltk_8 y0 y1 y2 y3 y4 y5 lty_8 a0 a1 a2 a3 a4 a5 a6 a7 lta_8 x0 x1 x2 x3 x4 x5 ltx_8 u0 u1 u2 u3 u4 u5 ltu_8 g0 g1 g2 g3 g4 g5 g6 g7 ltg_8;rename_i K0 hK0;refine wp_region_grow (back:=none) (by kernel_rfl) (List.append_nil _).symm (by kernel_rfl) ?_;refine' Grow.stepC _ rfl ?_ ?_;rotate_left 1
 ·refine Obl.plain rfl ?_;intro ac wg K hsz hW hf hK;clear hsz;have e8:=hf 8 (by decide)
  simp [slotFact,List.lookup] at e8
  clear hf;obtain ⟨k0,k1,k2,k3,k4,k5⟩:=cs6 ((hW.block _ (lt_of_some Bu.out)).trans Bu.out);go_simp;refine hK _ _ (Below.refl _ _) ?_;with_reducible rfl
 refine' Grow.stepC _ rfl ?_ ?_;rotate_left 1
 ·refine Obl.plain rfl ?_;intro ac wg K hsz hW hf hK;clear hsz;have e3:=hf 3 (by decide)
  simp [slotFact,List.lookup] at e3
  clear hf;obtain ⟨k0,k1,k2,k3,k4,k5⟩:=cs6 ((hW.block _ (lt_of_some By.out)).trans By.out);go_simp;refine hK _ _ (Below.refl _ _) ?_;with_reducible rfl
 refine Grow.step (PodRcV x) rfl (PodRcV.mono x) ?_ ?_
 ·refine Obl.plain rfl ?_;intro ac wg K hsz hW hf hK;clear hsz;have e46:=hf 46 (by decide)
  simp [slotFact,List.lookup] at e46
  clear hf;go_simp;refine (toPod_ex x va vl vc _ (HX.out.below (HB.out.trans (hW.mono HB.out.size))) HVL.out).mono ?_;rintro e w6 ⟨g6,rfl,-,hg6,hb6⟩;exact hK _ _ hb6 ⟨_,_,_,rfl,tx_of_block HX.out hg6⟩
 refine' Grow.stepC (.bool true) rfl ?_ ?_
 ·refine Obl.plain rfl ?_;intro ac wg K hsz hW hf hK;clear hsz;have e45:=hf 45 (by decide)
  simp [slotFact,List.lookup] at e45
  have e47:=hf 47 (by decide)
  simp [slotFact,List.lookup] at e47
  obtain ⟨ta,tl,tc,e47,htx⟩:=e47;clear hf;go_simp;refine (eqPod_any x.n x.c x.z (some ⟨gb,0,none⟩) vl vl x.zs x.d x.p ta tl tc _ (tx_of_block HX.out ((hW.block _ (lt_of_some Bl.out)).trans Bl.out)) htx).mono ?_;rintro e w6 ⟨rfl,hb6⟩;exact hK _ _ hb6 rfl
 refine' Grow.stepC _ rfl ?_ ?_;rotate_left 1
 ·refine Obl.plain rfl ?_;intro ac wg K hsz hW hf hK;clear hsz;have e48:=hf 48 (by decide)
  simp [slotFact,List.lookup] at e48
  clear hf;go_simp;refine hK _ _ (Below.refl _ _) ?_;with_reducible rfl
 refine Grow.done ?_;intro q wz hW hf;simp only [List.forall_mem_cons] at hf;obtain ⟨h42,-⟩:=hf;have hb:=hW;refine hK0 _ _ ?_;simp only [putsAll,List.foldr,Act.put,List.setIfInBounds_toArray,List.set_cons_zero,List.set_cons_succ,h42];clear hK0;replace HZ : Hid (w6.heap.size ≤ wz.heap.size):=Nat.le_trans HZ.out hb.size;replace Bk:=upK Bk hb;replace By:=upK By hb;replace Ba:=upK Ba hb;replace Bx:=upK Bx hb;replace Bl:=upK Bl hb;replace Bu:=upK Bu hb;replace Bg:=upK Bg hb;replace HY:=hidK (HY.out.below hb);replace HO2:=hidK (HO2.out.below hb);replace HO1:=hidK (HO1.out.below hb);replace HB:=upB HB hb;clear hb;clear hW;obtain ⟨rk,hrk⟩ : ∃ r : Nat,(r : Int) = mkCn 1 c.raw:=⟨(mkCn 1 c.raw).toNat,Int.toNat_of_nonneg (by have:=mkCn_ge 1 c.raw;omega)⟩
 have hrk1 : 0 < rk:=by have:=mkCn_ge 1 c.raw;omega
 have hrk2 : rk ≤ 1000000000000000:=by have:=HF.out.marks2;omega
 obtain ⟨k0,k1,k2,k3,k4,k5⟩:=cs6 Bk.out;have ltk_9:=lt_of_some Bk.out;obtain ⟨y0,y1,y2,y3,y4,y5⟩:=cs6 By.out;have lty_9:=lt_of_some By.out;obtain ⟨a0,a1,a2,a3,a4,a5,a6,a7⟩:=cs8 Ba.out;have lta_9:=lt_of_some Ba.out;obtain ⟨x0,x1,x2,x3,x4,x5⟩:=cs6 Bx.out;have ltx_9:=lt_of_some Bx.out;obtain ⟨u0,u1,u2,u3,u4,u5⟩:=cs6 Bu.out;have ltu_9:=lt_of_some Bu.out;obtain ⟨g0,g1,g2,g3,g4,g5,g6,g7⟩:=cs8 Bg.out;have ltg_9:=lt_of_some Bg.out;go_wp2_with fail;refine (markCluster_any d2 c 1 _ wz HO2.out (fun k s => by have s2:=s.2;have q9:=HY.out.le;have qx:=lt_of_some Bx.out;have q3:=HQ3.out;have q4:=HQ4.out;have q5:=HQ5.out;have q6:=HQ6.out;have q7:=HQW.out;have qg:=HQG.out;have ql:=HQL.out;have qv:=HQV.out;omega) (by decide) HF.out.marks).mono ?_;rintro e w8 ⟨rfl,ho,hk⟩;replace HZ : Hid (w6.heap.size ≤ w8.heap.size):=Nat.le_trans HZ.out hk.size;clear k0 k1 k2 k3 k4 k5 ltk_9 y0 y1 y2 y3 y4 y5 lty_9 a0 a1 a2 a3 a4 a5 a6 a7 lta_9 x0 x1 x2 x3 x4 x5 ltx_9 u0 u1 u2 u3 u4 u5 ltu_9 g0 g1 g2 g3 g4 g5 g6 g7 ltg_9;have Ck:=hidK ((hk.block (w.heap.size) (lt_of_some Bk.out) (fun s => by have s1:=s.1;have s2:=s.2;have q3:=HQ3.out;have q4:=HQ4.out;have q5:=HQ5.out;have q6:=HQ6.out;have q7:=HQW.out;have qg:=HQG.out;have ql:=HQL.out;have qv:=HQV.out;omega)).trans Bk.out);have Cy:=hidK ((hk.block (w.heap.size + 1) (lt_of_some By.out) (fun s => by have s1:=s.1;have s2:=s.2;have q3:=HQ3.out;have q4:=HQ4.out;have q5:=HQ5.out;have q6:=HQ6.out;have q7:=HQW.out;have qg:=HQG.out;have ql:=HQL.out;have qv:=HQV.out;omega)).trans By.out);have Ca:=hidK ((hk.block (b6) (lt_of_some Ba.out) (fun s => by have s1:=s.1;have s2:=s.2;have q3:=HQ3.out;have q4:=HQ4.out;have q5:=HQ5.out;have q6:=HQ6.out;have q7:=HQW.out;have qg:=HQG.out;have ql:=HQL.out;have qv:=HQV.out;omega)).trans Ba.out)
 have Cx:=hidK ((hk.block (w4.heap.size) (lt_of_some Bx.out) (fun s => by have s1:=s.1;have s2:=s.2;have q3:=HQ3.out;have q4:=HQ4.out;have q5:=HQ5.out;have q6:=HQ6.out;have q7:=HQW.out;have qg:=HQG.out;have ql:=HQL.out;have qv:=HQV.out;omega)).trans Bx.out);have Cl:=hidK ((hk.block (gb) (lt_of_some Bl.out) (fun s => by have s1:=s.1;have s2:=s.2;have q3:=HQ3.out;have q4:=HQ4.out;have q5:=HQ5.out;have q6:=HQ6.out;have q7:=HQW.out;have qg:=HQG.out;have ql:=HQL.out;have qv:=HQV.out;omega)).trans Bl.out);have Cu:=hidK ((hk.block (w5.heap.size) (lt_of_some Bu.out) (fun s => by have s1:=s.1;have s2:=s.2;have q3:=HQ3.out;have q4:=HQ4.out;have q5:=HQ5.out;have q6:=HQ6.out;have q7:=HQW.out;have qg:=HQG.out;have ql:=HQL.out;have qv:=HQV.out;omega)).trans Bu.out);have Cg:=hidK ((hk.block (w6.heap.size) (lt_of_some Bg.out) (fun s => by have s1:=s.1;have s2:=s.2;have q3:=HQ3.out;have q4:=HQ4.out;have q5:=HQ5.out;have q6:=HQ6.out;have q7:=HQW.out;have qg:=HQG.out;have ql:=HQL.out;have qv:=HQV.out;omega)).trans Bg.out);have HB10:=hidK (HB.out.trans (hk.low (X:=w.heap.size) HB.out.size (fun k s => by have s1:=s.1;have s2:=s.2;have q3:=HQ3.out;have q4:=HQ4.out;have q5:=HQ5.out;have q6:=HQ6.out;have q7:=HQW.out;have qg:=HQG.out;have ql:=HQL.out;have qv:=HQV.out;omega)));have CHY:=hidK (HY.out.kept hk (fun k s => by have s1:=s.1;have s2:=s.2;have q3:=HQ3.out;have q4:=HQ4.out;have q5:=HQ5.out;have q6:=HQ6.out;have q7:=HQW.out;have qg:=HQG.out;have ql:=HQL.out;have qv:=HQV.out;omega));have CHO1:=hidK (HO1.out.kept hk (fun k s s' => by have s1:=s.1;have s2:=s.2;have t1:=s'.1;have t2:=s'.2;have q3:=HQ3.out;have q4:=HQ4.out;have q5:=HQ5.out;have q6:=HQ6.out;have q7:=HQW.out;have qg:=HQG.out;have ql:=HQL.out;have qv:=HQV.out;omega))
 clear HB HY hk HO2 HO1 Bk By Ba Bx Bl Bu Bg;have HB:=HB10;clear HB10;have HY:=CHY;clear CHY;have HO1:=CHO1;clear CHO1;have Bk:=Ck;clear Ck;have By:=Cy;clear Cy;have Ba:=Ca;clear Ca;have Bx:=Cx;clear Cx;have Bl:=Cl;clear Cl;have Bu:=Cu;clear Cu;have Bg:=Cg;clear Cg;clear ho;rw [← hrk];clear hrk;obtain ⟨k0,k1,k2,k3,k4,k5⟩:=cs6 Bk.out;have ltk_10:=lt_of_some Bk.out;obtain ⟨y0,y1,y2,y3,y4,y5⟩:=cs6 By.out;have lty_10:=lt_of_some By.out;obtain ⟨a0,a1,a2,a3,a4,a5,a6,a7⟩:=cs8 Ba.out;have lta_10:=lt_of_some Ba.out;obtain ⟨x0,x1,x2,x3,x4,x5⟩:=cs6 Bx.out;have ltx_10:=lt_of_some Bx.out;obtain ⟨u0,u1,u2,u3,u4,u5⟩:=cs6 Bu.out;have ltu_10:=lt_of_some Bu.out;obtain ⟨g0,g1,g2,g3,g4,g5,g6,g7⟩:=cs8 Bg.out;have ltg_10:=lt_of_some Bg.out;go_wp2_with fail
 have hvs : vl ≤ (x.zs.map Value.string).toArray.size:=by have h9 : x.zs.length = vl:=HX.out.1;simp;omega
 have hvl2:=HVL.out;refine (markPod_at x gb vl vl rk _ _ Bl.out hvs hrk1 (by omega)).mono ?_;rintro e w8b ⟨rfl,hk⟩;replace HZ : Hid (w6.heap.size ≤ w8b.heap.size):=Nat.le_trans HZ.out hk.size;clear k0 k1 k2 k3 k4 k5 ltk_10 y0 y1 y2 y3 y4 y5 lty_10 a0 a1 a2 a3 a4 a5 a6 a7 lta_10 x0 x1 x2 x3 x4 x5 ltx_10 u0 u1 u2 u3 u4 u5 ltu_10 g0 g1 g2 g3 g4 g5 g6 g7 ltg_10;have Ck:=hidK ((hk.block (w.heap.size) (lt_of_some Bk.out) (fun s => by have s1 : _ = gb:=s;have q3:=HQ3.out;have q4:=HQ4.out;have q5:=HQ5.out;have q6:=HQ6.out;have q7:=HQW.out;have qg:=HQG.out;have ql:=HQL.out;have qv:=HQV.out;omega)).trans Bk.out);have Cy:=hidK ((hk.block (w.heap.size + 1) (lt_of_some By.out) (fun s => by have s1 : _ = gb:=s;have q3:=HQ3.out;have q4:=HQ4.out;have q5:=HQ5.out;have q6:=HQ6.out;have q7:=HQW.out;have qg:=HQG.out;have ql:=HQL.out;have qv:=HQV.out;omega)).trans By.out);have Ca:=hidK ((hk.block (b6) (lt_of_some Ba.out) (fun s => by have s1 : _ = gb:=s;have q3:=HQ3.out;have q4:=HQ4.out;have q5:=HQ5.out;have q6:=HQ6.out;have q7:=HQW.out;have qg:=HQG.out;have ql:=HQL.out;have qv:=HQV.out;omega)).trans Ba.out);have Cx:=hidK ((hk.block (w4.heap.size) (lt_of_some Bx.out) (fun s => by have s1 : _ = gb:=s;have q3:=HQ3.out;have q4:=HQ4.out;have q5:=HQ5.out;have q6:=HQ6.out;have q7:=HQW.out;have qg:=HQG.out;have ql:=HQL.out;have qv:=HQV.out;omega)).trans Bx.out);have Cu:=hidK ((hk.block (w5.heap.size) (lt_of_some Bu.out) (fun s => by have s1 : _ = gb:=s;have q3:=HQ3.out;have q4:=HQ4.out;have q5:=HQ5.out;have q6:=HQ6.out;have q7:=HQW.out;have qg:=HQG.out;have ql:=HQL.out;have qv:=HQV.out;omega)).trans Bu.out)
 have Cg:=hidK ((hk.block (w6.heap.size) (lt_of_some Bg.out) (fun s => by have s1 : _ = gb:=s;have q3:=HQ3.out;have q4:=HQ4.out;have q5:=HQ5.out;have q6:=HQ6.out;have q7:=HQW.out;have qg:=HQG.out;have ql:=HQL.out;have qv:=HQV.out;omega)).trans Bg.out);have HB11:=hidK (HB.out.trans (hk.low (X:=w.heap.size) HB.out.size (fun k s => by have s1 : _ = gb:=s;have q3:=HQ3.out;have q4:=HQ4.out;have q5:=HQ5.out;have q6:=HQ6.out;have q7:=HQW.out;have qg:=HQG.out;have ql:=HQL.out;have qv:=HQV.out;omega)));have CHY:=hidK (HY.out.kept hk (fun k s => by have s1 : _ = gb:=s;have q3:=HQ3.out;have q4:=HQ4.out;have q5:=HQ5.out;have q6:=HQ6.out;have q7:=HQW.out;have qg:=HQG.out;have ql:=HQL.out;have qv:=HQV.out;omega));have CHO1:=hidK (HO1.out.kept hk (fun k s s' => by have s1:=s.1;have s2:=s.2;have t1 : k = gb:=s';have q3:=HQ3.out;have q4:=HQ4.out;have q5:=HQ5.out;have q6:=HQ6.out;have q7:=HQW.out;have qg:=HQG.out;have ql:=HQL.out;have qv:=HQV.out;omega));clear HB HY hk  HO1 Bk By Ba Bx Bl Bu Bg;have HB:=HB11;clear HB11;have HY:=CHY;clear CHY;have HO1:=CHO1;clear CHO1;have Bk:=Ck;clear Ck;have By:=Cy;clear Cy;have Ba:=Ca;clear Ca;have Bx:=Cx;clear Cx;have Bu:=Cu;clear Cu;have Bg:=Cg;clear Cg;clear hvs hvl2;have hvl2:=HVL.out
 have hrk0 : decide (((rk + vl : Nat) : Int) < 0) = false:=by rw [decide_eq_false_iff_not];omega
 clear hvl2;obtain ⟨k0,k1,k2,k3,k4,k5⟩:=cs6 Bk.out;have ltk_11:=lt_of_some Bk.out;obtain ⟨y0,y1,y2,y3,y4,y5⟩:=cs6 By.out;have lty_11:=lt_of_some By.out;obtain ⟨a0,a1,a2,a3,a4,a5,a6,a7⟩:=cs8 Ba.out;have lta_11:=lt_of_some Ba.out;obtain ⟨x0,x1,x2,x3,x4,x5⟩:=cs6 Bx.out;have ltx_11:=lt_of_some Bx.out;obtain ⟨u0,u1,u2,u3,u4,u5⟩:=cs6 Bu.out;have ltu_11:=lt_of_some Bu.out;obtain ⟨g0,g1,g2,g3,g4,g5,g6,g7⟩:=cs8 Bg.out;have ltg_11:=lt_of_some Bg.out;go_wp2_with fail;refine (eqCout_any dg1 dg0 o _ (HO1.out.row) (RR.out.below HY.out.out)).mono ?_;rintro e w9 ⟨rfl,hb⟩
 replace HZ : Hid (w6.heap.size ≤ w9.heap.size):=by have h8:=hb.size;have h9:=HZ.out;first | exact Nat.le_trans h9 h8 | (rw [size1] at h8;show _ ≤ _;omega)
 clear k0 k1 k2 k3 k4 k5 ltk_11 y0 y1 y2 y3 y4 y5 lty_11 a0 a1 a2 a3 a4 a5 a6 a7 lta_11 x0 x1 x2 x3 x4 x5 ltx_11 u0 u1 u2 u3 u4 u5 ltu_11 g0 g1 g2 g3 g4 g5 g6 g7 ltg_11;replace Bk:=upK Bk hb;replace By:=upK By hb;replace Ba:=upK Ba hb;replace Bx:=upK Bx hb;replace Bu:=upK Bu hb;replace Bg:=upK Bg hb;replace HY:=hidK (HY.out.below hb);replace HO1:=hidK (HO1.out.below hb);replace HB:=upB HB hb;clear hb;clear hrk0;obtain ⟨k0,k1,k2,k3,k4,k5⟩:=cs6 Bk.out;have ltk_12:=lt_of_some Bk.out;obtain ⟨y0,y1,y2,y3,y4,y5⟩:=cs6 By.out;have lty_12:=lt_of_some By.out;obtain ⟨a0,a1,a2,a3,a4,a5,a6,a7⟩:=cs8 Ba.out;have lta_12:=lt_of_some Ba.out;obtain ⟨x0,x1,x2,x3,x4,x5⟩:=cs6 Bx.out;have ltx_12:=lt_of_some Bx.out;obtain ⟨u0,u1,u2,u3,u4,u5⟩:=cs6 Bu.out;have ltu_12:=lt_of_some Bu.out;obtain ⟨g0,g1,g2,g3,g4,g5,g6,g7⟩:=cs8 Bg.out;have ltg_12:=lt_of_some Bg.out;go_wp2_with fail;refine (markCout_any dg1 o 1 _ _ HO1.out (fun k s => by have s2:=s.2;have q9:=HZ.out;have q3:=HQ3.out;have q4:=HQ4.out;have q5:=HQ5.out;have q6:=HQ6.out;have q7:=HQW.out;have qg:=HQG.out;have ql:=HQL.out;have qv:=HQV.out;omega) (by decide) hlz).mono ?_;rintro e w10 ⟨rfl,ho,hk⟩;replace HZ : Hid (w6.heap.size ≤ w10.heap.size):=Nat.le_trans HZ.out hk.size;clear k0 k1 k2 k3 k4 k5 ltk_12 y0 y1 y2 y3 y4 y5 lty_12 a0 a1 a2 a3 a4 a5 a6 a7 lta_12 x0 x1 x2 x3 x4 x5 ltx_12 u0 u1 u2 u3 u4 u5 ltu_12 g0 g1 g2 g3 g4 g5 g6 g7 ltg_12;have Ck:=hidK ((hk.block (w.heap.size) (lt_of_some Bk.out) (fun s => by have s1:=s.1;have s2:=s.2;have q3:=HQ3.out;have q4:=HQ4.out;have q5:=HQ5.out;have q6:=HQ6.out;have q7:=HQW.out;have qg:=HQG.out;have ql:=HQL.out;have qv:=HQV.out;omega)).trans Bk.out)
 have Cy:=hidK ((hk.block (w.heap.size + 1) (lt_of_some By.out) (fun s => by have s1:=s.1;have s2:=s.2;have q3:=HQ3.out;have q4:=HQ4.out;have q5:=HQ5.out;have q6:=HQ6.out;have q7:=HQW.out;have qg:=HQG.out;have ql:=HQL.out;have qv:=HQV.out;omega)).trans By.out);have Ca:=hidK ((hk.block (b6) (lt_of_some Ba.out) (fun s => by have s1:=s.1;have s2:=s.2;have q3:=HQ3.out;have q4:=HQ4.out;have q5:=HQ5.out;have q6:=HQ6.out;have q7:=HQW.out;have qg:=HQG.out;have ql:=HQL.out;have qv:=HQV.out;omega)).trans Ba.out);have Cx:=hidK ((hk.block (w4.heap.size) (lt_of_some Bx.out) (fun s => by have s1:=s.1;have s2:=s.2;have q3:=HQ3.out;have q4:=HQ4.out;have q5:=HQ5.out;have q6:=HQ6.out;have q7:=HQW.out;have qg:=HQG.out;have ql:=HQL.out;have qv:=HQV.out;omega)).trans Bx.out);have Cu:=hidK ((hk.block (w5.heap.size) (lt_of_some Bu.out) (fun s => by have s1:=s.1;have s2:=s.2;have q3:=HQ3.out;have q4:=HQ4.out;have q5:=HQ5.out;have q6:=HQ6.out;have q7:=HQW.out;have qg:=HQG.out;have ql:=HQL.out;have qv:=HQV.out;omega)).trans Bu.out);have Cg:=hidK ((hk.block (w6.heap.size) (lt_of_some Bg.out) (fun s => by have s1:=s.1;have s2:=s.2;have q3:=HQ3.out;have q4:=HQ4.out;have q5:=HQ5.out;have q6:=HQ6.out;have q7:=HQW.out;have qg:=HQG.out;have ql:=HQL.out;have qv:=HQV.out;omega)).trans Bg.out);have HB13:=hidK (HB.out.trans (hk.low (X:=w.heap.size) HB.out.size (fun k s => by have s1:=s.1;have s2:=s.2;have q3:=HQ3.out;have q4:=HQ4.out;have q5:=HQ5.out;have q6:=HQ6.out;have q7:=HQW.out;have qg:=HQG.out;have ql:=HQL.out;have qv:=HQV.out;omega)));have CHY:=hidK (HY.out.kept hk (fun k s => by have s1:=s.1;have s2:=s.2;have q3:=HQ3.out;have q4:=HQ4.out;have q5:=HQ5.out;have q6:=HQ6.out;have q7:=HQW.out;have qg:=HQG.out;have ql:=HQL.out;have qv:=HQV.out;omega))
 clear HB HY hk HO1 Bk By Ba Bx Bu Bg;have HB:=HB13;clear HB13;have HY:=CHY;clear CHY;have Bk:=Ck;clear Ck;have By:=Cy;clear Cy;have Ba:=Ca;clear Ca;have Bx:=Cx;clear Cx;have Bu:=Cu;clear Cu;have Bg:=Cg;clear Cg;have HM1:=hidK ho;clear ho;rw [← HMM.out];obtain ⟨k0,k1,k2,k3,k4,k5⟩:=cs6 Bk.out;have ltk_13:=lt_of_some Bk.out;obtain ⟨y0,y1,y2,y3,y4,y5⟩:=cs6 By.out;have lty_13:=lt_of_some By.out;obtain ⟨a0,a1,a2,a3,a4,a5,a6,a7⟩:=cs8 Ba.out;have lta_13:=lt_of_some Ba.out;obtain ⟨x0,x1,x2,x3,x4,x5⟩:=cs6 Bx.out;have ltx_13:=lt_of_some Bx.out;obtain ⟨u0,u1,u2,u3,u4,u5⟩:=cs6 Bu.out;have ltu_13:=lt_of_some Bu.out;obtain ⟨g0,g1,g2,g3,g4,g5,g6,g7⟩:=cs8 Bg.out;have ltg_13:=lt_of_some Bg.out;go_wp2_with fail;refine (HH.out _ HM1.out.row).mono ?_;rintro e w11 ⟨rfl,hb⟩
 replace HZ : Hid (w6.heap.size ≤ w11.heap.size):=by have h8:=hb.size;have h9:=HZ.out;first | exact Nat.le_trans h9 h8 | (rw [size1] at h8;show _ ≤ _;omega)
 clear k0 k1 k2 k3 k4 k5 ltk_13 y0 y1 y2 y3 y4 y5 lty_13 a0 a1 a2 a3 a4 a5 a6 a7 lta_13 x0 x1 x2 x3 x4 x5 ltx_13 u0 u1 u2 u3 u4 u5 ltu_13 g0 g1 g2 g3 g4 g5 g6 g7 ltg_13;replace Bk:=upK Bk hb;replace By:=upK By hb;replace Ba:=upK Ba hb;replace Bx:=upK Bx hb;replace Bu:=upK Bu hb;replace Bg:=upK Bg hb;replace HY:=hidK (HY.out.below hb);replace HM1:=hidK (HM1.out.below hb);replace HB:=upB HB hb;clear hb;obtain ⟨k0,k1,k2,k3,k4,k5⟩:=cs6 Bk.out;have ltk_14:=lt_of_some Bk.out;obtain ⟨y0,y1,y2,y3,y4,y5⟩:=cs6 By.out;have lty_14:=lt_of_some By.out;go_wp2_with fail;rename_i K0 hK0;refine wp_region_grow_last (by kernel_rfl) rfl rfl (by kernel_rfl) ?_;refine' Grow.stepC _ rfl ?_ ?_;rotate_left 1
 ·refine Obl.plain rfl ?_;intro ac wg K hsz hW hf hK;clear hsz;have e2:=hf 2 (by decide)
  simp [slotFact,List.lookup] at e2
  clear hf;obtain ⟨k0,k1,k2,k3,k4,k5⟩:=cs6 ((hW.block _ (lt_of_some Bk.out)).trans Bk.out);go_simp;refine hK _ _ (Below.refl _ _) ?_;with_reducible rfl
 refine Grow.step (AddPodClV c) rfl (AddPodClV.mono c) ?_ ?_
 ·refine Obl.plain rfl ?_;intro ac wg K hsz hW hf hK;clear hsz;have e75:=hf 75 (by decide)
  simp [slotFact,List.lookup] at e75
  clear hf;go_simp;refine (toCluster_any d c _ (HR.out.below (HB.out.trans (hW.mono HB.out.size))) HF.out).mono ?_;rintro e w6 ⟨d3,rfl,ho,hb6⟩;exact hK _ _ hb6 ⟨d3,rfl,ho.row⟩
 refine' Grow.stepC _ rfl ?_ ?_;rotate_left 1
 ·refine Obl.plain rfl ?_;intro ac wg K hsz hW hf hK;clear hsz;have e3:=hf 3 (by decide)
  simp [slotFact,List.lookup] at e3
  clear hf;obtain ⟨y0,y1,y2,y3,y4,y5⟩:=cs6 ((hW.block _ (lt_of_some By.out)).trans By.out);go_simp;refine hK _ _ (Below.refl _ _) ?_;with_reducible rfl
 refine Grow.step (PodRcV x) rfl (PodRcV.mono x) ?_ ?_
 ·refine Obl.plain rfl ?_;intro ac wg K hsz hW hf hK;clear hsz;have e77:=hf 77 (by decide)
  simp [slotFact,List.lookup] at e77
  clear hf;go_simp;refine (toPod_ex x va vl vc _ (HX.out.below (HB.out.trans (hW.mono HB.out.size))) HVL.out).mono ?_;rintro e w6 ⟨g6,rfl,-,hg6,hb6⟩;exact hK _ _ hb6 ⟨_,_,_,rfl,tx_of_block HX.out hg6⟩
 refine Grow.step (AnsF (AddPodIs c x)) rfl (AnsF.mono _) ?_ ?_
 ·refine Obl.plain rfl ?_;intro ac wg K hsz hW hf hK;clear hsz;have e76:=hf 76 (by decide)
  simp [slotFact,List.lookup] at e76
  have e78:=hf 78 (by decide)
  simp [slotFact,List.lookup] at e78
  clear hf;obtain ⟨d3,e76,hrow⟩:=e76;obtain ⟨ta,tl,tc,e78,htx⟩:=e78;go_simp;refine (iaddP_any d3 c x ta tl tc E _ hrow (HE.out.below (HB.out.trans (hW.mono HB.out.size))) htx z0 z2 z4).mono ?_;rintro e w6 ⟨dg,o1,rfl,hI,ho,hb6⟩;exact hK _ _ hb6 ⟨dg,o1,rfl,hI,ho.fr⟩
 refine Grow.step (BoxF w11.heap.size) rfl (BoxF.mono _) ?_ ?_
 ·refine Obl.plain rfl ?_;intro ac wg K hsz hW hf hK;clear hsz;clear hf;go_simp;exact hK _ _ (below1 _ _) ⟨_,rfl,hW.size,Array.getElem?_push_size⟩
 refine Grow.done ?_;intro q wx hW hf;simp only [List.forall_mem_cons] at hf;obtain ⟨⟨b9,h9,hb9,hg9⟩,⟨dg2,o2,h69,hI2,hR2⟩,-⟩:=hf;obtain rfl:=HIS.out.same hI2;obtain ⟨t0,t1,t2,t3,t4,t5,t6,t7⟩:=cs8 hg9;have f0:=froK hg9 0;have f1:=froK hg9 1;have f2:=froK hg9 2;have f3:=froK hg9 3;have f4:=froK hg9 4;have f5:=froK hg9 5;have f6:=froK hg9 6;have f7:=froK hg9 7;have Bh:=hidK (put8 (v0:=.slice dg2.a1 dg2.l1 dg2.c1) (v1:=.slice dg2.a2 dg2.l2 dg2.c2) (v2:=.slice dg2.a3 dg2.l3 dg2.c3) (v3:=.slice dg2.a4 dg2.l4 dg2.c4) (v4:=.slice dg2.a5 dg2.l5 dg2.c5) (v5:=.int .i64 o.c.now) (v6:=.string o.n) (v7:=.int .i64 o.p) hg9);have HWX : Hid (Below w11.heap.size w11 ((((((((wx.setCell ⟨b9,0,none⟩ (.slice dg2.a1 dg2.l1 dg2.c1)).setCell ⟨b9,1,none⟩ (.slice dg2.a2 dg2.l2 dg2.c2)).setCell ⟨b9,2,none⟩ (.slice dg2.a3 dg2.l3 dg2.c3)).setCell ⟨b9,3,none⟩ (.slice dg2.a4 dg2.l4 dg2.c4)).setCell ⟨b9,4,none⟩ (.slice dg2.a5 dg2.l5 dg2.c5)).setCell ⟨b9,5,none⟩ (.int .i64 o.c.now)).setCell ⟨b9,6,none⟩ (.string o.n)).setCell ⟨b9,7,none⟩ (.int .i64 o.p))):=set_below hb9 (set_below hb9 (set_below hb9 (set_below hb9 (set_below hb9 (set_below hb9 (set_below hb9 (set_below hb9 (hW))))))));have R2 : Hid (ClFr ((((((((wx.setCell ⟨b9,0,none⟩ (.slice dg2.a1 dg2.l1 dg2.c1)).setCell ⟨b9,1,none⟩ (.slice dg2.a2 dg2.l2 dg2.c2)).setCell ⟨b9,2,none⟩ (.slice dg2.a3 dg2.l3 dg2.c3)).setCell ⟨b9,3,none⟩ (.slice dg2.a4 dg2.l4 dg2.c4)).setCell ⟨b9,4,none⟩ (.slice dg2.a5 dg2.l5 dg2.c5)).setCell ⟨b9,5,none⟩ (.int .i64 o.c.now)).setCell ⟨b9,6,none⟩ (.string o.n)).setCell ⟨b9,7,none⟩ (.int .i64 o.p)) dg2 o.c.raw (fun _ => True)):=hR2.past hg9 (fun k hk => put8_ne hk);clear hg9 hI2 hR2;intro K hK;rw [if_pos (by rfl)];simp only [putsAll,List.foldr,Act.put,List.setIfInBounds_toArray,List.set_cons_zero,List.set_cons_succ,h9,h69];simp only [List.getLast];go_simp;refine hK _ _ ?_;refine hK0 _ _ ?_
 clear hK hK0 K K0
 generalize ((((((((wx.setCell ⟨b9,0,none⟩ (.slice dg2.a1 dg2.l1 dg2.c1)).setCell ⟨b9,1,none⟩ (.slice dg2.a2 dg2.l2 dg2.c2)).setCell ⟨b9,2,none⟩ (.slice dg2.a3 dg2.l3 dg2.c3)).setCell ⟨b9,3,none⟩ (.slice dg2.a4 dg2.l4 dg2.c4)).setCell ⟨b9,4,none⟩ (.slice dg2.a5 dg2.l5 dg2.c5)).setCell ⟨b9,5,none⟩ (.int .i64 o.c.now)).setCell ⟨b9,6,none⟩ (.string o.n)).setCell ⟨b9,7,none⟩ (.int .i64 o.p)) = X9 at Bh HWX R2 ⊢
 clear t0 t1 t2 t3 t4 t5 t6 t7 f0 f1 f2 f3 f4 f5 f6 f7 hW hb9;have hb:=HWX.out;clear k0 k1 k2 k3 k4 k5 ltk_14 y0 y1 y2 y3 y4 y5 lty_14;replace Bk:=upK Bk hb;replace By:=upK By hb;replace Ba:=upK Ba hb;replace Bx:=upK Bx hb;replace Bu:=upK Bu hb;replace Bg:=upK Bg hb;replace HY:=hidK (HY.out.below hb);replace HM1:=hidK (HM1.out.below hb);replace HB:=upB HB hb;clear hb;clear HWX;have RR2:=hidK R2.out.row;clear R2;obtain ⟨k0,k1,k2,k3,k4,k5⟩:=cs6 Bk.out;have ltk_15:=lt_of_some Bk.out;obtain ⟨y0,y1,y2,y3,y4,y5⟩:=cs6 By.out;have lty_15:=lt_of_some By.out;obtain ⟨a0,a1,a2,a3,a4,a5,a6,a7⟩:=cs8 Ba.out;have lta_15:=lt_of_some Ba.out;obtain ⟨x0,x1,x2,x3,x4,x5⟩:=cs6 Bx.out;have ltx_15:=lt_of_some Bx.out;obtain ⟨u0,u1,u2,u3,u4,u5⟩:=cs6 Bu.out;have ltu_15:=lt_of_some Bu.out;obtain ⟨g0,g1,g2,g3,g4,g5,g6,g7⟩:=cs8 Bg.out;have ltg_15:=lt_of_some Bg.out;obtain ⟨h0,h1,h2,h3,h4,h5,h6,h7⟩:=cs8 Bh.out;have lth_15:=lt_of_some Bh.out;go_wp2_with fail;refine (eqCout_any dg2 dg0 o _ (RR2.out) (RR.out.below HY.out.out)).mono ?_;rintro e w14 ⟨rfl,hb⟩;clear k0 k1 k2 k3 k4 k5 ltk_15 y0 y1 y2 y3 y4 y5 lty_15 a0 a1 a2 a3 a4 a5 a6 a7 lta_15 x0 x1 x2 x3 x4 x5 ltx_15 u0 u1 u2 u3 u4 u5 ltu_15 g0 g1 g2 g3 g4 g5 g6 g7 ltg_15 h0 h1 h2 h3 h4 h5 h6 h7 lth_15;replace Bk:=upK Bk hb;replace By:=upK By hb;replace Ba:=upK Ba hb;replace Bx:=upK Bx hb;replace Bu:=upK Bu hb;replace Bg:=upK Bg hb;replace Bh:=upK Bh hb;replace HY:=hidK (HY.out.below hb);replace HM1:=hidK (HM1.out.below hb);replace HB:=upB HB hb;clear hb;obtain ⟨k0,k1,k2,k3,k4,k5⟩:=cs6 Bk.out;have ltk_16:=lt_of_some Bk.out;obtain ⟨y0,y1,y2,y3,y4,y5⟩:=cs6 By.out;have lty_16:=lt_of_some By.out;obtain ⟨a0,a1,a2,a3,a4,a5,a6,a7⟩:=cs8 Ba.out;have lta_16:=lt_of_some Ba.out;obtain ⟨x0,x1,x2,x3,x4,x5⟩:=cs6 Bx.out;have ltx_16:=lt_of_some Bx.out
 obtain ⟨u0,u1,u2,u3,u4,u5⟩:=cs6 Bu.out;have ltu_16:=lt_of_some Bu.out;obtain ⟨g0,g1,g2,g3,g4,g5,g6,g7⟩:=cs8 Bg.out;have ltg_16:=lt_of_some Bg.out;obtain ⟨h0,h1,h2,h3,h4,h5,h6,h7⟩:=cs8 Bh.out;have lth_16:=lt_of_some Bh.out;go_wp2_with fail;refine (HH.out _ HM1.out.row).mono ?_;rintro e w15 ⟨rfl,hb⟩;clear k0 k1 k2 k3 k4 k5 ltk_16 y0 y1 y2 y3 y4 y5 lty_16 a0 a1 a2 a3 a4 a5 a6 a7 lta_16 x0 x1 x2 x3 x4 x5 ltx_16 u0 u1 u2 u3 u4 u5 ltu_16 g0 g1 g2 g3 g4 g5 g6 g7 ltg_16 h0 h1 h2 h3 h4 h5 h6 h7 lth_16;replace Bk:=upK Bk hb;replace By:=upK By hb;replace Ba:=upK Ba hb;replace Bx:=upK Bx hb;replace Bu:=upK Bu hb;replace Bg:=upK Bg hb;replace Bh:=upK Bh hb;replace HY:=hidK (HY.out.below hb);replace HM1:=hidK (HM1.out.below hb);replace HB:=upB HB hb;clear hb;go_wp2_with fail;go_ret;exact ⟨rfl,HB.out⟩

set_option linter.unusedVariables false in
theorem fnExactAddPod_walk (a1 : Option Addr) (l1 y1 : Nat) (ns : List Nd) (a2 : Option Addr) (l2 y2 : Nat) (ks : List Kd) (a3 : Option Addr) (l3 y3 : Nat) (vs : List Vd) (a4 : Option Addr) (l4 y4 : Nat) (xs : List Xd) (a5 : Option Addr) (l5 y5 : Nat) (ps : List Pd) (now : Int) (x0 : ByteArray) (x1 : Int) (x2 : ByteArray) (x3 : Option Addr) (xl xc : Nat) (zs : List ByteArray) (x4 : ByteArray) (x5 : Int) (w : World)
  (h1 : RRow w a1 l1 y1 7 (ns.map ndF)) (h2 : RRow w a2 l2 y2 4 (ks.map kdF)) (h3 : RRow w a3 l3 y3 8 (vs.map vdF)) (h4 : RRow w a4 l4 y4 5 (xs.map xdF)) (h5 : RRow w a5 l5 y5 6 (ps.map pdF)) (_ : (Lit.int .i64 now).wf = true) (hx0 : x0.size ≤ maxLen) (_ : (Lit.int .i64 x1).wf = true) (hx2 : x2.size ≤ maxLen) (hx3 : TxRow w x3 xl xc zs) (hx4 : x4.size ≤ maxLen) (_ : (Lit.int .i64 x5).wf = true) (hG : ∃ E,Ers w E) :
  Calls Tryz.prog 4 #[.agg #[.slice a1 l1 y1,.slice a2 l2 y2,.slice a3 l3 y3,.slice a4 l4 y4,.slice a5 l5 y5,.int .i64 now],.agg #[.string x0,.int .i64 x1,.string x2,.slice x3 xl xc,.string x4,.int .i64 x5]] w fun e w' => e = .returned (.bool true) ∧ Below w.heap.size w w':=by
 obtain ⟨E,hG⟩:=hG;exact addPod_walk ⟨a1,l1,y1,a2,l2,y2,a3,l3,y3,a4,l4,y4,a5,l5,y5⟩ ⟨ns,ks,vs,xs,ps,now⟩ ⟨x0,x1,x2,zs,x4,x5⟩ x3 xl xc E w ⟨h1,h2,h3,h4,h5⟩ hx3 hx0 hx2 hx4 hG

end Go.Proofs.YtcogpoamhflgjaaGreatDoor

namespace Go.Proofs.YtcogpoamhflgjaaGreatDoor
open Go.RowKit
namespace Rc

theorem wordStar : "*" ++ "errors.errorString" = "*errors.errorString":=by decide
theorem wordRow (u : TypeId) (h : Tryz.prog.typeName? 3 u = some "*errors.errorString") : u = 193 :=
 typeName_ptr_named (nm:= "errors.errorString") (by rw [wordStar];kernel_rfl) (by kernel_rfl) (by decide) u (by rw [wordStar];exact h)

theorem laid_words {P : Program} {W : World} {nm : String} {ti tp te ts : TypeId} {ms : Array (String × TypeId)} {f : Field} (hi : P.underlying ti = some (.interface ms)) (hrow : ∀ u,P.typeName? 3 u = some nm → u = tp)
  (hp : P.underlying tp = some (.pointer te)) (he : P.underlying te = some (.struct #[f])) (hft : f.type = ts) (hfo : f.offset = 0) (hs : P.underlying ts = some .string) (hc : P.cellsOf te = 1) (hcs : P.cellsOf ts = 1) :
  ∀ (l : List (String × List UInt8)) (ps : List MemPlace),(∀ x ∈ l,∃ g,P.globalNamed x.1 = some g ∧ (P.globals[g]?).map (·.type) = some ti) →
   DataW.LaidVars P W (l.map fun x => (x.1,.iface nm (.ptr (.agg [.lit (.string x.2)])))) ps → ps.Nodup →
   (∀ b off,MemPlace.cell b off ∈ ps → (∃ c t,W.heap[b]? = some (.cells c t (0,0))) ∧ ∀ u v,W.cell? ⟨b,off,none⟩ = some (.iface u v) → Value.okWide P W .any 0 u v) →
   ∃ E : Nat → Addr,(∀ (i : Nat) x,l[i]? = some x → W.var? P x.1 = some #[.iface tp (.pointer (some (E i)))] ∧ MemPlace.cell (E i).block (E i).off ∈ ps) ∧ ∀ i j,i < l.length → j < l.length → E i = E j → i = j
 | [],ps,_,_,_,_ => ⟨fun _ => ⟨0,0,none⟩,fun i x h => by simp at h,fun i j h => by simp at h⟩
 | x :: l,ps,hT,hv,hnd,hrows => by
  obtain ⟨g,t,cs,fuel,p,q,hg,ht,hvar,hd,hq,rfl⟩:=hv;obtain ⟨g',hg',ht'⟩:=hT x (by simp);obtain rfl:=Option.some.inj (hg.symm.trans hg');obtain rfl:=Option.some.inj (ht.symm.trans ht');have hsub : ∀ {y},y ∈ q → y ∈ MemPlace.row ⟨g,0,none⟩ cs.size ++ p ++ q:=fun h => List.mem_append_right _ h;obtain ⟨E,hE1,hE2⟩:=laid_words hi hrow hp he hft hfo hs hc hcs l q (fun y hy => hT y (by simp [hy])) hq (List.Nodup.sublist (List.sublist_append_right _ _) hnd) (fun b off hm => hrows b off (hsub hm));obtain ⟨l0⟩:=cs
  have ok0 : ∀ u v,l0 = [.iface u v] → Value.okWide P W .any 0 u v:=fun u v e => by
   subst e;exact (hrows g 0 (by simp [MemPlace.row])).2 u v (by simpa using World.var?_cell hg hvar 0)
  obtain ⟨a0,s0,rfl,hc0,hs0,hz0,rfl⟩:=errorString_of_trod hi hrow hp he hft hfo hs hc hcs hd ok0
  have ha : MemPlace.cell a0.block a0.off ∈ MemPlace.row a0 1:=by simp [MemPlace.row]
  have hdis : ∀ i,i < l.length → ¬ E i = a0:=fun i hi' e => by
   have h1:=(hE1 i _ (List.getElem?_eq_getElem hi')).2;rw [e] at h1;have h2:=(List.nodup_append.1 hnd).2.2 _ (List.mem_append_right _ ha) _ h1;exact h2 rfl
  refine ⟨fun i => match i with | 0 => a0 | i + 1 => E i,fun i y hy => ?_,fun i j hi' hj' e => ?_⟩
  ·cases i with
   | zero =>
    obtain rfl : x = y:=by simpa using hy
    exact ⟨hvar,List.mem_append_left _ (List.mem_append_right _ ha)⟩
   | succ i =>
    obtain ⟨h1,h2⟩:=hE1 i y (by simpa using hy);exact ⟨h1,hsub h2⟩
  ·cases i with
   | zero => cases j with
    | zero => rfl
    | succ j => exact absurd e.symm (hdis j (by simpa using hj'))
   | succ i => cases j with
    | zero => exact absurd e (hdis i (by simpa using hi'))
    | succ j => rw [hE2 i j (by simpa using hi') (by simpa using hj') e]

theorem vars_length {H : Type} {enc : TypeId × Value → H} {P : Program} {w : World} {sp : Nat → Bool} : ∀ (ns : List String) (gs : List (DataW H)) (ps : List MemPlace),DataW.TrodVars enc P w sp ns gs ps → gs.length = ns.length
 | [],[],_,_ => rfl
 | [],_ :: _,_,h => h.elim
 | _ :: _,[],_,h => h.elim
 | _ :: ns,_ :: gs,_,h => by
  obtain ⟨_,_,_,_,_,q,_,_,_,_,h1,_⟩:=h
  simp [vars_length ns gs q h1]
theorem len10 {α : Type} : ∀ {l : List α},l.length = 10 → ∃ a b c d e f g h i j,l = [a,b,c,d,e,f,g,h,i,j]
 | [a,b,c,d,e,f,g,h,i,j],_ => ⟨a,b,c,d,e,f,g,h,i,j,rfl⟩

end Rc
end Go.Proofs.YtcogpoamhflgjaaGreatDoor

namespace Go.Proofs.YtcogpoamhflgjaaGreatDoor
open Go.RowKit Go.ChangeShapes Go.WideShapes Go.Deep

theorem list6 {α : Type} {l : List α} (h : l.length = 6) : ∃ x0 x1 x2 x3 x4 x5,l = [x0,x1,x2,x3,x4,x5]:=by
 match l,h with
 | [x0,x1,x2,x3,x4,x5],_ => exact ⟨_,_,_,_,_,_,rfl⟩
section
variable {H : Type} {enc : TypeId × Value → H} {P : Program} {w : World} {base : Nat} {spare : Nat → Bool} {held : Bool}

theorem open_aggN {r : Reach} {b0 : Nat} {t : TypeId} {fs : Array Field} {v : Value} {d : DataW H} {p : List MemPlace} (hs : P.underlying t = some (.struct fs)) (hone : oneCellFields P fs = true) (hC : P.cellsOf t = fs.size)
  (hv : Value.okWide P w r b0 t v) (h : DataW.Trod enc P w base spare held t v d p) :
  ∃ (cs : List Value) (n : Nat),v = .agg cs.toArray ∧ cs.length = fs.size ∧ ∀ (i : Nat) (f : Field),fs[i]? = some f → ∃ c y,cs[i]? = some c ∧ DataW.trod enc P w base spare held n f.type [c] = some y:=by
 obtain ⟨cs,rfl,hsz⟩:=okWide_struct hs hv;obtain ⟨fuel,hf⟩:=h;obtain ⟨xs,n,_,hx,hl,hlen,hf'⟩:=DataW.trod_struct hs hf;refine ⟨cs.toList,n,rfl,by rw [Array.length_toList];exact hsz.trans hC,fun i f hi => ?_⟩;obtain ⟨o,k⟩:=hone_of hone i f hi;have hlt : i < fs.size:=(Array.getElem?_eq_some_iff.1 hi).1
 have hlc : i < cs.toList.length:=by rw [Array.length_toList,hsz,hC];exact hlt
 have g:=hf' i f hi;rw [o,k] at g
 have e : ((Value.agg cs).cells.toList.drop i).take 1 = [cs.toList[i]'hlc]:=by
  show (cs.toList.drop i).take 1 = _
  rw [List.drop_eq_getElem_cons hlc]
  rfl
 rw [e] at g;exact ⟨_,xs[i]'(by omega),List.getElem?_eq_getElem hlc,by rw [g,List.getElem?_eq_getElem]⟩

theorem row_of_trod {t e : TypeId} {n : Nat} {c : Value} {y : DataW H × List MemPlace} (ht : P.underlying t = some (.slice e)) (he : P.underlying e = some .string) (hc : P.cellsOf e = 1)
  (h : DataW.trod enc P w base spare held n t [c] = some y) : ∃ a len cap zs,c = .slice a len cap ∧ TxRow w a len cap zs:=by
 rcases open_strs ht he hc h with ⟨hcs,_⟩ | ⟨a,len,cap,m,Sx,hcs,hb,hl,hm,hmm,_,hx⟩
 ·exact ⟨none,0,0,[],by simpa using hcs,rfl,Nat.le_refl _,by omega,fun j x hx => by simp at hx,Or.inl rfl⟩
 ·have hlm : len ≤ m:=by rw [hmm];split <;> omega
  have hm' : cap ≤ 9223372036854775807:=by unfold maxLen at hm;omega
  refine ⟨some a,len,cap,(List.range len).map Sx,by simpa using hcs,by simp,hl,hm',fun j x hj => ?_,?_⟩
  ·rw [List.getElem?_map] at hj
   by_cases hjl : j < len
   ·rw [List.getElem?_range hjl] at hj;obtain rfl:=Option.some.inj hj;have:=(hx j (by omega)).2;unfold maxLen at this
    omega
   ·rw [List.getElem?_eq_none (by simp;omega)] at hj
    cases hj
  ·by_cases h0 : len = 0
   ·subst h0;exact Or.inl rfl
   right
   obtain ⟨b,o,spot⟩:=a;have h0':=(hx 0 (by omega)).1
   have hspot : spot = none:=by simpa [Addr.add] using World.cell?_spot h0'
   subst hspot;refine ⟨b,o,rfl,?_,fun j x hj => ?_⟩
   ·rw [Addr.add_lit] at h0'
    rcases Nat.lt_or_ge b w.heap.size with h1 | h1
    ·exact h1
    ·simp [World.cell?,Array.getElem?_eq_none h1] at h0'
   ·rw [List.getElem?_map] at hj
    by_cases hjl : j < len
    ·rw [List.getElem?_range hjl] at hj;obtain rfl:=Option.some.inj hj;have:=(hx j (by omega)).1;rw [Addr.add_lit] at this;exact this
    ·rw [List.getElem?_eq_none (by simp;omega)] at hj
     cases hj
end

section
variable {H : Type} {enc : TypeId × Value → H} {w : World} {base : Nat} {spare : Nat → Bool} {held : Bool}

theorem open_aggC {P : Program} {n : Nat} {t : TypeId} {fs : Array Field} {cs : List Value} {x : DataW H × List MemPlace} (hs : P.underlying t = some (.struct fs)) (hone : oneCellFields P fs = true) (hC : P.cellsOf t = fs.size)
  (h : DataW.trod enc P w base spare held n t cs = some x) :
  ∃ (n : Nat),cs.length = fs.size ∧ ∀ (i : Nat) (f : Field),fs[i]? = some f → ∃ c y,cs[i]? = some c ∧ DataW.trod enc P w base spare held n f.type [c] = some y:=by
 obtain ⟨xs,n,_,hx,hl,hlen,hf'⟩:=DataW.trod_struct hs h;refine ⟨n,hl.trans hC,fun i f hi => ?_⟩;obtain ⟨o,k⟩:=hone_of hone i f hi;have hlt : i < fs.size:=(Array.getElem?_eq_some_iff.1 hi).1
 have hlc : i < cs.length:=by rw [hl,hC];exact hlt
 have g:=hf' i f hi;rw [o,k] at g
 have e : (cs.drop i).take 1 = [cs[i]'hlc]:=by
  rw [List.drop_eq_getElem_cons hlc]
  rfl
 rw [e] at g;exact ⟨_,xs[i]'(by omega),List.getElem?_eq_getElem hlc,by rw [g,List.getElem?_eq_getElem]⟩

end

end Go.Proofs.YtcogpoamhflgjaaGreatDoor

namespace Go.Proofs.YtcogpoamhflgjaaGreatDoor
open Go.RowKit Go.ChangeShapes Go.WideShapes Go.Deep
namespace Rc

section
variable {H : Type} {enc : TypeId × Value → H} {w : World} {base : Nat} {spare : Nat → Bool} {held : Bool}

theorem nd_of_trod {b o n : Nat} {cs : List Value} {x : DataW H × List MemPlace} (hc : ∀ i,i < 7 → w.cell? ⟨b,o + i,none⟩ = cs[i]?) (h : DataW.trod enc Tryz.prog w base spare held n 109 cs = some x) : ∃ v : Nd,RAt w b o (ndF v):=by
 obtain ⟨m,hl,hf⟩:=open_aggC Tryz.underlying109 (by kernel_rfl) (by kernel_rfl) h;obtain ⟨c0,y0,e0,t0⟩:=hf 0 _ rfl;obtain ⟨b0,q0,-,s0⟩:=DataW.trod_string Tryz.underlying9 t0
 obtain rfl : c0 = .string b0:=by simpa using q0
 obtain ⟨c1,y1,e1,t1⟩:=hf 1 _ rfl;obtain ⟨b1,q1,-,s1⟩:=DataW.trod_string Tryz.underlying9 t1
 obtain rfl : c1 = .string b1:=by simpa using q1
 obtain ⟨c2,y2,e2,t2⟩:=hf 2 _ rfl;obtain ⟨b2,q2,-,s2⟩:=DataW.trod_int Tryz.underlying2 t2
 obtain rfl : c2 = .int .i64 b2:=by simpa using q2
 obtain ⟨c3,y3,e3,t3⟩:=hf 3 _ rfl;obtain ⟨b3,q3,-,s3⟩:=DataW.trod_int Tryz.underlying2 t3
 obtain rfl : c3 = .int .i64 b3:=by simpa using q3
 obtain ⟨c4,y4,e4,t4⟩:=hf 4 _ rfl;obtain ⟨b4,q4,-,s4⟩:=DataW.trod_int Tryz.underlying2 t4
 obtain rfl : c4 = .int .i64 b4:=by simpa using q4
 obtain ⟨c5,y5,e5,t5⟩:=hf 5 _ rfl;obtain ⟨b5,q5,-⟩:=DataW.trod_bool Tryz.underlying4 t5
 obtain rfl : c5 = .bool b5:=by simpa using q5
 obtain ⟨c6,y6,e6,t6⟩:=hf 6 _ rfl;obtain ⟨b6,l6,p6,zz,rfl,r6⟩:=row_of_trod Tryz.underlying29 Tryz.underlying9 (by kernel_rfl) t6;unfold maxLen at s0 s1;refine ⟨⟨b0,b1,b2,b3,b4,b5,zz⟩,fun i f hi => ?_⟩
 rcases i with _ | _ | _ | _ | _ | _ | _ | i
 ·cases hi
  exact ⟨_,(hc 0 (by omega)).trans e0,rfl,show b0.size ≤ _ by omega⟩
 ·cases hi
  exact ⟨_,(hc 1 (by omega)).trans e1,rfl,show b1.size ≤ _ by omega⟩
 ·cases hi
  exact ⟨_,(hc 2 (by omega)).trans e2,rfl⟩
 ·cases hi
  exact ⟨_,(hc 3 (by omega)).trans e3,rfl⟩
 ·cases hi
  exact ⟨_,(hc 4 (by omega)).trans e4,rfl⟩
 ·cases hi
  exact ⟨_,(hc 5 (by omega)).trans e5,rfl⟩
 ·cases hi
  exact ⟨_,(hc 6 (by omega)).trans e6,b6,l6,p6,rfl,r6⟩
 ·first | (cases hi;done) | (simp [ndF] at hi;done)

theorem ndrow_of_trod {n : Nat} {c : Value} {y : DataW H × List MemPlace} (h : DataW.trod enc Tryz.prog w base spare held n 22 [c] = some y) : ∃ a len cap,∃ xs : List Nd,c = .slice a len cap ∧ RRow w a len cap 7 (xs.map ndF):=by
 rcases open_slice Tryz.underlying22 h with ⟨hcs,_⟩ | ⟨a,len,cap,m,n',D,Pl,hcs,hb,hl,hm,hmm,_,hx⟩
 ·exact ⟨none,0,0,[],by simpa using hcs,rfl,Nat.le_refl _,by omega,.inl rfl⟩
 have hlm : len ≤ m:=by rw [hmm];split <;> omega
 have hm' : cap ≤ 9223372036854775807:=by unfold maxLen at hm;omega
 have hce : Tryz.prog.cellsOf 109 = 7:=by kernel_rfl
 rw [hce] at hx
 by_cases h0 : len = 0
 ·subst h0;exact ⟨some a,0,cap,[],by simpa using hcs,rfl,hl,hm',.inl rfl⟩
 obtain ⟨b,o,spot⟩:=a;obtain ⟨cs0,k1,k2⟩:=hx 0 (by omega)
 have hspot : spot = none:=by
  obtain ⟨_,hl0,hc0⟩:=World.cells?_some k1;have:=hc0 0 (by omega);rw [List.getElem?_eq_getElem (by omega)] at this
  simpa [Addr.add] using World.cell?_spot this
 subst hspot
 have hblt : b < w.heap.size:=by
  obtain ⟨_,hl0,hc0⟩:=World.cells?_some k1;have:=hc0 0 (by omega);rw [List.getElem?_eq_getElem (by omega)] at this
  rcases Nat.lt_or_ge b w.heap.size with h1 | h1
  ·exact h1
  ·simp [Addr.add,World.cell?,Array.getElem?_eq_none h1] at this
 have each : ∀ i,i < len → ∃ v : Nd,RAt w b (o + i * 7) (ndF v):=fun i hi => by
  obtain ⟨cs,k1,k2⟩:=hx i (by omega);obtain ⟨_,hl0,hc0⟩:=World.cells?_some k1;refine nd_of_trod (fun j hj => ?_) k2;have:=hc0 j hj;rw [add_add,Addr.add_lit] at this;rw [Nat.add_assoc];exact this
 have hin : Inhabited Nd:=⟨⟨⟨#[]⟩,⟨#[]⟩,0,0,0,false,[]⟩⟩;obtain ⟨f,hf⟩:=choose_lt each;refine ⟨some ⟨b,o,none⟩,len,cap,(List.range len).map f,by simpa using hcs,by simp,hl,hm',.inr ⟨b,o,rfl,hblt,fun j r hj => ?_⟩⟩;rw [List.getElem?_map,List.getElem?_map] at hj
 by_cases hjl : j < len
 ·rw [List.getElem?_range hjl] at hj;obtain rfl:=Option.some.inj hj;exact hf j hjl
 ·rw [List.getElem?_eq_none (by simp;omega)] at hj
  cases hj

theorem kd_of_trod {b o n : Nat} {cs : List Value} {x : DataW H × List MemPlace} (hc : ∀ i,i < 4 → w.cell? ⟨b,o + i,none⟩ = cs[i]?) (h : DataW.trod enc Tryz.prog w base spare held n 112 cs = some x) : ∃ v : Kd,RAt w b o (kdF v):=by
 obtain ⟨m,hl,hf⟩:=open_aggC Tryz.underlying112 (by kernel_rfl) (by kernel_rfl) h;obtain ⟨c0,y0,e0,t0⟩:=hf 0 _ rfl;obtain ⟨b0,q0,-,s0⟩:=DataW.trod_string Tryz.underlying9 t0
 obtain rfl : c0 = .string b0:=by simpa using q0
 obtain ⟨c1,y1,e1,t1⟩:=hf 1 _ rfl;obtain ⟨b1,q1,-⟩:=DataW.trod_bool Tryz.underlying4 t1
 obtain rfl : c1 = .bool b1:=by simpa using q1
 obtain ⟨c2,y2,e2,t2⟩:=hf 2 _ rfl;obtain ⟨b2,q2,-⟩:=DataW.trod_bool Tryz.underlying4 t2
 obtain rfl : c2 = .bool b2:=by simpa using q2
 obtain ⟨c3,y3,e3,t3⟩:=hf 3 _ rfl;obtain ⟨b3,q3,-,s3⟩:=DataW.trod_string Tryz.underlying9 t3
 obtain rfl : c3 = .string b3:=by simpa using q3
 unfold maxLen at s0 s3;refine ⟨⟨b0,b1,b2,b3⟩,fun i f hi => ?_⟩
 rcases i with _ | _ | _ | _ | i
 ·cases hi
  exact ⟨_,(hc 0 (by omega)).trans e0,rfl,show b0.size ≤ _ by omega⟩
 ·cases hi
  exact ⟨_,(hc 1 (by omega)).trans e1,rfl⟩
 ·cases hi
  exact ⟨_,(hc 2 (by omega)).trans e2,rfl⟩
 ·cases hi
  exact ⟨_,(hc 3 (by omega)).trans e3,rfl,show b3.size ≤ _ by omega⟩
 ·first | (cases hi;done) | (simp [kdF] at hi;done)

theorem kdrow_of_trod {n : Nat} {c : Value} {y : DataW H × List MemPlace} (h : DataW.trod enc Tryz.prog w base spare held n 23 [c] = some y) : ∃ a len cap,∃ xs : List Kd,c = .slice a len cap ∧ RRow w a len cap 4 (xs.map kdF):=by
 rcases open_slice Tryz.underlying23 h with ⟨hcs,_⟩ | ⟨a,len,cap,m,n',D,Pl,hcs,hb,hl,hm,hmm,_,hx⟩
 ·exact ⟨none,0,0,[],by simpa using hcs,rfl,Nat.le_refl _,by omega,.inl rfl⟩
 have hlm : len ≤ m:=by rw [hmm];split <;> omega
 have hm' : cap ≤ 9223372036854775807:=by unfold maxLen at hm;omega
 have hce : Tryz.prog.cellsOf 112 = 4:=by kernel_rfl
 rw [hce] at hx
 by_cases h0 : len = 0
 ·subst h0;exact ⟨some a,0,cap,[],by simpa using hcs,rfl,hl,hm',.inl rfl⟩
 obtain ⟨b,o,spot⟩:=a;obtain ⟨cs0,k1,k2⟩:=hx 0 (by omega)
 have hspot : spot = none:=by
  obtain ⟨_,hl0,hc0⟩:=World.cells?_some k1;have:=hc0 0 (by omega);rw [List.getElem?_eq_getElem (by omega)] at this
  simpa [Addr.add] using World.cell?_spot this
 subst hspot
 have hblt : b < w.heap.size:=by
  obtain ⟨_,hl0,hc0⟩:=World.cells?_some k1;have:=hc0 0 (by omega);rw [List.getElem?_eq_getElem (by omega)] at this
  rcases Nat.lt_or_ge b w.heap.size with h1 | h1
  ·exact h1
  ·simp [Addr.add,World.cell?,Array.getElem?_eq_none h1] at this
 have each : ∀ i,i < len → ∃ v : Kd,RAt w b (o + i * 4) (kdF v):=fun i hi => by
  obtain ⟨cs,k1,k2⟩:=hx i (by omega);obtain ⟨_,hl0,hc0⟩:=World.cells?_some k1;refine kd_of_trod (fun j hj => ?_) k2;have:=hc0 j hj;rw [add_add,Addr.add_lit] at this;rw [Nat.add_assoc];exact this
 have hin : Inhabited Kd:=⟨⟨⟨#[]⟩,false,false,⟨#[]⟩⟩⟩;obtain ⟨f,hf⟩:=choose_lt each;refine ⟨some ⟨b,o,none⟩,len,cap,(List.range len).map f,by simpa using hcs,by simp,hl,hm',.inr ⟨b,o,rfl,hblt,fun j r hj => ?_⟩⟩;rw [List.getElem?_map,List.getElem?_map] at hj
 by_cases hjl : j < len
 ·rw [List.getElem?_range hjl] at hj;obtain rfl:=Option.some.inj hj;exact hf j hjl
 ·rw [List.getElem?_eq_none (by simp;omega)] at hj
  cases hj

theorem vd_of_trod {b o n : Nat} {cs : List Value} {x : DataW H × List MemPlace} (hc : ∀ i,i < 8 → w.cell? ⟨b,o + i,none⟩ = cs[i]?) (h : DataW.trod enc Tryz.prog w base spare held n 31 cs = some x) : ∃ v : Vd,RAt w b o (vdF v):=by
 obtain ⟨m,hl,hf⟩:=open_aggC Tryz.underlying31 (by kernel_rfl) (by kernel_rfl) h;obtain ⟨c0,y0,e0,t0⟩:=hf 0 _ rfl;obtain ⟨b0,q0,-,s0⟩:=DataW.trod_string Tryz.underlying9 t0
 obtain rfl : c0 = .string b0:=by simpa using q0
 obtain ⟨c1,y1,e1,t1⟩:=hf 1 _ rfl;obtain ⟨b1,q1,-,s1⟩:=DataW.trod_int Tryz.underlying2 t1
 obtain rfl : c1 = .int .i64 b1:=by simpa using q1
 obtain ⟨c2,y2,e2,t2⟩:=hf 2 _ rfl;obtain ⟨b2,q2,-,s2⟩:=DataW.trod_string Tryz.underlying9 t2
 obtain rfl : c2 = .string b2:=by simpa using q2
 obtain ⟨c3,y3,e3,t3⟩:=hf 3 _ rfl;obtain ⟨b3,q3,-,s3⟩:=DataW.trod_string Tryz.underlying9 t3
 obtain rfl : c3 = .string b3:=by simpa using q3
 obtain ⟨c4,y4,e4,t4⟩:=hf 4 _ rfl;obtain ⟨b4,q4,-⟩:=DataW.trod_bool Tryz.underlying4 t4
 obtain rfl : c4 = .bool b4:=by simpa using q4
 obtain ⟨c5,y5,e5,t5⟩:=hf 5 _ rfl;obtain ⟨b5,q5,-,s5⟩:=DataW.trod_string Tryz.underlying9 t5
 obtain rfl : c5 = .string b5:=by simpa using q5
 obtain ⟨c6,y6,e6,t6⟩:=hf 6 _ rfl;obtain ⟨b6,q6,-⟩:=DataW.trod_bool Tryz.underlying4 t6
 obtain rfl : c6 = .bool b6:=by simpa using q6
 obtain ⟨c7,y7,e7,t7⟩:=hf 7 _ rfl;obtain ⟨b7,l7,p7,zz,rfl,r7⟩:=row_of_trod Tryz.underlying29 Tryz.underlying9 (by kernel_rfl) t7;unfold maxLen at s0 s2 s3 s5;refine ⟨⟨b0,b1,b2,b3,b4,b5,b6,zz⟩,fun i f hi => ?_⟩
 rcases i with _ | _ | _ | _ | _ | _ | _ | _ | i
 ·cases hi
  exact ⟨_,(hc 0 (by omega)).trans e0,rfl,show b0.size ≤ _ by omega⟩
 ·cases hi
  exact ⟨_,(hc 1 (by omega)).trans e1,rfl⟩
 ·cases hi
  exact ⟨_,(hc 2 (by omega)).trans e2,rfl,show b2.size ≤ _ by omega⟩
 ·cases hi
  exact ⟨_,(hc 3 (by omega)).trans e3,rfl,show b3.size ≤ _ by omega⟩
 ·cases hi
  exact ⟨_,(hc 4 (by omega)).trans e4,rfl⟩
 ·cases hi
  exact ⟨_,(hc 5 (by omega)).trans e5,rfl,show b5.size ≤ _ by omega⟩
 ·cases hi
  exact ⟨_,(hc 6 (by omega)).trans e6,rfl⟩
 ·cases hi
  exact ⟨_,(hc 7 (by omega)).trans e7,b7,l7,p7,rfl,r7⟩
 ·first | (cases hi;done) | (simp [vdF] at hi;done)

theorem vdrow_of_trod {n : Nat} {c : Value} {y : DataW H × List MemPlace} (h : DataW.trod enc Tryz.prog w base spare held n 24 [c] = some y) : ∃ a len cap,∃ xs : List Vd,c = .slice a len cap ∧ RRow w a len cap 8 (xs.map vdF):=by
 rcases open_slice Tryz.underlying24 h with ⟨hcs,_⟩ | ⟨a,len,cap,m,n',D,Pl,hcs,hb,hl,hm,hmm,_,hx⟩
 ·exact ⟨none,0,0,[],by simpa using hcs,rfl,Nat.le_refl _,by omega,.inl rfl⟩
 have hlm : len ≤ m:=by rw [hmm];split <;> omega
 have hm' : cap ≤ 9223372036854775807:=by unfold maxLen at hm;omega
 have hce : Tryz.prog.cellsOf 31 = 8:=by kernel_rfl
 rw [hce] at hx
 by_cases h0 : len = 0
 ·subst h0;exact ⟨some a,0,cap,[],by simpa using hcs,rfl,hl,hm',.inl rfl⟩
 obtain ⟨b,o,spot⟩:=a;obtain ⟨cs0,k1,k2⟩:=hx 0 (by omega)
 have hspot : spot = none:=by
  obtain ⟨_,hl0,hc0⟩:=World.cells?_some k1;have:=hc0 0 (by omega);rw [List.getElem?_eq_getElem (by omega)] at this
  simpa [Addr.add] using World.cell?_spot this
 subst hspot
 have hblt : b < w.heap.size:=by
  obtain ⟨_,hl0,hc0⟩:=World.cells?_some k1;have:=hc0 0 (by omega);rw [List.getElem?_eq_getElem (by omega)] at this
  rcases Nat.lt_or_ge b w.heap.size with h1 | h1
  ·exact h1
  ·simp [Addr.add,World.cell?,Array.getElem?_eq_none h1] at this
 have each : ∀ i,i < len → ∃ v : Vd,RAt w b (o + i * 8) (vdF v):=fun i hi => by
  obtain ⟨cs,k1,k2⟩:=hx i (by omega);obtain ⟨_,hl0,hc0⟩:=World.cells?_some k1;refine vd_of_trod (fun j hj => ?_) k2;have:=hc0 j hj;rw [add_add,Addr.add_lit] at this;rw [Nat.add_assoc];exact this
 have hin : Inhabited Vd:=⟨⟨⟨#[]⟩,0,⟨#[]⟩,⟨#[]⟩,false,⟨#[]⟩,false,[]⟩⟩;obtain ⟨f,hf⟩:=choose_lt each;refine ⟨some ⟨b,o,none⟩,len,cap,(List.range len).map f,by simpa using hcs,by simp,hl,hm',.inr ⟨b,o,rfl,hblt,fun j r hj => ?_⟩⟩;rw [List.getElem?_map,List.getElem?_map] at hj
 by_cases hjl : j < len
 ·rw [List.getElem?_range hjl] at hj;obtain rfl:=Option.some.inj hj;exact hf j hjl
 ·rw [List.getElem?_eq_none (by simp;omega)] at hj
  cases hj

theorem xd_of_trod {b o n : Nat} {cs : List Value} {x : DataW H × List MemPlace} (hc : ∀ i,i < 5 → w.cell? ⟨b,o + i,none⟩ = cs[i]?) (h : DataW.trod enc Tryz.prog w base spare held n 115 cs = some x) : ∃ v : Xd,RAt w b o (xdF v):=by
 obtain ⟨m,hl,hf⟩:=open_aggC Tryz.underlying115 (by kernel_rfl) (by kernel_rfl) h;obtain ⟨c0,y0,e0,t0⟩:=hf 0 _ rfl;obtain ⟨b0,q0,-,s0⟩:=DataW.trod_string Tryz.underlying9 t0
 obtain rfl : c0 = .string b0:=by simpa using q0
 obtain ⟨c1,y1,e1,t1⟩:=hf 1 _ rfl;obtain ⟨b1,q1,-,s1⟩:=DataW.trod_int Tryz.underlying2 t1
 obtain rfl : c1 = .int .i64 b1:=by simpa using q1
 obtain ⟨c2,y2,e2,t2⟩:=hf 2 _ rfl;obtain ⟨b2,q2,-,s2⟩:=DataW.trod_string Tryz.underlying9 t2
 obtain rfl : c2 = .string b2:=by simpa using q2
 obtain ⟨c3,y3,e3,t3⟩:=hf 3 _ rfl;obtain ⟨b3,q3,-⟩:=DataW.trod_bool Tryz.underlying4 t3
 obtain rfl : c3 = .bool b3:=by simpa using q3
 obtain ⟨c4,y4,e4,t4⟩:=hf 4 _ rfl;obtain ⟨b4,q4,-,s4⟩:=DataW.trod_string Tryz.underlying9 t4
 obtain rfl : c4 = .string b4:=by simpa using q4
 unfold maxLen at s0 s2 s4;refine ⟨⟨b0,b1,b2,b3,b4⟩,fun i f hi => ?_⟩
 rcases i with _ | _ | _ | _ | _ | i
 ·cases hi
  exact ⟨_,(hc 0 (by omega)).trans e0,rfl,show b0.size ≤ _ by omega⟩
 ·cases hi
  exact ⟨_,(hc 1 (by omega)).trans e1,rfl⟩
 ·cases hi
  exact ⟨_,(hc 2 (by omega)).trans e2,rfl,show b2.size ≤ _ by omega⟩
 ·cases hi
  exact ⟨_,(hc 3 (by omega)).trans e3,rfl⟩
 ·cases hi
  exact ⟨_,(hc 4 (by omega)).trans e4,rfl,show b4.size ≤ _ by omega⟩
 ·first | (cases hi;done) | (simp [xdF] at hi;done)

theorem xdrow_of_trod {n : Nat} {c : Value} {y : DataW H × List MemPlace} (h : DataW.trod enc Tryz.prog w base spare held n 25 [c] = some y) : ∃ a len cap,∃ xs : List Xd,c = .slice a len cap ∧ RRow w a len cap 5 (xs.map xdF):=by
 rcases open_slice Tryz.underlying25 h with ⟨hcs,_⟩ | ⟨a,len,cap,m,n',D,Pl,hcs,hb,hl,hm,hmm,_,hx⟩
 ·exact ⟨none,0,0,[],by simpa using hcs,rfl,Nat.le_refl _,by omega,.inl rfl⟩
 have hlm : len ≤ m:=by rw [hmm];split <;> omega
 have hm' : cap ≤ 9223372036854775807:=by unfold maxLen at hm;omega
 have hce : Tryz.prog.cellsOf 115 = 5:=by kernel_rfl
 rw [hce] at hx
 by_cases h0 : len = 0
 ·subst h0;exact ⟨some a,0,cap,[],by simpa using hcs,rfl,hl,hm',.inl rfl⟩
 obtain ⟨b,o,spot⟩:=a;obtain ⟨cs0,k1,k2⟩:=hx 0 (by omega)
 have hspot : spot = none:=by
  obtain ⟨_,hl0,hc0⟩:=World.cells?_some k1;have:=hc0 0 (by omega);rw [List.getElem?_eq_getElem (by omega)] at this
  simpa [Addr.add] using World.cell?_spot this
 subst hspot
 have hblt : b < w.heap.size:=by
  obtain ⟨_,hl0,hc0⟩:=World.cells?_some k1;have:=hc0 0 (by omega);rw [List.getElem?_eq_getElem (by omega)] at this
  rcases Nat.lt_or_ge b w.heap.size with h1 | h1
  ·exact h1
  ·simp [Addr.add,World.cell?,Array.getElem?_eq_none h1] at this
 have each : ∀ i,i < len → ∃ v : Xd,RAt w b (o + i * 5) (xdF v):=fun i hi => by
  obtain ⟨cs,k1,k2⟩:=hx i (by omega);obtain ⟨_,hl0,hc0⟩:=World.cells?_some k1;refine xd_of_trod (fun j hj => ?_) k2;have:=hc0 j hj;rw [add_add,Addr.add_lit] at this;rw [Nat.add_assoc];exact this
 have hin : Inhabited Xd:=⟨⟨⟨#[]⟩,0,⟨#[]⟩,false,⟨#[]⟩⟩⟩;obtain ⟨f,hf⟩:=choose_lt each;refine ⟨some ⟨b,o,none⟩,len,cap,(List.range len).map f,by simpa using hcs,by simp,hl,hm',.inr ⟨b,o,rfl,hblt,fun j r hj => ?_⟩⟩;rw [List.getElem?_map,List.getElem?_map] at hj
 by_cases hjl : j < len
 ·rw [List.getElem?_range hjl] at hj;obtain rfl:=Option.some.inj hj;exact hf j hjl
 ·rw [List.getElem?_eq_none (by simp;omega)] at hj
  cases hj

theorem pd_of_trod {b o n : Nat} {cs : List Value} {x : DataW H × List MemPlace} (hc : ∀ i,i < 6 → w.cell? ⟨b,o + i,none⟩ = cs[i]?) (h : DataW.trod enc Tryz.prog w base spare held n 55 cs = some x) : ∃ v : Pd,RAt w b o (pdF v):=by
 obtain ⟨m,hl,hf⟩:=open_aggC Tryz.underlying55 (by kernel_rfl) (by kernel_rfl) h;obtain ⟨c0,y0,e0,t0⟩:=hf 0 _ rfl;obtain ⟨b0,q0,-,s0⟩:=DataW.trod_string Tryz.underlying9 t0
 obtain rfl : c0 = .string b0:=by simpa using q0
 obtain ⟨c1,y1,e1,t1⟩:=hf 1 _ rfl;obtain ⟨b1,q1,-,s1⟩:=DataW.trod_int Tryz.underlying2 t1
 obtain rfl : c1 = .int .i64 b1:=by simpa using q1
 obtain ⟨c2,y2,e2,t2⟩:=hf 2 _ rfl;obtain ⟨b2,q2,-,s2⟩:=DataW.trod_string Tryz.underlying9 t2
 obtain rfl : c2 = .string b2:=by simpa using q2
 obtain ⟨c3,y3,e3,t3⟩:=hf 3 _ rfl;obtain ⟨b3,l3,p3,zz,rfl,r3⟩:=row_of_trod Tryz.underlying29 Tryz.underlying9 (by kernel_rfl) t3;obtain ⟨c4,y4,e4,t4⟩:=hf 4 _ rfl;obtain ⟨b4,q4,-,s4⟩:=DataW.trod_string Tryz.underlying9 t4
 obtain rfl : c4 = .string b4:=by simpa using q4
 obtain ⟨c5,y5,e5,t5⟩:=hf 5 _ rfl;obtain ⟨b5,q5,-,s5⟩:=DataW.trod_int Tryz.underlying2 t5
 obtain rfl : c5 = .int .i64 b5:=by simpa using q5
 unfold maxLen at s0 s2 s4;refine ⟨⟨b0,b1,b2,zz,b4,b5⟩,fun i f hi => ?_⟩
 rcases i with _ | _ | _ | _ | _ | _ | i
 ·cases hi
  exact ⟨_,(hc 0 (by omega)).trans e0,rfl,show b0.size ≤ _ by omega⟩
 ·cases hi
  exact ⟨_,(hc 1 (by omega)).trans e1,rfl⟩
 ·cases hi
  exact ⟨_,(hc 2 (by omega)).trans e2,rfl,show b2.size ≤ _ by omega⟩
 ·cases hi
  exact ⟨_,(hc 3 (by omega)).trans e3,b3,l3,p3,rfl,r3⟩
 ·cases hi
  exact ⟨_,(hc 4 (by omega)).trans e4,rfl,show b4.size ≤ _ by omega⟩
 ·cases hi
  exact ⟨_,(hc 5 (by omega)).trans e5,rfl⟩
 ·first | (cases hi;done) | (simp [pdF] at hi;done)

theorem pdrow_of_trod {n : Nat} {c : Value} {y : DataW H × List MemPlace} (h : DataW.trod enc Tryz.prog w base spare held n 26 [c] = some y) : ∃ a len cap,∃ xs : List Pd,c = .slice a len cap ∧ RRow w a len cap 6 (xs.map pdF):=by
 rcases open_slice Tryz.underlying26 h with ⟨hcs,_⟩ | ⟨a,len,cap,m,n',D,Pl,hcs,hb,hl,hm,hmm,_,hx⟩
 ·exact ⟨none,0,0,[],by simpa using hcs,rfl,Nat.le_refl _,by omega,.inl rfl⟩
 have hlm : len ≤ m:=by rw [hmm];split <;> omega
 have hm' : cap ≤ 9223372036854775807:=by unfold maxLen at hm;omega
 have hce : Tryz.prog.cellsOf 55 = 6:=by kernel_rfl
 rw [hce] at hx
 by_cases h0 : len = 0
 ·subst h0;exact ⟨some a,0,cap,[],by simpa using hcs,rfl,hl,hm',.inl rfl⟩
 obtain ⟨b,o,spot⟩:=a;obtain ⟨cs0,k1,k2⟩:=hx 0 (by omega)
 have hspot : spot = none:=by
  obtain ⟨_,hl0,hc0⟩:=World.cells?_some k1;have:=hc0 0 (by omega);rw [List.getElem?_eq_getElem (by omega)] at this
  simpa [Addr.add] using World.cell?_spot this
 subst hspot
 have hblt : b < w.heap.size:=by
  obtain ⟨_,hl0,hc0⟩:=World.cells?_some k1;have:=hc0 0 (by omega);rw [List.getElem?_eq_getElem (by omega)] at this
  rcases Nat.lt_or_ge b w.heap.size with h1 | h1
  ·exact h1
  ·simp [Addr.add,World.cell?,Array.getElem?_eq_none h1] at this
 have each : ∀ i,i < len → ∃ v : Pd,RAt w b (o + i * 6) (pdF v):=fun i hi => by
  obtain ⟨cs,k1,k2⟩:=hx i (by omega);obtain ⟨_,hl0,hc0⟩:=World.cells?_some k1;refine pd_of_trod (fun j hj => ?_) k2;have:=hc0 j hj;rw [add_add,Addr.add_lit] at this;rw [Nat.add_assoc];exact this
 have hin : Inhabited Pd:=⟨⟨⟨#[]⟩,0,⟨#[]⟩,[],⟨#[]⟩,0⟩⟩;obtain ⟨f,hf⟩:=choose_lt each;refine ⟨some ⟨b,o,none⟩,len,cap,(List.range len).map f,by simpa using hcs,by simp,hl,hm',.inr ⟨b,o,rfl,hblt,fun j r hj => ?_⟩⟩;rw [List.getElem?_map,List.getElem?_map] at hj
 by_cases hjl : j < len
 ·rw [List.getElem?_range hjl] at hj;obtain rfl:=Option.some.inj hj;exact hf j hjl
 ·rw [List.getElem?_eq_none (by simp;omega)] at hj
  cases hj

end

end Rc
end Go.Proofs.YtcogpoamhflgjaaGreatDoor

import Derived.Test.YtdoldaceehdifaaGreatDoorF6
import Derived.Deep.CutRange
import Derived.Stop.LaidErr
import Derived.ChangeVars
import Derived.Deep.Strs
import Derived.Deep.Fields
import Derived.WideShapes
import Derived.ChangeArms
/-
 A claim bound to the best disk, or to one that is made for it, in the cluster itself, as the specification does it.
-/
set_option maxRecDepth 100000
set_option maxHeartbeats 12800000
namespace Go.Proofs.YtdoldaceehdifaaGreatDoor
theorem aah {p : Prop} (h : p:=by simp [results,Tryz.results24,go_sem, *]) : p:=h
theorem aaE {p : Prop} (h : p:=by simp [results,Tryz.results118,go_sem]) : p:=h
end Go.Proofs.YtdoldaceehdifaaGreatDoor
namespace Go.Proofs.YtdoldaceehdifaaGreatDoor
theorem ab1 {p : Prop} (h : p:=by
 have hx8 : (wx.setCell ⟨b,2,none⟩ (.slice q3 m3 z3)).heap[gx]? = some (.cells curx 120 (0,0)):=(Below.heap_setCell _ _ _ _ (show gx ≠ b from hgb)).trans ((HWX.out.block _ (aa HXB.out)).trans HXB.out);have hK8 : aP (fun k => S k ∨ k = b) w (wx.setCell ⟨b,2,none⟩ (.slice q3 m3 z3)):=(aP.cU HWX.out).set (.inr rfl);obtain ⟨W8,hW8⟩ : ∃ W8,W8 = wx.setCell ⟨b,2,none⟩ (.slice q3 m3 z3):=⟨_,rfl⟩;rw [← hW8] at f1 f2 f3 f4 f5 hB8 hv8 hx8 hK8 ⊢;have HF8:=ae (And.intro f1 (And.intro f2 (And.intro f3 (And.intro f4 f5))));have Bc8:=ae hB8;have Bv8:=ae hv8;have HX8:=ae hx8;have HK8:=ae hK8;clear hW8 f1 f2 f3 f4 f5 hB8 hv8 hx8 hK8 kp HO7 Bc7 Bv7 Bc6 Bv6 hnb;go_wp2_with fail;rename_i K0 hK0;refine Gt.aT av rfl rfl av ?_;refine' aw.aq _ rfl ?_ ?_;rotate_left 1
 ·exact aaf
 refine' aw.aq _ rfl ?_ ?_;rotate_left 1
 ·refine Obl.plain rfl ?_;intro ac wg K hsz hW hf hK;clear hsz;have e116:=hf 116 al;simp [ai,List.lookup] at e116;clear hf;exact aO
 refine' aw.aq _ rfl ?_ ?_;rotate_left 1
 ·refine Obl.plain rfl ?_;intro ac wg K hsz hW hf hK;clear hsz;have e117:=hf 117 al;simp [ai,List.lookup] at e117;clear hf;exact aO
 refine' aw.aq _ rfl ?_ ?_;rotate_left 1
 ·refine Obl.plain rfl ?_;intro ac wg K hsz hW hf hK;clear hsz;have e118:=hf 118 al;simp [ai,List.lookup] at e118;clear hf;obtain ⟨k0,k1,k2,k3,k4,k5⟩:=cs6 ((hW.block _ (aa Bc8.out)).trans Bc8.out);exact aO
 refine' aw.aq _ rfl ?_ ?_;rotate_left 1
 ·exact u_
 refine' aw.aq _ rfl ?_ ?_;rotate_left 1
 ·exact aaH
 refine' aw.aq _ rfl ?_ ?_;rotate_left 1
 ·refine Obl.plain rfl ?_;intro ac wg K hsz hW hf hK;clear hsz;have e121:=hf 121 al;simp [ai,List.lookup] at e121;clear hf;obtain ⟨v0,v1,v2,v3,v4,v5,v6,v7⟩:=cs8 ((hW.block _ (aa Bv8.out)).trans Bv8.out);exact aO
 refine' aw.aq _ rfl ?_ ?_;rotate_left 1
 ·refine Obl.plain rfl ?_;intro ac wg K hsz hW hf hK;clear hsz;have e119:=hf 119 al;simp [ai,List.lookup] at e119;have e120:=hf 120 al;simp [ai,List.lookup] at e120;clear hf;exact aO
 refine' aw.aq _ rfl ?_ ?_;rotate_left 1
 ·refine Obl.plain rfl ?_;intro ac wg K hsz hW hf hK;clear hsz;have e123:=hf 123 al;simp [ai,List.lookup] at e123;clear hf;exact aO
 refine aw.done ?_;intro q wu hW hf;simp only [List.forall_mem_cons] at hf;obtain ⟨h124,h123,h122,h121,h120,h119,h118,h117,h116,-⟩:=hf;have HWU:=ae hW;have Bc9:=upK Bc8 hW;have Bv9:=upK Bv8 hW;obtain ⟨⟨v9,hcz⟩,hfz⟩:=aB.DP HF8.out.2.2.2.1 hW HIR.out (i:=4) rfl;clear hW;intro K hK;rw [if_pos bH];simp only [aE,List.foldr,Act.put,List.setIfInBounds_toArray,List.set_cons_zero,List.set_cons_succ,h124,h123,h122,h121,h120,h119,h118,h117,h116];simp only [List.getLast];go_simp;refine hK _ _ ?_;refine hK0 _ _ ?_;clear hK hK0 K K0;clear hcz hfz;have hX9:=aB.BL HF8.out.2.2.2.1 HWU.out HIR.out (i:=4) rfl (aA ++ x.n) hZ0;have f1:=aB.iw (i:=i * 5 + 4) (v:=.string (aA ++ x.n)) HF8.out.1 HWU.out HX8.out al al;have f2:=aB.iw (i:=i * 5 + 4) (v:=.string (aA ++ x.n)) HF8.out.2.1 HWU.out HX8.out al al;have f3:=aB.iw (i:=i * 5 + 4) (v:=.string (aA ++ x.n)) HF8.out.2.2.1 HWU.out HX8.out al al;have f5:=aB.iw (i:=i * 5 + 4) (v:=.string (aA ++ x.n)) HF8.out.2.2.2.2 HWU.out HX8.out al al;have hK9 : aP (fun k => S k ∨ k = b) w (wu.setCell ⟨gx,i * 5 + 4,none⟩ (.string (aA ++ x.n))):=(HK8.out.below HWU.out).set (.inl HGS.out);have hB9 : (wu.setCell ⟨gx,i * 5 + 4,none⟩ (.string (aA ++ x.n))).heap[b]? = _:=(Below.heap_setCell _ _ _ _ (show b ≠ gx from fun e => hgb e.symm)).trans Bc9.out;have hv9b : (wu.setCell ⟨gx,i * 5 + 4,none⟩ (.string (aA ++ x.n))).heap[w5.heap.size]? = _:=(Below.heap_setCell _ _ _ _ (show w5.heap.size ≠ gx by omega)).trans Bv9.out;obtain ⟨W9,hW9⟩ : ∃ W9,W9 = (wu.setCell ⟨gx,i * 5 + 4,none⟩ (.string (aA ++ x.n))):=⟨_,rfl⟩;rw [← hW9] at hX9 f1 f2 f3 f5 hK9 hB9 hv9b ⊢;have HA9 : Hid (eM W9 ⟨a1,l1,y1,some ⟨gk,0,none⟩,l2,y2,q3,m3,z3,some ⟨gx,0,none⟩,l4,y4,a5,l5,y5⟩ (cI c i x (aR t kc.z)).raw (fun k => S k ∨ w.heap.size ≤ k)):=by
  rw [HZO.out];exact ⟨f1,f2,f3,by show aB _ _ _ _ _ _ ((c.xs.set i (bdX x (aA ++ x.n))).map xdF) _;rw [List.map_set];exact hX9,f5⟩
 have HK9:=ae hK9;have HB9:=ae hB9;clear hW9 hX9 f1 f2 f3 f5 hK9 hB9;obtain ⟨v0,v1,v2,v3,v4,v5,v6,v7⟩:=cs8 hv9b;have hvl9:=aa hv9b;clear hv9b;go_wp2;exact bodyPost_ret (v:=.tuple #[.string (aA ++ x.n),.int .i64 0]) aaE rfl (.inr ⟨HNO.out,.inr ⟨HMV.out,HH.out,by omega,rfl,q3,m3,z3,HB9.out,HA9.out,HK9.out⟩⟩)) : p:=h
theorem aao {p : Prop} (h : p:=by
 exact aaf) : p:=h
theorem aaB {p : Prop} (h : p:=by
 obtain ⟨f,hf⟩:=choose_lt each;refine ⟨some ⟨b,o,none⟩,len,cap,(List.range len).map f,by simpa using hcs,by simp,hl,hm',.inr ⟨b,o,rfl,hblt,fun j r hj => ?_⟩⟩;rw [List.getElem?_map,List.getElem?_map] at hj;by_cases hjl : j < len
 ·rw [List.getElem?_range hjl] at hj;obtain rfl:=Option.some.inj hj;exact hf j hjl
 ·exact uD) : p:=h
theorem aaF {p : Prop} (h : p:=by
 refine Obl.plain rfl ?_;intro ac wg K hsz hW hf hK;clear hsz;have e9:=hf 9 al;simp [ai,List.lookup] at e9;clear hf;exact aO) : p:=h
theorem aba {p : Prop} (h : p:=by
 clear hf;obtain ⟨n0,n1,n2,n3,n4,n5,n6⟩:=cs7 ((hW.block _ (aa Bn.out)).trans Bn.out);have ltn:=Nat.lt_of_lt_of_le (aa Bn.out) hW.size;exact aO) : p:=h
theorem aax {p : Prop} (h : p:=by
 cases hi;exact ⟨_,(hc 0 af).trans e0,rfl,show b0.size ≤ _ by omega⟩) : p:=h
theorem acE {p : Prop} (h : p:=by
 refine Obl.plain rfl ?_;intro ac wg K hsz hW hf hK;clear hsz;have e10:=hf 10 al;simp [ai,List.lookup] at e10;clear hf;obtain ⟨o0,o1,o2,o3,o4,o5⟩:=cs6 ((hW.block _ (aa Bo.out)).trans Bo.out);have lto:=Nat.lt_of_lt_of_le (aa Bo.out) hW.size;exact aO) : p:=h
theorem abz {p : Prop} (h : p:=by
 refine Obl.plain rfl ?_;intro ac wg K hsz hW hf hK;clear hsz;have e8:=hf 8 al;simp [ai,List.lookup] at e8;clear hf;exact aO) : p:=h
theorem abe {p : Prop} (h : p:=by
 clear hf;obtain ⟨k0,k1,k2,k3,k4,k5⟩:=cs6 ((hW.block _ (aa Bc2.out)).trans Bc2.out);exact aO) : p:=h
theorem acN {p : Prop} (h : p:=by
 obtain ⟨k0,k1,k2,k3,k4,k5⟩:=cs6 Bk.out;have ltk_3:=aa Bk.out;go_wp2;go_ret;exact ⟨⟨_,rfl,.inr ⟨hls,hlt,.inr ⟨HT.out,.inl ⟨.inl (yu HNO.out),rfl⟩⟩⟩⟩,HB.out⟩) : p:=h
theorem ack {p : Prop} (h : p:=by
 clear hf;obtain ⟨p0,p1,p2,p3,p4,p5⟩:=cs6 ((hW.block _ (aa Bp.out)).trans Bp.out);have ltp:=Nat.lt_of_lt_of_le (aa Bp.out) hW.size;exact aO) : p:=h
theorem aaT {p : Prop} (h : p:=by
 cases hi;exact ⟨_,(hc 2 af).trans e2,rfl,show b2.size ≤ _ by omega⟩) : p:=h
theorem abB {p : Prop} (h : p:=by
 refine Obl.plain rfl ?_;intro ac wg K hsz hW hf hK;clear hsz;have e39:=hf 39 al;simp [ai,List.lookup] at e39;clear hf;exact aO) : p:=h
theorem acT {p : Prop} (h : p:=by
 clear hf;obtain ⟨k0,k1,k2,k3,k4,k5⟩:=cs6 ((hW.block _ (aa Bc5.out)).trans Bc5.out);exact aO) : p:=h
theorem ab5 {p : Prop} (h : p:=by
 rw [e] at g;exact ⟨_,xs[i]'(by omega),List.getElem?_eq_getElem hlc,by rw [g,List.getElem?_eq_getElem]⟩) : p:=h
theorem abL {p : Prop} (h : p:=by
 clear hf;obtain ⟨x0,x1,x2,x3,x4⟩:=cs5 ((hW.block _ (aa Bx2.out)).trans Bx2.out);exact aO) : p:=h
theorem abY {p : Prop} (h : p:=by
 obtain ⟨u9,hu9,hun9⟩:=da hh;have HU:=ae (And.intro hu9 hun9);have HH:=ae hh;obtain ⟨j9,hj9⟩ : ∃ j9,j9 = pl Vd.n c.vs (aA ++ x.n):=⟨_,rfl⟩;rw [← hj9] at HU;clear hu9 hun9 hh hj9;rename_i K0 hK0;refine bf (back:=none) av (List.append_nil _).symm av ?_;refine' aw.aq _ rfl ?_ ?_;rotate_left 1
 ·exact aau
 refine' aw.aq _ rfl ?_ ?_;rotate_left 1
 ·exact abj
 refine' aw.aq _ rfl ?_ ?_;rotate_left 1
 ·exact abZ
 refine' aw.aq _ rfl ?_ ?_;rotate_left 1
 ·exact abf
 refine' aw.aq _ rfl ?_ ?_;rotate_left 1
 ·exact abc
 refine aw.step (fun v _ => v = .int .i64 (j9 : Nat)) rfl (Fact.bR _) ?_ ?_
 ·refine Obl.plain rfl ?_;intro ac wg K hsz hW hf hK;clear hsz;have e93:=hf 93 al;simp [ai,List.lookup] at e93;have e95:=hf 95 al;simp [ai,List.lookup] at e95;clear hf;go_simp;refine (iM ⟨a1,l1,y1,some ⟨gk,0,none⟩,l2,y2,a3,l3,y3,some ⟨gx,0,none⟩,l4,y4,a5,l5,y5⟩ c.now c.vs (aA ++ x.n) _ (HO.out.v.row.below (HBW.out.trans (hW.mono HBW.out.size))) HT.out.2.1.2.2.1.2.2 HU.out.1 HU.out.2).mono ?_;rintro e w6 ⟨rfl,hb6⟩;exact hK _ _ hb6 rfl
 refine' aw.aq (.bool true) rfl ?_ ?_
 ·exact aaU
 refine' aw.aq _ rfl ?_ ?_;rotate_left 1
 ·exact aau
 refine' aw.aq _ rfl ?_ ?_;rotate_left 1
 ·exact abi
 refine' aw.aq _ rfl ?_ ?_;rotate_left 1
 ·exact aaZ
 refine' aw.aq _ rfl ?_ ?_;rotate_left 1
 ·exact ab2
 refine' aw.aq (.int .i64 l3) rfl ?_ ?_
 ·exact aa0
 refine aw.step (fun v _ => v = .int .i64 7) rfl (Fact.bR _) ?_ ?_
 ·refine Obl.plain rfl ?_;intro ac wg K hsz hW hf hK;clear hsz;have e97:=hf 97 al;simp [ai,List.lookup] at e97;have e102:=hf 102 al;simp [ai,List.lookup] at e102;clear hf;go_simp;refine (mE l3 8 _).mono ?_;rintro e w6 ⟨rfl,hb6⟩;exact hK _ _ hb6 rfl
 refine' aw.aq _ rfl ?_ ?_;rotate_left 1
 ·exact aaK
 refine aw.done ?_;intro q wy hW hf;simp only [List.forall_mem_cons] at hf;obtain ⟨h13,h103,h102,h101,h100,h99,h98,h97,h96,h95,h94,h93,h92,h91,-⟩:=hf;have HWY:=ae hW;clear hW;refine hK0 _ _ ?_;simp only [aE,List.foldr,Act.put,List.setIfInBounds_toArray,List.set_cons_zero,List.set_cons_succ,h13,h103,h102,h101,h100,h99,h98,h97,h96,h95,h94,h93,h92,h91];clear hK0;go_wp2;exact bodyPost_ret (v:=.tuple #[.string ⟨#[]⟩,.int .i64 7]) aaE rfl (.inr ⟨HNO.out,.inl ⟨7,by decide,.inr (.inl ⟨HMV.out,HH.out,rfl⟩),rfl,HBW.out.trans (HWY.out.mono HBW.out.size)⟩⟩)) : p:=h
theorem acf {p : Prop} (h : p:=by
 rename_i K0 hK0;refine bf (back:=none) av (List.append_nil _).symm av ?_;refine' aw.aq _ rfl ?_ ?_;rotate_left 1
 ·exact aau
 refine' aw.aq _ rfl ?_ ?_;rotate_left 1
 ·exact abj
 refine' aw.aq _ rfl ?_ ?_;rotate_left 1
 ·exact abZ
 refine' aw.aq _ rfl ?_ ?_;rotate_left 1
 ·exact abf
 refine' aw.aq _ rfl ?_ ?_;rotate_left 1
 ·exact abc
 refine aw.step (fun v _ => v = .int .i64 (-1)) rfl (Fact.bR _) ?_ ?_
 ·exact acP
 refine' aw.aq (.bool false) rfl ?_ ?_
 ·exact aaU
 refine' aw.aq _ rfl ?_ ?_;rotate_left 1
 ·exact aau
 refine' aw.aq _ rfl ?_ ?_;rotate_left 1
 ·exact abi
 refine' aw.aq _ rfl ?_ ?_;rotate_left 1
 ·exact aaZ
 refine' aw.aq _ rfl ?_ ?_;rotate_left 1
 ·exact ab2
 refine' aw.aq (.int .i64 l3) rfl ?_ ?_
 ·exact aa0
 refine aw.step (fun v _ => v = .int .i64 9) rfl (Fact.bR _) ?_ ?_
 ·refine Obl.plain rfl ?_;intro ac wg K hsz hW hf hK;clear hsz;have e97:=hf 97 al;simp [ai,List.lookup] at e97;have e102:=hf 102 al;simp [ai,List.lookup] at e102;clear hf;go_simp;refine (oK l3 8 af _).mono ?_;rintro e w6 ⟨rfl,hb6⟩;exact hK _ _ hb6 rfl
 refine' aw.aq _ rfl ?_ ?_;rotate_left 1
 ·exact aaK
 refine aw.done ?_;intro q wy hW hf;simp only [List.forall_mem_cons] at hf;obtain ⟨h13,h103,h102,h101,h100,h99,h98,h97,h96,h95,h94,h93,h92,h91,-⟩:=hf;have HWY:=ae hW;clear hW;refine hK0 _ _ ?_;simp only [aE,List.foldr,Act.put,List.setIfInBounds_toArray,List.set_cons_zero,List.set_cons_succ,h13,h103,h102,h101,h100,h99,h98,h97,h96,h95,h94,h93,h92,h91];clear hK0;go_wp2;exact bodyPost_ret (v:=.tuple #[.string ⟨#[]⟩,.int .i64 9]) aaE rfl (.inr ⟨HNO.out,.inl ⟨9,by decide,.inr (.inr ⟨HMV.out,HH.out,by omega,rfl⟩),rfl,HBW.out.trans (HWY.out.mono HBW.out.size)⟩⟩)) : p:=h
theorem aaf {p : Prop} (h : p:=by
 exact aau) : p:=h
theorem acp {p : Prop} (h : p:=by
 exact acP) : p:=h
theorem abg {p : Prop} (h : p:=by
 exact abo) : p:=h
theorem abC {p : Prop} (h : p:=by
 exact abc) : p:=h
theorem aaH {p : Prop} (h : p:=by
 exact abf) : p:=h
theorem aav {p : Prop} (h : p:=by
 obtain ⟨_,hl0,hc0⟩:=World.cells?_some k1;have:=hc0 0 af;rw [List.getElem?_eq_getElem af] at this;rcases Nat.lt_or_ge b w.heap.size with h1 | h1
 ·exact h1
 ·simp [Addr.add,World.cell?,Array.getElem?_eq_none h1] at this) : p:=h
theorem abO {p : Prop} (h : p:=by
 exact aa0) : p:=h
theorem abK {p : Prop} (h : p:=by
 exact aaK) : p:=h
theorem acD {p : Prop} (h : p:=by
 exact abj) : p:=h
theorem acd {p : Prop} (h : p:=by
 exact aaU) : p:=h
theorem abG {p : Prop} (h : p:=by
 exact aaZ) : p:=h
theorem acU {p : Prop} (h : p:=by
 exact abi) : p:=h
theorem abl {p : Prop} (h : p:=by
 go_wp2;exact bodyPost_ret (v:=.tuple #[.string ⟨#[]⟩,.int .i64 6]) aaE rfl (.inr ⟨HNO.out,.inl ⟨6,by decide,.inl ⟨HNM.out,rfl⟩,rfl,HB5.out.alloc HB5.out.size _⟩⟩)) : p:=h
theorem aat {p : Prop} (h : p:=by
 obtain ⟨_,hl0,hc0⟩:=World.cells?_some k1;have:=hc0 0 af;rw [List.getElem?_eq_getElem af] at this;simpa [Addr.add] using World.cell?_spot this) : p:=h
theorem ab9 {p : Prop} (h : p:=by
 have hxn:=hZ1;have hxk:=hZ2;rcases q with _ | _ | _ | _ | _ | _ | _ | _ | q <;> simp [vdF,mkV] at hf <;> subst hf
 ·exact ⟨_,rfl,rfl,hZ0⟩
 ·exact ⟨_,rfl,rfl⟩
 ·exact ⟨_,rfl,rfl,hZ3⟩
 ·exact ⟨_,rfl,rfl,hxk⟩
 ·exact ⟨_,rfl,rfl⟩
 ·exact ⟨_,rfl,rfl,hxn⟩
 ·exact ⟨_,rfl,rfl⟩
 ·exact ⟨_,rfl,none,0,0,rfl,rfl,Nat.le_refl _,by decide,fun j x hx => by simp at hx,.inl rfl⟩) : p:=h
theorem acF {p : Prop} (h : p:=by
 refine Obl.plain rfl ?_;intro ac wg K hsz hW hf hK;clear hsz;have e97:=hf 97 al;simp [ai,List.lookup] at e97;have e102:=hf 102 al;simp [ai,List.lookup] at e102;clear hf;go_simp;refine (tM l3 8 h8 _).mono ?_;rintro e w6 ⟨rfl,hb6⟩;exact hK _ _ hb6 rfl) : p:=h
theorem aaA {p : Prop} (h : p:=by
 have:=hc0 j hj;rw [add_add,Addr.add_lit] at this;rw [Nat.add_assoc];exact this) : p:=h
theorem aar {p : Prop} (h : p:=by
 exact ⟨none,0,0,[],by simpa using hcs,rfl,Nat.le_refl _,by omega,.inl rfl⟩) : p:=h
theorem aaw {p : Prop} (h : p:=by
 subst h0;exact ⟨some a,0,cap,[],by simpa using hcs,rfl,hl,hm',.inl rfl⟩) : p:=h
theorem acg {p : Prop} (h : p:=by
 refine Obl.plain rfl ?_;intro ac wg K hsz hW hf hK;clear hsz;have e11:=hf 11 al;simp [ai,List.lookup] at e11;clear hf;obtain ⟨v0,v1,v2,v3,v4,v5,v6,v7⟩:=cs8 ((hW.block _ (aa Bv6.out)).trans Bv6.out);exact aO) : p:=h
theorem acn {p : Prop} (h : p:=by
 refine Obl.plain rfl ?_;intro ac wg K hsz hW hf hK;clear hsz;have e110:=hf 110 al;simp [ai,List.lookup] at e110;clear hf;obtain ⟨k0,k1,k2,k3,k4,k5⟩:=cs6 ((hW.block _ (aa Bc6.out)).trans Bc6.out);exact aO) : p:=h
theorem acr {p : Prop} (h : p:=by
 refine Obl.plain rfl ?_;intro ac wg K hsz hW hf hK;clear hsz;have e107:=hf 107 al;simp [ai,List.lookup] at e107;clear hf;exact aO) : p:=h
theorem abI {p : Prop} (h : p:=by
 refine Obl.plain rfl ?_;intro ac wg K hsz hW hf hK;clear hsz;have e108:=hf 108 al;simp [ai,List.lookup] at e108;clear hf;exact aO) : p:=h
theorem ace {p : Prop} (h : p:=by
 refine Obl.plain rfl ?_;intro ac wg K hsz hW hf hK;clear hsz;have e114:=hf 114 al;simp [ai,List.lookup] at e114;clear hf;exact aO) : p:=h
theorem acR {p : Prop} (h : p:=by
 refine Obl.plain rfl ?_;intro ac wg K hsz hW hf hK;clear hsz;have e109:=hf 109 al;simp [ai,List.lookup] at e109;clear hf;exact aO) : p:=h
theorem acP {p : Prop} (h : p:=by
 refine Obl.plain rfl ?_;intro ac wg K hsz hW hf hK;clear hsz;have e93:=hf 93 al;simp [ai,List.lookup] at e93;have e95:=hf 95 al;simp [ai,List.lookup] at e95;clear hf;go_simp;refine (gw ⟨a1,l1,y1,some ⟨gk,0,none⟩,l2,y2,a3,l3,y3,some ⟨gx,0,none⟩,l4,y4,a5,l5,y5⟩ c.now c.vs (aA ++ x.n) _ (HO.out.v.row.below (HBW.out.trans (hW.mono HBW.out.size))) (fun j9 v9 h9 e9 => by have h7:=(bU HT.out.2.1.2.2.1.2.2 h9 e9).2;rw [HH.out] at h7;cases h7)).mono ?_;rintro e w6 ⟨rfl,hb6⟩;exact hK _ _ hb6 rfl) : p:=h
theorem aau {p : Prop} (h : p:=by
 refine Obl.plain rfl ?_;intro ac wg K hsz hW hf hK;clear hsz;have e0:=hf 0 al;simp [ai,List.lookup] at e0;clear hf;exact aO) : p:=h
theorem abc {p : Prop} (h : p:=by
 refine Obl.plain rfl ?_;intro ac wg K hsz hW hf hK;clear hsz;have e94:=hf 94 al;simp [ai,List.lookup] at e94;exact acm) : p:=h
theorem abo {p : Prop} (h : p:=by
 clear hf;obtain ⟨k0,k1,k2,k3,k4,k5⟩:=cs6 ((hW.block _ (aa BcW.out)).trans BcW.out);exact aO) : p:=h
theorem aa0 {p : Prop} (h : p:=by
 refine Obl.plain rfl ?_;intro ac wg K hsz hW hf hK;clear hsz;have e101:=hf 101 al;simp [ai,List.lookup] at e101;clear hf;exact aO) : p:=h
theorem aaK {p : Prop} (h : p:=by
 refine Obl.plain rfl ?_;intro ac wg K hsz hW hf hK;clear hsz;have e103:=hf 103 al;simp [ai,List.lookup] at e103;clear hf;exact aO) : p:=h
theorem abf {p : Prop} (h : p:=by
 refine Obl.plain rfl ?_;intro ac wg K hsz hW hf hK;clear hsz;have e11:=hf 11 al;simp [ai,List.lookup] at e11;clear hf;exact aO) : p:=h
theorem abj {p : Prop} (h : p:=by
 refine Obl.plain rfl ?_;intro ac wg K hsz hW hf hK;clear hsz;have e91:=hf 91 al;simp [ai,List.lookup] at e91;clear hf;exact aO) : p:=h
theorem aaU {p : Prop} (h : p:=by
 refine Obl.plain rfl ?_;intro ac wg K hsz hW hf hK;clear hsz;have e96:=hf 96 al;simp [ai,List.lookup] at e96;clear hf;exact aO) : p:=h
theorem aaZ {p : Prop} (h : p:=by
 refine Obl.plain rfl ?_;intro ac wg K hsz hW hf hK;clear hsz;have e99:=hf 99 al;simp [ai,List.lookup] at e99;clear hf;exact aO) : p:=h
theorem abi {p : Prop} (h : p:=by
 refine Obl.plain rfl ?_;intro ac wg K hsz hW hf hK;clear hsz;have e98:=hf 98 al;simp [ai,List.lookup] at e98;clear hf;exact aO) : p:=h
theorem abF {p : Prop} (h : p:=by
 rintro e w7 ⟨q3,z3,rfl,ho7,hb7⟩;have hs7:=HB6.out.size;have hs8:=hW.size;exact hK _ _ hb7 ⟨q3,_,z3,rfl,ho7.bs (fun k _ s => by rcases s with (s | s) | s;exact .inl s;exact s.elim;exact .inr (by have s1 : wg.heap.size ≤ k:=s;omega))⟩) : p:=h
theorem abA {p : Prop} (h : p:=by
 rintro e w5 ⟨rfl,hb⟩;have HNM : Hid (¬ dF x kc t):=fun h => hm (by have h1:=h.2;rw [HZO.out] at h1;exact h1);have HB5:=upB HB3 hb;clear hb hm;exact abl) : p:=h
theorem abR {p : Prop} (h : p:=by
 refine Obl.plain rfl ?_;intro ac wg K hsz hW hf hK;clear hsz;have e100:=hf 100 al;simp [ai,List.lookup] at e100;exact abg) : p:=h
theorem acz {p : Prop} (h : p:=by
 refine Obl.plain rfl ?_;intro ac wg K hsz hW hf hK;clear hsz;have e92:=hf 92 al;simp [ai,List.lookup] at e92;exact abg) : p:=h
theorem ab2 {p : Prop} (h : p:=by
 refine Obl.plain rfl ?_;intro ac wg K hsz hW hf hK;clear hsz;have e100:=hf 100 al;simp [ai,List.lookup] at e100;exact abo) : p:=h
theorem abZ {p : Prop} (h : p:=by
 refine Obl.plain rfl ?_;intro ac wg K hsz hW hf hK;clear hsz;have e92:=hf 92 al;simp [ai,List.lookup] at e92;exact abo) : p:=h
theorem acK {p : Prop} (h : p:=by
 have hszv1 : ((((w.alloc (.cells #[.slice (some ⟨bn,on,none⟩) l1 y1,.slice a2 l2 y2,.slice a3 l3 y3,.slice a4 l4 y4,.slice (some ⟨b,o,none⟩) l5 y5,.int .i64 c.now] 37)).alloc (.cells #[.slice none 0 0,.slice none 0 0,.slice none 0 0,.slice none 0 0,.slice none 0 0,.int .i64 0] 37)).alloc (.cells #[.string p.n,.int .i64 p.c,.string p.z,.slice va vl vc,.string p.d,.int .i64 p.p] 65)).alloc (.cells #[.string n.n,.string n.z,.int .i64 n.c,.int .i64 n.s,.int .i64 n.u,.bool false,.slice ua ul uc] 72)).heap.size = w.heap.size + 1 + 1 + 1 + 1:=by simp
 have Gk : Hid (((((w.alloc (.cells #[.slice (some ⟨bn,on,none⟩) l1 y1,.slice a2 l2 y2,.slice a3 l3 y3,.slice a4 l4 y4,.slice (some ⟨b,o,none⟩) l5 y5,.int .i64 c.now] 37)).alloc (.cells #[.slice none 0 0,.slice none 0 0,.slice none 0 0,.slice none 0 0,.slice none 0 0,.int .i64 0] 37)).alloc (.cells #[.string p.n,.int .i64 p.c,.string p.z,.slice va vl vc,.string p.d,.int .i64 p.p] 65)).alloc (.cells #[.string n.n,.string n.z,.int .i64 n.c,.int .i64 n.s,.int .i64 n.u,.bool false,.slice ua ul uc] 72)).heap[w.heap.size]? = some (.cells #[.slice (some ⟨bn,on,none⟩) l1 y1,.slice a2 l2 y2,.slice a3 l3 y3,.slice a4 l4 y4,.slice (some ⟨b,o,none⟩) l5 y5,.int .i64 c.now] 37 (0,0))):=zN _ _ _ _ _;have Gr : Hid (((((w.alloc (.cells #[.slice (some ⟨bn,on,none⟩) l1 y1,.slice a2 l2 y2,.slice a3 l3 y3,.slice a4 l4 y4,.slice (some ⟨b,o,none⟩) l5 y5,.int .i64 c.now] 37)).alloc (.cells #[.slice none 0 0,.slice none 0 0,.slice none 0 0,.slice none 0 0,.slice none 0 0,.int .i64 0] 37)).alloc (.cells #[.string p.n,.int .i64 p.c,.string p.z,.slice va vl vc,.string p.d,.int .i64 p.p] 65)).alloc (.cells #[.string n.n,.string n.z,.int .i64 n.c,.int .i64 n.s,.int .i64 n.u,.bool false,.slice ua ul uc] 72)).heap[w.heap.size + 1]? = some (.cells #[.slice none 0 0,.slice none 0 0,.slice none 0 0,.slice none 0 0,.slice none 0 0,.int .i64 0] 37 (0,0))):=zM _ _ _ _ _;have Gp : Hid (((((w.alloc (.cells #[.slice (some ⟨bn,on,none⟩) l1 y1,.slice a2 l2 y2,.slice a3 l3 y3,.slice a4 l4 y4,.slice (some ⟨b,o,none⟩) l5 y5,.int .i64 c.now] 37)).alloc (.cells #[.slice none 0 0,.slice none 0 0,.slice none 0 0,.slice none 0 0,.slice none 0 0,.int .i64 0] 37)).alloc (.cells #[.string p.n,.int .i64 p.c,.string p.z,.slice va vl vc,.string p.d,.int .i64 p.p] 65)).alloc (.cells #[.string n.n,.string n.z,.int .i64 n.c,.int .i64 n.s,.int .i64 n.u,.bool false,.slice ua ul uc] 72)).heap[w.heap.size + 1 + 1]? = some (.cells #[.string p.n,.int .i64 p.c,.string p.z,.slice va vl vc,.string p.d,.int .i64 p.p] 65 (0,0))):=zL _ _ _ _ _;have Gn : Hid (((((w.alloc (.cells #[.slice (some ⟨bn,on,none⟩) l1 y1,.slice a2 l2 y2,.slice a3 l3 y3,.slice a4 l4 y4,.slice (some ⟨b,o,none⟩) l5 y5,.int .i64 c.now] 37)).alloc (.cells #[.slice none 0 0,.slice none 0 0,.slice none 0 0,.slice none 0 0,.slice none 0 0,.int .i64 0] 37)).alloc (.cells #[.string p.n,.int .i64 p.c,.string p.z,.slice va vl vc,.string p.d,.int .i64 p.p] 65)).alloc (.cells #[.string n.n,.string n.z,.int .i64 n.c,.int .i64 n.s,.int .i64 n.u,.bool false,.slice ua ul uc] 72)).heap[w.heap.size + 1 + 1 + 1]? = some (.cells #[.string n.n,.string n.z,.int .i64 n.c,.int .i64 n.s,.int .i64 n.u,.bool false,.slice ua ul uc] 72 (0,0))):=zK _ _ _ _ _;have HW : Hid (Below w.heap.size w ((((w.alloc (.cells #[.slice (some ⟨bn,on,none⟩) l1 y1,.slice a2 l2 y2,.slice a3 l3 y3,.slice a4 l4 y4,.slice (some ⟨b,o,none⟩) l5 y5,.int .i64 c.now] 37)).alloc (.cells #[.slice none 0 0,.slice none 0 0,.slice none 0 0,.slice none 0 0,.slice none 0 0,.int .i64 0] 37)).alloc (.cells #[.string p.n,.int .i64 p.c,.string p.z,.slice va vl vc,.string p.d,.int .i64 p.p] 65)).alloc (.cells #[.string n.n,.string n.z,.int .i64 n.c,.int .i64 n.s,.int .i64 n.u,.bool false,.slice ua ul uc] 72))):=(HB.out.trans ((fA _ _ _ _ _).mono HB.out.size))
 exact And.intro hszv1 (And.intro Gk (And.intro Gr (And.intro Gp (And.intro Gn HW))))) : p:=h
theorem acw {p : Prop} (h : p:=by
 have hszv2 : (w1.alloc (.cells #[.string v.n,.int .i64 v.c,.string v.z,.string v.k,.bool true,.string v.m,.bool v.y,.slice (some ⟨bz,oz,none⟩) 1 vc] 118)).heap.size = w1.heap.size + 1:=by simp
 have Gg : Hid ((w1.alloc (.cells #[.string v.n,.int .i64 v.c,.string v.z,.string v.k,.bool true,.string v.m,.bool v.y,.slice (some ⟨bz,oz,none⟩) 1 vc] 118)).heap[b]? = some (.cells #[.slice a1 l1 y1,.slice a2 l2 y2,.slice (some ⟨bv,ov,none⟩) l3 y3,.slice a4 l4 y4,.slice a5 l5 y5,.int .i64 c.now] 37 (0,0))):=(Below.heap_alloc _ _ _ (aa Bg.out)).trans (Bg.out);have Gn : Hid ((w1.alloc (.cells #[.string v.n,.int .i64 v.c,.string v.z,.string v.k,.bool true,.string v.m,.bool v.y,.slice (some ⟨bz,oz,none⟩) 1 vc] 118)).heap[w.heap.size]? = some (.cells #[.string n.n,.string n.z,.int .i64 n.c,.int .i64 n.s,.int .i64 n.u,.bool n.d,.slice na nl nc] 72 (0,0))):=(Below.heap_alloc _ _ _ (aa Bn.out)).trans (Bn.out);have Gv : Hid ((w1.alloc (.cells #[.string v.n,.int .i64 v.c,.string v.z,.string v.k,.bool true,.string v.m,.bool v.y,.slice (some ⟨bz,oz,none⟩) 1 vc] 118)).heap[w1.heap.size]? = some (.cells #[.string v.n,.int .i64 v.c,.string v.z,.string v.k,.bool true,.string v.m,.bool v.y,.slice (some ⟨bz,oz,none⟩) 1 vc] 118 (0,0))):=Array.getElem?_push_size;have HW : Hid (Below w.heap.size w (w1.alloc (.cells #[.string v.n,.int .i64 v.c,.string v.z,.string v.k,.bool true,.string v.m,.bool v.y,.slice (some ⟨bz,oz,none⟩) 1 vc] 118))):=(HB.out.trans ((an _ _).mono HB.out.size));exact And.intro hszv2 (And.intro Gg (And.intro Gn (And.intro Gv HW)))) : p:=h
theorem acL {p : Prop} (h : p:=by
 have hne0:=Wd.ne ((((w.alloc (.cells #[.slice (some ⟨bn,on,none⟩) l1 y1,.slice a2 l2 y2,.slice a3 l3 y3,.slice a4 l4 y4,.slice (some ⟨b,o,none⟩) l5 y5,.int .i64 c.now] 37)).alloc (.cells #[.slice none 0 0,.slice none 0 0,.slice none 0 0,.slice none 0 0,.slice none 0 0,.int .i64 0] 37)).alloc (.cells #[.string p.n,.int .i64 p.c,.string p.z,.slice va vl vc,.string p.d,.int .i64 p.p] 65)).alloc (.cells #[.string n.n,.string n.z,.int .i64 n.c,.int .i64 n.s,.int .i64 n.u,.bool false,.slice ua ul uc] 72));have HC0:=ae (fun q : Wd ((((w.alloc (.cells #[.slice (some ⟨bn,on,none⟩) l1 y1,.slice a2 l2 y2,.slice a3 l3 y3,.slice a4 l4 y4,.slice (some ⟨b,o,none⟩) l5 y5,.int .i64 c.now] 37)).alloc (.cells #[.slice none 0 0,.slice none 0 0,.slice none 0 0,.slice none 0 0,.slice none 0 0,.int .i64 0] 37)).alloc (.cells #[.string p.n,.int .i64 p.c,.string p.z,.slice va vl vc,.string p.d,.int .i64 p.p] 65)).alloc (.cells #[.string n.n,.string n.z,.int .i64 n.c,.int .i64 n.s,.int .i64 n.u,.bool false,.slice ua ul uc] 72)) => j8 ⟨(some ⟨bn,on,none⟩),l1,y1,a2,l2,y2,a3,l3,y3,a4,l4,y4,(some ⟨b,o,none⟩),l5,y5⟩ c.now c.ps n.n q.w (HR.out.p.below (HW.out.trans (q.b.mono HW.out.size))) HL8.out HPC.out);exact And.intro hne0 HC0) : p:=h
theorem abN {p : Prop} (h : p:=by
 have zc : ∀ q : Wd (w1.alloc (.cells #[.string v.n,.int .i64 v.c,.string v.z,.string v.k,.bool true,.string v.m,.bool v.y,.slice (some ⟨bz,oz,none⟩) 1 vc] 118)),q.w.cell? ⟨bz,oz,none⟩ = some (.string z):=fun q => (q.cell bF).trans (((an _ _).cell hbz).trans hcz);have hne0:=Wd.ne (w1.alloc (.cells #[.string v.n,.int .i64 v.c,.string v.z,.string v.k,.bool true,.string v.m,.bool v.y,.slice (some ⟨bz,oz,none⟩) 1 vc] 118));have HC0:=ae (fun q : Wd (w1.alloc (.cells #[.string v.n,.int .i64 v.c,.string v.z,.string v.k,.bool true,.string v.m,.bool v.y,.slice (some ⟨bz,oz,none⟩) 1 vc] 118)) => (gA ⟨a1,l1,y1,a2,l2,y2,(some ⟨bv,ov,none⟩),l3,y3,a4,l4,y4,a5,l5,y5⟩ c t n.n q.w (HR.out.below (HW.out.trans (q.b.mono HW.out.size)))).mono (fun _ _ h => ar.no h HEL.out));exact And.intro zc (And.intro hne0 HC0)) : p:=h
theorem abW {p : Prop} (h : p:=by
 have kp : ∀ {a l cp m T rs},aB w a l cp m T rs S → aB (wx.setCell ⟨b,2,none⟩ (.slice q3 m3 z3)) a l cp m T rs (fun k => S k ∨ w.heap.size ≤ k):=fun h => h.aH (fun k hk s => (Below.heap_setCell _ _ _ _ (hnb k (.inl s))).trans (HWX.out.block k hk)) (fun _ _ s => .inl s);have f1:=kp HO.out.n;have f2:=kp HO.out.k;have f4:=kp HO.out.x;have f5:=kp HO.out.p;have f3:=HO7.out.aH (w':=wx.setCell ⟨b,2,none⟩ (.slice q3 m3 z3)) (fun k hk s => Below.heap_setCell _ _ _ _ (hnb k s)) (fun _ _ s => s);have hB8 : (wx.setCell ⟨b,2,none⟩ (.slice q3 m3 z3)).heap[b]? = some (.cells #[.slice a1 l1 y1,.slice (some ⟨gk,0,none⟩) l2 y2,.slice q3 m3 z3,.slice (some ⟨gx,0,none⟩) l4 y4,.slice a5 l5 y5,.int .i64 c.now] 37 (0,0)):=az Bc7.out _;exact And.intro @kp (And.intro f1 (And.intro f2 (And.intro f4 (And.intro f5 (And.intro f3 hB8)))))) : p:=h
theorem aaj {p : Prop} (h : p:=by
 have hlm : len ≤ m:=by rw [hmm];split <;> omega
 have hm' : cap ≤ 9223372036854775807:=by unfold maxLen at hm;omega
 exact And.intro hlm hm') : p:=h
theorem acM {p : Prop} (h : p:=by
 have xk:=fun q : Wd w2 => (q.cell hbl).trans c2;have kx:=fun q : Wd w2 => (q.cell hbk).trans d1;have hne0:=Wd.ne w2;have HC0:=ae (fun q : Wd w2 => dA ⟨a1,l1,y1,(some ⟨bk,ok,none⟩),l2,y2,a3,l3,y3,(some ⟨bx,ox,none⟩),l4,y4,a5,l5,y5⟩ c.now c.ks x.k q.w (HR.out.k.below (HW.out.trans (q.b.mono HW.out.size))) HT.out.2.1.2.1.2.2 HK.out.1 HK.out.2);exact And.intro xk (And.intro kx (And.intro hne0 HC0))) : p:=h
theorem abV {p : Prop} (h : p:=by
 have hxo:=HT.out.2.1.2.2.2.1.2.1 i x HX.out;have hZ1 : x.n.size ≤ 9223372036854775807:=HZX.out.1;have hZ2 : x.k.size ≤ 9223372036854775807:=HZX.out.2.1;have hZ0 : (aA ++ x.n).size ≤ 9223372036854775807:=by have h1:=hxo.1.2.1;rw [ByteArray.size_append];have h2 : aA.size ≤ 10:=al;omega
 exact And.intro hxo (And.intro hZ1 (And.intro hZ2 hZ0))) : p:=h
theorem aay {p : Prop} (h : p:=by
 have HB2:=upB HW q1.b;have Cg:=upK Gg q1.b;have Cn:=upK Gn q1.b;have Cv:=upK Gv q1.b;exact And.intro HB2 (And.intro Cg (And.intro Cn Cv))) : p:=h
end Go.Proofs.YtdoldaceehdifaaGreatDoor
namespace Go.Proofs.YtdoldaceehdifaaGreatDoor
open Go.RowKit
namespace Rc
open Mk

def td (sv : Vd → Bool) (vs : List Vd) : Fact:=fun v _ => ∃ r : Int,v = .int .i64 r ∧ cD sv vs vs.length r
theorem td.mono (sv : Vd → Bool) (vs : List Vd) : Fact.bw (td sv vs):=fun _ _ _ h _ => h
theorem aB.BL {wr wz : World} {g l cp m j i : Nat} {T : TypeId} {rs : List (List Fv)} {r : List Fv} {old : Fv} {S : Nat → Prop} (hO : aB wr (some ⟨g,0,none⟩) l cp m T rs S) (hb : Below wr.heap.size wr wz) (hj : rs[j]? = some r) (hi : r[i]? = some old) (t : ByteArray) (ht : t.size ≤ 9223372036854775807) : aB (wz.setCell ⟨g,j * m + i,none⟩ (.string t)) (some ⟨g,0,none⟩) l cp m T (rs.set j (r.set i (.s t))) S:=by
 obtain ⟨g',e,hS⟩:=(hO.below hb).st (aP.refl S wz) hj;cases e;obtain ⟨⟨cur2,H2,h3,_⟩,_,_⟩:=hS.fa hi t ht;exact ⟨by rw [List.length_set];exact hO.1,hO.2.1,hO.2.2.1,.inr ⟨g,cur2,H2,rfl,h3⟩⟩
theorem aB.DP {wr wz : World} {g l cp m j i : Nat} {T : TypeId} {rs : List (List Fv)} {r : List Fv} {old : Fv} {S : Nat → Prop} (hO : aB wr (some ⟨g,0,none⟩) l cp m T rs S) (hb : Below wr.heap.size wr wz) (hj : rs[j]? = some r) (hi : r[i]? = some old) : (∃ v,wz.cell? ⟨g,j * m + i,none⟩ = some v) ∧ wz.frozen? ⟨g,j * m + i,none⟩ = false:=by
 obtain ⟨g',e,hS⟩:=(hO.below hb).st (aP.refl S wz) hj;cases e;exact ⟨hS.cell hi,hS.fe _⟩
theorem aB.Dy {w : World} {a : Option Addr} {l cp m j : Nat} {T : TypeId} {rs : List (List Fv)} {r : List Fv} {S : Nat → Prop} (hO : aB w a l cp m T rs S) (hj : rs[j]? = some r) : ∃ g cur,a = some ⟨g,0,none⟩ ∧ S g ∧ g < w.heap.size ∧ w.heap[g]? = some (.cells cur T (0,0)):=by
 obtain ⟨g',e,hS⟩:=hO.st (aP.refl S w) hj;obtain ⟨⟨cur,H,h1,_⟩,_⟩:=hS;exact ⟨g',cur,e,h1.inS,aa h1.blk,h1.blk⟩
theorem aB.iw {w wz : World} {a : Option Addr} {l cp m g i : Nat} {T T' : TypeId} {rs : List (List Fv)} {S : Nat → Prop} {cur : Array Value} {v : Value} (h : aB w a l cp m T rs S) (hb : Below w.heap.size w wz) (hg : w.heap[g]? = some (.cells cur T' (0,0))) (h1 : ¬ T' = T) (h2 : ¬ T' = 9) : aB (wz.setCell ⟨g,i,none⟩ v) a l cp m T rs S :=
 (h.j5 hg h1 h2).aH (fun k hk s => (Below.heap_setCell _ _ _ _ s.2).trans (hb.block k hk)) (fun _ _ s => s.1)
def z9 (B : Nat) : Fact:=fun v w => ∃ b,v = .pointer (some ⟨b,0,none⟩) ∧ B ≤ b ∧ w.heap[b]? = some (.cells #[.string ⟨#[]⟩,.bool false,.bool false,.string ⟨#[]⟩] 116 (0,0))
theorem z9.mono (B : Nat) : Fact.bw (z9 B):=by
 exact pK
def sZ (W : World) (S : Nat → Prop) (vs : List Vd) : Fact:=fun v w => ∃ a l cp,v = .slice a l cp ∧ aB w a l cp 8 118 (vs.map vdF) (fun k => S k ∨ W.heap.size ≤ k)
theorem sZ.mono (W : World) (S : Nat → Prop) (vs : List Vd) : Fact.bw (sZ W S vs):=by
 rintro v w w' ⟨a,l,cp,h1,h2⟩ hb;exact ⟨a,l,cp,h1,h2.below hb⟩
def Dl (c : Cl) (i : Nat) (x : Xd) (kc : Kd) (t : ByteArray) (S : Nat → Prop) (b : Nat) (a1 : Option Addr) (l1 y1 : Nat) (a2 : Option Addr) (l2 y2 : Nat) (a3 : Option Addr) (l3 y3 : Nat) (a4 : Option Addr) (l4 y4 : Nat) (a5 : Option Addr) (l5 y5 : Nat) (w : World) (e : Ending) (w' : World) : Prop :=
 (∃ (j : Nat) (u : Vd),cJ (svV x.z x.k x.x t) c.vs = some u ∧ c.vs[j]? = some u ∧ e = .returned (.tuple #[.string u.n,.int .i64 0]) ∧ w'.heap[b]? = some (.cells #[.slice a1 l1 y1,.slice a2 l2 y2,.slice a3 l3 y3,.slice a4 l4 y4,.slice a5 l5 y5,.int .i64 c.now] 37 (0,0)) ∧ eM w' ⟨a1,l1,y1,a2,l2,y2,a3,l3,y3,a4,l4,y4,a5,l5,y5⟩ (cZ c i j x u).raw S ∧ aP S w w') ∨
 (cJ (svV x.z x.k x.x t) c.vs = none ∧ ((∃ p : Int,¬ p = 0 ∧ ((¬ dF x kc t ∧ p = 6) ∨ (dF x kc t ∧ hit Vd.n c.vs (aA ++ x.n) = true ∧ p = 7) ∨ (dF x kc t ∧ hit Vd.n c.vs (aA ++ x.n) = false ∧ ¬ c.vs.length < 8 ∧ p = 9)) ∧ e = .returned (.tuple #[.string ⟨#[]⟩,.int .i64 p]) ∧ Below w.heap.size w w') ∨
  (dF x kc t ∧ hit Vd.n c.vs (aA ++ x.n) = false ∧ c.vs.length < 8 ∧ e = .returned (.tuple #[.string (aA ++ x.n),.int .i64 0]) ∧ ∃ (q3 : Option Addr) (m3 z3 : Nat),w'.heap[b]? = some (.cells #[.slice a1 l1 y1,.slice a2 l2 y2,.slice q3 m3 z3,.slice a4 l4 y4,.slice a5 l5 y5,.int .i64 c.now] 37 (0,0)) ∧ eM w' ⟨a1,l1,y1,a2,l2,y2,q3,m3,z3,a4,l4,y4,a5,l5,y5⟩ (cI c i x (aR t kc.z)).raw (fun k => S k ∨ w.heap.size ≤ k) ∧ aP (fun k => S k ∨ k = b) w w')))

theorem tJ (c : Cl) (i : Nat) (x : Xd) (jk : Nat) (kc : Kd) (t : ByteArray) (S : Nat → Prop) (b : Nat) (a1 : Option Addr) (l1 y1 : Nat) (a2 : Option Addr) (l2 y2 : Nat) (a3 : Option Addr) (l3 y3 : Nat) (a4 : Option Addr) (l4 y4 : Nat) (a5 : Option Addr) (l5 y5 : Nat) (w : World) (hb : w.heap[b]? = some (.cells #[.slice a1 l1 y1,.slice a2 l2 y2,.slice a3 l3 y3,.slice a4 l4 y4,.slice a5 l5 y5,.int .i64 c.now] 37 (0,0))) (hO : eM w ⟨a1,l1,y1,a2,l2,y2,a3,l3,y3,a4,l4,y4,a5,l5,y5⟩ c.raw S) (hS : ∀ k,S k → k < w.heap.size ∧ ¬ k = b) (hT : aC c) (hx : c.xs[i]? = some x) (hk : c.ks[jk]? = some kc) (hkn : kc.n = x.k) (hxv : x.v = ⟨#[]⟩) (ht : t = ⟨#[]⟩ ∨ aL t) :
  Calls Tryz.prog 118 #[.pointer (some ⟨b,0,none⟩),.int .i64 i,.string t] w (Dl c i x kc t S b a1 l1 y1 a2 l2 y2 a3 l3 y3 a4 l4 y4 a5 l5 y5 w):=by
 have HO:=ae hO;have HS:=ae hS;have HT:=ae hT;have HX:=ae hx;have HK:=ae (And.intro hk hkn);have HXV:=ae hxv;have HTZ:=ae ht;have Bc:=ae hb;have hl4 : c.xs.length = l4:=by have h6 : (c.xs.map xdF).length = l4:=hO.x.1;rw [List.length_map] at h6;exact h6
 have hl3 : c.vs.length = l3:=by have h6 : (c.vs.map vdF).length = l3:=hO.v.1;rw [List.length_map] at h6;exact h6
 have hl2 : c.ks.length = l2:=by have h6 : (c.ks.map kdF).length = l2:=hO.k.1;rw [List.length_map] at h6;exact h6
 have hi4 : i < l4:=by have:=(List.getElem?_eq_some_iff.1 hx).1;omega
 have hii : (i : Int) < l4:=aaa
 have hi0 : ¬ (i : Int) < 0:=aaa
 obtain ⟨gx,hgx,hSx⟩:=hO.x.st (aP.refl S w) (i:=i) (r:=xdF x) (show (c.xs.map xdF)[i]? = some (xdF x) by rw [List.getElem?_map,hx];rfl);have hgx' : a4 = some ⟨gx,0,none⟩:=hgx;subst hgx';have hgxS : S gx ∧ gx < w.heap.size:=by obtain ⟨⟨cur,H,h1,_⟩,_⟩:=hSx;exact ⟨h1.inS,aa h1.blk⟩
 obtain ⟨b4,o4,x',e4,hb4,hx4,hat⟩:=de hO.x.row hi4;cases e4;rw [hx] at hx4;obtain rfl:=Option.some.inj hx4;obtain ⟨zx0,zx2,zx4,c0,c1,c2,c3,c4⟩:=bB hat;rw [Nat.zero_add] at c0 c1 c2 c3 c4;have HC:=ae (And.intro c0 (And.intro c1 (And.intro c2 (And.intro c3 c4))));have HZX:=ae (And.intro zx0 (And.intro zx2 zx4));have HSX:=ae hSx;have hgb : ¬ gx = b:=(hS gx hgxS.1).2;have HGS:=ae hgxS.1;have hgl : gx < w.heap.size:=hgxS.2;have hbl : b < w.heap.size:=aa hb;have HB:=ae (Below.refl w.heap.size w);obtain ⟨k0,k1,k2,k3,k4,k5⟩:=cs6 hb;clear hO hS hT hx hk hkn hxv ht hSx hgx hgxS hat hx4 hb4 zx0 zx2 zx4;go_enter Tryz.func118,Tryz.ntmps118;go_wp2_with fail;clear k0 k1 k2 k3 k4 k5 c0 c1 c2 c3 c4;obtain ⟨W,hW0⟩ : ∃ W,W = (w.alloc (.cells #[.string x.n,.int .i64 x.z,.string x.k,.bool x.x,.string x.v] 120)):=⟨_,rfl⟩;have BcW:=ae ((Below.heap_alloc w (.cells #[.string x.n,.int .i64 x.z,.string x.k,.bool x.x,.string x.v] 120) _ hbl).trans hb);have BxW:=ae (heap_alloc_new w (.cells #[.string x.n,.int .i64 x.z,.string x.k,.bool x.x,.string x.v] 120));have HBW:=ae (an w (.cells #[.string x.n,.int .i64 x.z,.string x.k,.bool x.x,.string x.v] 120));have hws : W.heap.size = w.heap.size + 1:=by rw [hW0];exact df _ _
 rw [← hW0] at BcW BxW HBW ⊢;clear hW0 hb;rename_i K0 hK0;refine bf (back:=none) av (List.append_nil _).symm av ?_;refine' aw.aq _ rfl ?_ ?_;rotate_left 1
 ·exact aao
 refine' aw.aq _ rfl ?_ ?_;rotate_left 1
 ·refine Obl.plain rfl ?_;intro ac wg K hsz hW hf hK;clear hsz;have e21:=hf 21 al;simp [ai,List.lookup] at e21;clear hf;exact aO
 refine' aw.aq _ rfl ?_ ?_;rotate_left 1
 ·refine Obl.plain rfl ?_;intro ac wg K hsz hW hf hK;clear hsz;have e22:=hf 22 al;simp [ai,List.lookup] at e22;clear hf;exact aO
 refine' aw.aq _ rfl ?_ ?_;rotate_left 1
 ·refine Obl.plain rfl ?_;intro ac wg K hsz hW hf hK;clear hsz;have e23:=hf 23 al;simp [ai,List.lookup] at e23;exact abg
 refine' aw.aq _ rfl ?_ ?_;rotate_left 1
 ·refine Obl.plain rfl ?_;intro ac wg K hsz hW hf hK;clear hsz;have e8:=hf 8 al;simp [ai,List.lookup] at e8;exact abh
 refine' aw.aq _ rfl ?_ ?_;rotate_left 1
 ·exact pt
 refine aw.step (td (svV x.z x.k x.x t) c.vs) rfl (td.mono _ _) ?_ ?_
 ·refine Obl.plain rfl ?_;intro ac wg K hsz hW hf hK;clear hsz;have e24:=hf 24 al;simp [ai,List.lookup] at e24;have e25:=hf 25 al;simp [ai,List.lookup] at e25;have e26:=hf 26 al;simp [ai,List.lookup] at e26;clear hf;go_simp;refine (oM a3 l3 y3 c.vs x.n x.z x.k x.x x.v t _ (z_ (HO.out.v.row.below (HBW.out.trans (hW.mono HBW.out.size))))).mono ?_;rintro e w6 ⟨r,rfl,hr6,hb6⟩;exact hK _ _ hb6 ⟨r,rfl,by rw [hl3];exact hr6⟩
 refine aw.step (td (svV x.z x.k x.x t) c.vs) rfl (td.mono _ _) ?_ ?_
 ·refine Obl.plain rfl ?_;intro ac wg K hsz hW hf hK;clear hsz;have e27:=hf 27 al;simp [ai,List.lookup] at e27;obtain ⟨r,e27,hr6⟩:=e27;clear hf;go_simp;exact hK _ _ (Below.refl _ _) ⟨r,rfl,hr6⟩
 refine aw.done ?_;intro q wz hW hf;simp only [List.forall_mem_cons] at hf;obtain ⟨h9,h27,h26,h25,h24,h23,h22,h21,-⟩:=hf;obtain ⟨r,hv9,hbest⟩:=h9;obtain ⟨r2,hv27,-⟩:=h27;have HWZ:=ae hW;clear hW;refine hK0 _ _ ?_;simp only [aE,List.foldr,Act.put,List.setIfInBounds_toArray,List.set_cons_zero,List.set_cons_succ,h26,h25,h24,h23,h22,h21,hv9,hv27];clear hK0;have Bc2:=upK BcW HWZ.out;have Bx2:=upK BxW HWZ.out;have HB2:=ae (HBW.out.trans (HWZ.out.mono HBW.out.size));have hw2 : w.heap.size + 1 ≤ wz.heap.size:=by have:=HWZ.out.size;omega
 clear BcW BxW HBW HWZ;rcases hbest with ⟨rfl,hnone⟩ | ⟨j,u,rfl,hjl,hju,hsome⟩;rotate_left
 ·rw [List.take_length] at hsome;have HJU:=ae hju;have HSO:=ae hsome;have hj3 : (j : Int) < l3:=aaa
  have hj0 : ¬ (j : Int) < 0:=aaa
  have hjr : (c.vs.map vdF)[j]? = some (vdF u):=by rw [List.getElem?_map,hju];rfl
  have hir : (c.xs.map xdF)[i]? = some (xdF x):=by rw [List.getElem?_map,HX.out];rfl
  have HJR:=ae hjr;have HIR:=ae hir;obtain ⟨gv,curv,hgv,hgvS,hgvl,hgvb⟩:=aB.Dy HO.out.v hjr;have hgv' : a3 = some ⟨gv,0,none⟩:=hgv;subst hgv';obtain ⟨gx2,curx,hgx2,-,-,hgxb⟩:=aB.Dy HO.out.x hir;cases hgx2;have HVB:=ae hgvb;have HXB:=ae hgxb;have hvb : ¬ gv = b:=(HS.out gv hgvS).2;have HVS:=ae hgvS;have hxz : x.n.size ≤ 9223372036854775807:=HZX.out.1;have huz : u.n.size ≤ 9223372036854775807:=by have h1:=(HT.out.2.1.2.2.1.2.1 j u hju).1.2.1;omega
  clear hju hsome hjr hir hgv hgvS hgvb hgxb;go_wp2_with fail;rename_i K0 hK0;refine Gt.aT av rfl rfl av ?_;refine' aw.aq _ rfl ?_ ?_;rotate_left 1
  ·exact aao
  refine' aw.aq _ rfl ?_ ?_;rotate_left 1
  ·refine Obl.plain rfl ?_;intro ac wg K hsz hW hf hK;clear hsz;have e30:=hf 30 al;simp [ai,List.lookup] at e30;clear hf;exact aO
  refine' aw.aq _ rfl ?_ ?_;rotate_left 1
  ·refine Obl.plain rfl ?_;intro ac wg K hsz hW hf hK;clear hsz;have e31:=hf 31 al;simp [ai,List.lookup] at e31;clear hf;exact aO
  refine' aw.aq _ rfl ?_ ?_;rotate_left 1
  ·refine Obl.plain rfl ?_;intro ac wg K hsz hW hf hK;clear hsz;have e32:=hf 32 al;simp [ai,List.lookup] at e32;exact abe
  refine' aw.aq _ rfl ?_ ?_;rotate_left 1
  ·exact aaF
  refine' aw.aq _ rfl ?_ ?_;rotate_left 1
  ·exact abz
  refine' aw.aq _ rfl ?_ ?_;rotate_left 1
  ·refine Obl.plain rfl ?_;intro ac wg K hsz hW hf hK;clear hsz;have e35:=hf 35 al;simp [ai,List.lookup] at e35;exact abL
  refine' aw.aq _ rfl ?_ ?_;rotate_left 1
  ·refine Obl.plain rfl ?_;intro ac wg K hsz hW hf hK;clear hsz;have e33:=hf 33 al;simp [ai,List.lookup] at e33;have e34:=hf 34 al;simp [ai,List.lookup] at e34;clear hf;exact aO
  refine' aw.aq _ rfl ?_ ?_;rotate_left 1
  ·refine Obl.plain rfl ?_;intro ac wg K hsz hW hf hK;clear hsz;have e37:=hf 37 al;simp [ai,List.lookup] at e37;clear hf;exact aO
  refine aw.done ?_;intro q wy hW hf;simp only [List.forall_mem_cons] at hf;obtain ⟨h38,h37,h36,h35,h34,h33,h32,h31,h30,-⟩:=hf;have HWY:=upB HB2 hW;have Bc3:=upK Bc2 hW;obtain ⟨⟨v9,hcz⟩,hfz⟩:=aB.DP HO.out.v HWY.out HJR.out (i:=5) rfl;intro K hK;rw [if_pos bH];simp only [aE,List.foldr,Act.put,List.setIfInBounds_toArray,List.set_cons_zero,List.set_cons_succ,h38,h37,h36,h35,h34,h33,h32,h31,h30];simp only [List.getLast];go_simp;refine hK _ _ ?_;refine hK0 _ _ ?_;clear hK hK0 K K0;have hV5:=aB.BL HO.out.v HWY.out HJR.out (i:=5) rfl x.n hxz;have f1:=aB.iw (i:=j * 8 + 5) (v:=.string x.n) HO.out.n HWY.out HVB.out al al;have f2:=aB.iw (i:=j * 8 + 5) (v:=.string x.n) HO.out.k HWY.out HVB.out al al;have f4:=aB.iw (i:=j * 8 + 5) (v:=.string x.n) HO.out.x HWY.out HVB.out al al;have f5:=aB.iw (i:=j * 8 + 5) (v:=.string x.n) HO.out.p HWY.out HVB.out al al;have hK5 : aP S w (wy.setCell ⟨gv,j * 8 + 5,none⟩ (.string x.n)):=(aP.cU HWY.out).set HVS.out;have hB5 : (wy.setCell ⟨gv,j * 8 + 5,none⟩ (.string x.n)).heap[b]? = _:=(Below.heap_setCell _ _ _ _ (show b ≠ gv from fun e => hvb e.symm)).trans Bc3.out;have hx5 : (wy.setCell ⟨gv,j * 8 + 5,none⟩ (.string x.n)).heap[gx]? = some (.cells curx 120 (0,0)):=(Below.heap_setCell _ _ _ _ (show gx ≠ gv from fun e => by have h1:=HXB.out;have h2:=HVB.out;rw [e,h2] at h1;simp at h1)).trans ((HWY.out.block _ (aa HXB.out)).trans HXB.out);obtain ⟨cur5,hv5b⟩ : ∃ cur5,(wy.setCell ⟨gv,j * 8 + 5,none⟩ (.string x.n)).heap[gv]? = some (.cells cur5 118 (0,0)):=⟨_,az ((HWY.out.block _ (aa HVB.out)).trans HVB.out) _⟩;clear hcz hfz;obtain ⟨W5,hW5⟩ : ∃ W5,W5 = wy.setCell ⟨gv,j * 8 + 5,none⟩ (.string x.n):=⟨_,rfl⟩;rw [← hW5] at hV5 f1 f2 f4 f5 hK5 hB5 hx5 hv5b ⊢;have HV5:=ae hV5;have HF5:=ae (And.intro f1 (And.intro f2 (And.intro f4 f5)));have HK5:=ae hK5;have Bc5:=ae hB5;have HX5:=ae hx5;have HVB5:=ae hv5b;have hjl5 : j < l3:=aaa
  obtain ⟨b5,o5,v5,e5,hbl5,hx5',hat5⟩:=bC (xs:=c.vs.set j (bdV u x.n)) (by rw [List.map_set];exact hV5.row) hjl5;cases e5;rw [du hjl,if_pos rfl] at hx5';obtain rfl:=Option.some.inj hx5';obtain ⟨va5,vl5,vc5,-,-,-,-,-,cn5,-,-,-,-,-,-,-⟩:=aK hat5;rw [Nat.zero_add] at cn5;have HCN5 : Hid (W5.cell? ⟨gv,j * 8,none⟩ = some (.string u.n)):=cn5;clear hW5 hV5 f1 f2 f4 f5 hK5 hB5 hx5 hat5 cn5 hbl5 hx5' hv5b;go_wp2_with fail;rename_i K0 hK0;refine Gt.aT av rfl rfl av ?_;refine' aw.aq _ rfl ?_ ?_;rotate_left 1
  ·exact aao
  refine' aw.aq _ rfl ?_ ?_;rotate_left 1
  ·exact abB
  refine' aw.aq _ rfl ?_ ?_;rotate_left 1
  ·refine Obl.plain rfl ?_;intro ac wg K hsz hW hf hK;clear hsz;have e40:=hf 40 al;simp [ai,List.lookup] at e40;clear hf;exact aO
  refine' aw.aq _ rfl ?_ ?_;rotate_left 1
  ·refine Obl.plain rfl ?_;intro ac wg K hsz hW hf hK;clear hsz;have e41:=hf 41 al;simp [ai,List.lookup] at e41;exact acT
  refine' aw.aq _ rfl ?_ ?_;rotate_left 1
  ·exact u_
  refine' aw.aq _ rfl ?_ ?_;rotate_left 1
  ·exact aao
  refine' aw.aq _ rfl ?_ ?_;rotate_left 1
  ·refine Obl.plain rfl ?_;intro ac wg K hsz hW hf hK;clear hsz;have e44:=hf 44 al;simp [ai,List.lookup] at e44;clear hf;exact aO
  refine' aw.aq _ rfl ?_ ?_;rotate_left 1
  ·refine Obl.plain rfl ?_;intro ac wg K hsz hW hf hK;clear hsz;have e45:=hf 45 al;simp [ai,List.lookup] at e45;clear hf;exact aO
  refine' aw.aq _ rfl ?_ ?_;rotate_left 1
  ·refine Obl.plain rfl ?_;intro ac wg K hsz hW hf hK;clear hsz;have e46:=hf 46 al;simp [ai,List.lookup] at e46;exact acT
  refine' aw.aq _ rfl ?_ ?_;rotate_left 1
  ·exact aaF
  refine' aw.aq _ rfl ?_ ?_;rotate_left 1
  ·refine Obl.plain rfl ?_;intro ac wg K hsz hW hf hK;clear hsz;have e47:=hf 47 al;simp [ai,List.lookup] at e47;have e48:=hf 48 al;simp [ai,List.lookup] at e48;clear hf;exact aO
  refine' aw.aq _ rfl ?_ ?_;rotate_left 1
  ·refine Obl.plain rfl ?_;intro ac wg K hsz hW hf hK;clear hsz;have e49:=hf 49 al;simp [ai,List.lookup] at e49;clear hf;exact aO
  refine' aw.aq _ rfl ?_ ?_;rotate_left 1
  ·refine Obl.plain rfl ?_;intro ac wg K hsz hW hf hK;clear hsz;have e50:=hf 50 al;simp [ai,List.lookup] at e50;clear hf;have c7:=(ak hW (aa HVB5.out)).trans HCN5.out;exact aO
  refine' aw.aq _ rfl ?_ ?_;rotate_left 1
  ·refine Obl.plain rfl ?_;intro ac wg K hsz hW hf hK;clear hsz;have e42:=hf 42 al;simp [ai,List.lookup] at e42;have e43:=hf 43 al;simp [ai,List.lookup] at e43;clear hf;exact aO
  refine' aw.aq _ rfl ?_ ?_;rotate_left 1
  ·refine Obl.plain rfl ?_;intro ac wg K hsz hW hf hK;clear hsz;have e52:=hf 52 al;simp [ai,List.lookup] at e52;clear hf;exact aO
  refine aw.done ?_;intro q wx hW hf;simp only [List.forall_mem_cons] at hf;obtain ⟨h53,h52,h51,h50,h49,h48,h47,h46,h45,h44,h43,h42,h41,h40,h39,-⟩:=hf;have HWX:=ae hW;have Bc6:=upK Bc5 hW;obtain ⟨⟨v9,hcz⟩,hfz⟩:=aB.DP HF5.out.2.2.1 hW HIR.out (i:=4) rfl;intro K hK;rw [if_pos bH];simp only [aE,List.foldr,Act.put,List.setIfInBounds_toArray,List.set_cons_zero,List.set_cons_succ,h53,h52,h51,h50,h49,h48,h47,h46,h45,h44,h43,h42,h41,h40,h39];simp only [List.getLast];go_simp;refine hK _ _ ?_;refine hK0 _ _ ?_;clear hK hK0 K K0;have hX6:=aB.BL HF5.out.2.2.1 HWX.out HIR.out (i:=4) rfl u.n huz;have f1:=aB.iw (i:=i * 5 + 4) (v:=.string u.n) HF5.out.1 HWX.out HX5.out al al;have f2:=aB.iw (i:=i * 5 + 4) (v:=.string u.n) HF5.out.2.1 HWX.out HX5.out al al;have f3:=aB.iw (i:=i * 5 + 4) (v:=.string u.n) HV5.out HWX.out HX5.out al al;have f5:=aB.iw (i:=i * 5 + 4) (v:=.string u.n) HF5.out.2.2.2 HWX.out HX5.out al al;have hK6 : aP S w (wx.setCell ⟨gx,i * 5 + 4,none⟩ (.string u.n)):=(HK5.out.below HWX.out).set HGS.out;have hB6 : (wx.setCell ⟨gx,i * 5 + 4,none⟩ (.string u.n)).heap[b]? = _:=(Below.heap_setCell _ _ _ _ (show b ≠ gx from fun e => hgb e.symm)).trans Bc6.out;have hc6 : (wx.setCell ⟨gx,i * 5 + 4,none⟩ (.string u.n)).cell? ⟨gv,j * 8,none⟩ = some (.string u.n):=by
   have h9:=(ak HWX.out (aa HVB5.out)).trans HCN5.out;have hne : ¬ gv = gx:=fun e => by have h1:=HX5.out;have h2:=HVB5.out;rw [← e,h2] at h1;simp at h1
   have e9 : (wx.setCell ⟨gx,i * 5 + 4,none⟩ (.string u.n)).heap[gv]? = wx.heap[gv]?:=Below.heap_setCell _ _ _ _ hne;simp only [World.cell?,e9] at h9 ⊢;exact h9
  clear hcz hfz;obtain ⟨W6,hW6⟩ : ∃ W6,W6 = wx.setCell ⟨gx,i * 5 + 4,none⟩ (.string u.n):=⟨_,rfl⟩;rw [← hW6] at hX6 f1 f2 f3 f5 hK6 hB6 hc6 ⊢;have HA6 : Hid (eM W6 ⟨a1,l1,y1,a2,l2,y2,some ⟨gv,0,none⟩,l3,y3,some ⟨gx,0,none⟩,l4,y4,a5,l5,y5⟩ (cZ c i j x u).raw S):=⟨f1,f2,by show aB _ _ _ _ _ _ ((c.vs.set j (bdV u x.n)).map vdF) _;rw [List.map_set];exact f3,by show aB _ _ _ _ _ _ ((c.xs.set i (bdX x u.n)).map xdF) _;rw [List.map_set];exact hX6,f5⟩;have HK6:=ae hK6;have HB6:=ae hB6;clear hW6 hX6 f1 f2 f3 f5 hK6;obtain ⟨k0,k1,k2,k3,k4,k5⟩:=cs6 hB6;clear hB6;go_wp2;exact bodyPost_ret (v:=.tuple #[.string u.n,.int .i64 0]) (by simp [results,Tryz.results118,go_sem, *]) rfl (.inl ⟨j,u,HSO.out,HJU.out,rfl,HB6.out,HA6.out,HK6.out⟩)
 rw [List.take_length] at hnone;have HNO:=ae hnone;have hkr : (c.ks.map kdF)[jk]? = some (kdF kc):=by rw [List.getElem?_map,HK.out.1];rfl
 have hir : (c.xs.map xdF)[i]? = some (xdF x):=by rw [List.getElem?_map,HX.out];rfl
 have HIR:=ae hir;have hjk : jk < l2:=by have:=(List.getElem?_eq_some_iff.1 HK.out.1).1;omega
 have hj2 : (jk : Int) < l2:=aaa
 have hj0 : ¬ (jk : Int) < 0:=aaa
 obtain ⟨gk,curk,hgk,-,hgkl,-⟩:=aB.Dy HO.out.k hkr;have hgk' : a2 = some ⟨gk,0,none⟩:=hgk;subst hgk';obtain ⟨gx2,curx,hgx2,-,-,hgxb⟩:=aB.Dy HO.out.x hir;cases hgx2;have HXB:=ae hgxb;obtain ⟨b2,o2,y',e2,hb2,hx2,hat⟩:=et HO.out.k.row hjk;cases e2;rw [HK.out.1] at hx2;obtain rfl:=Option.some.inj hx2;obtain ⟨zk0,zk3,d0,d1,d2,d3⟩:=cr hat;rw [Nat.zero_add] at d0 d1 d2 d3;have HKC:=ae (And.intro d0 (And.intro d1 (And.intro d2 d3)));have HZK:=ae (And.intro zk0 zk3);have HRK:=ae HO.out.k.row;have HGK:=ae hgkl;clear hnone hkr hir hgk hgxb hat hx2 hb2 zk0 zk3 d0 d1 d2 d3;go_wp2_with fail;rename_i K0 hK0;refine aT av rfl rfl av ?_;refine' aw.aq _ rfl ?_ ?_;rotate_left 1
 ·exact aao
 refine' aw.aq _ rfl ?_ ?_;rotate_left 1
 ·refine Obl.plain rfl ?_;intro ac wg K hsz hW hf hK;clear hsz;have e62:=hf 62 al;simp [ai,List.lookup] at e62;clear hf;exact aO
 refine' aw.aq _ rfl ?_ ?_;rotate_left 1
 ·refine Obl.plain rfl ?_;intro ac wg K hsz hW hf hK;clear hsz;have e63:=hf 63 al;simp [ai,List.lookup] at e63;clear hf;exact aO
 refine' aw.aq _ rfl ?_ ?_;rotate_left 1
 ·refine Obl.plain rfl ?_;intro ac wg K hsz hW hf hK;clear hsz;have e64:=hf 64 al;simp [ai,List.lookup] at e64;exact abe
 refine' aw.aq _ rfl ?_ ?_;rotate_left 1
 ·exact aao
 refine' aw.aq _ rfl ?_ ?_;rotate_left 1
 ·refine Obl.plain rfl ?_;intro ac wg K hsz hW hf hK;clear hsz;have e66:=hf 66 al;simp [ai,List.lookup] at e66;clear hf;exact aO
 refine' aw.aq _ rfl ?_ ?_;rotate_left 1
 ·refine Obl.plain rfl ?_;intro ac wg K hsz hW hf hK;clear hsz;have e67:=hf 67 al;simp [ai,List.lookup] at e67;exact abe
 refine' aw.aq _ rfl ?_ ?_;rotate_left 1
 ·exact abz
 refine' aw.aq _ rfl ?_ ?_;rotate_left 1
 ·refine Obl.plain rfl ?_;intro ac wg K hsz hW hf hK;clear hsz;have e69:=hf 69 al;simp [ai,List.lookup] at e69;exact abL
 refine aw.step (fun v _ => v = .int .i64 jk) rfl (Fact.bR _) ?_ ?_
 ·refine Obl.plain rfl ?_;intro ac wg K hsz hW hf hK;clear hsz;have e68:=hf 68 al;simp [ai,List.lookup] at e68;have e70:=hf 70 al;simp [ai,List.lookup] at e70;clear hf;go_simp;refine (dA ⟨a1,l1,y1,some ⟨gk,0,none⟩,l2,y2,a3,l3,y3,some ⟨gx,0,none⟩,l4,y4,a5,l5,y5⟩ c.now c.ks x.k _ (HRK.out.below (HB2.out.trans (hW.mono HB2.out.size))) HT.out.2.1.2.1.2.2 HK.out.1 HK.out.2).mono ?_;rintro e w6 ⟨rfl,hb6⟩;exact hK _ _ hb6 rfl
 refine' aw.aq _ rfl ?_ ?_;rotate_left 1
 ·refine Obl.plain rfl ?_;intro ac wg K hsz hW hf hK;clear hsz;have e65:=hf 65 al;simp [ai,List.lookup] at e65;have e71:=hf 71 al;simp [ai,List.lookup] at e71;clear hf;exact aO
 refine' aw.aq _ rfl ?_ ?_;rotate_left 1
 ·refine Obl.plain rfl ?_;intro ac wg K hsz hW hf hK;clear hsz;have e72:=hf 72 al;simp [ai,List.lookup] at e72;clear hf;obtain ⟨d0,d1,d2,d3⟩:=HKC.out;have hbg:=HB2.out.trans (hW.mono HB2.out.size);replace d0:=(ak hbg HGK.out).trans d0;replace d1:=(ak hbg HGK.out).trans d1;replace d2:=(ak hbg HGK.out).trans d2;replace d3:=(ak hbg HGK.out).trans d3;exact aO
 refine aw.step (z9 wz.heap.size) rfl (z9.mono _) ?_ ?_
 ·exact nv
 refine aw.done ?_;intro q wy hW hf;simp only [List.forall_mem_cons] at hf;obtain ⟨⟨b9,h10,hb9,hg9⟩,h73,h72,h71,h70,h69,h68,h67,h66,h65,h64,h63,h62,-⟩:=hf;have g0:=hg9;have g1 : (wy.setCell ⟨b9,0,none⟩ (.string kc.n)).heap[b9]? = some (.cells #[.string kc.n,.bool false,.bool false,.string ⟨#[]⟩] 116 (0,0)):=az g0 _;have g2 : ((wy.setCell ⟨b9,0,none⟩ (.string kc.n)).setCell ⟨b9,1,none⟩ (.bool kc.x)).heap[b9]? = some (.cells #[.string kc.n,.bool kc.x,.bool false,.string ⟨#[]⟩] 116 (0,0)):=az g1 _;have g3 : (((wy.setCell ⟨b9,0,none⟩ (.string kc.n)).setCell ⟨b9,1,none⟩ (.bool kc.x)).setCell ⟨b9,2,none⟩ (.bool kc.y)).heap[b9]? = some (.cells #[.string kc.n,.bool kc.x,.bool kc.y,.string ⟨#[]⟩] 116 (0,0)):=az g2 _;have g4 : ((((wy.setCell ⟨b9,0,none⟩ (.string kc.n)).setCell ⟨b9,1,none⟩ (.bool kc.x)).setCell ⟨b9,2,none⟩ (.bool kc.y)).setCell ⟨b9,3,none⟩ (.string kc.z)).heap[b9]? = some (.cells #[.string kc.n,.bool kc.x,.bool kc.y,.string kc.z] 116 (0,0)):=az g3 _;obtain ⟨t0,t1,t2,t3⟩:=cs4 hg9;have f0:=au hg9 0;have f1:=au hg9 1;have f2:=au hg9 2;have f3:=au hg9 3;have Bn:=ae g4;have HWX : Hid (Below wz.heap.size wz ((((wy.setCell ⟨b9,0,none⟩ (.string kc.n)).setCell ⟨b9,1,none⟩ (.bool kc.x)).setCell ⟨b9,2,none⟩ (.bool kc.y)).setCell ⟨b9,3,none⟩ (.string kc.z))):=ag hb9 (ag hb9 (ag hb9 (ag hb9 (hW))));clear g0 g1 g2 g3 g4 hg9;intro K hK;rw [if_pos bH];simp only [aE,List.foldr,Act.put,List.setIfInBounds_toArray,List.set_cons_zero,List.set_cons_succ,h10,h73,h72,h71,h70,h69,h68,h67,h66,h65,h64,h63,h62];simp only [List.getLast];go_simp;refine hK _ _ ?_;refine hK0 _ _ ?_;clear hK hK0 K K0;generalize ((((wy.setCell ⟨b9,0,none⟩ (.string kc.n)).setCell ⟨b9,1,none⟩ (.bool kc.x)).setCell ⟨b9,2,none⟩ (.bool kc.y)).setCell ⟨b9,3,none⟩ (.string kc.z)) = X3 at Bn HWX ⊢;clear t0 t1 t2 t3 f0 f1 f2 f3;have HB3:=ae (HB2.out.trans (HWX.out.mono HB2.out.size));have Bc3:=upK Bc2 HWX.out;have Bx3:=upK Bx2 HWX.out;have hb9' : w.heap.size < b9:=aaa
 clear hW HWX HB2 Bc2 Bx2;by_cases hte : t = ⟨#[]⟩
 ·have hq:=cA hte;have HZO : Hid (aR t kc.z = kc.z):=by show aR _ _ = _;unfold aR;rw [if_pos hte]
  clear hte;have hzn : ¬ kc.z = ⟨#[]⟩ → aL kc.z:=fun h => ((HT.out.2.1.2.1.2.1 jk kc HK.out.1).2.resolve_left h);obtain ⟨x0,x1,x2,x3,x4⟩:=cs5 Bx3.out;obtain ⟨n0,n1,n2,n3⟩:=cs4 Bn.out;have hxl:=aa Bx3.out;have hnl:=aa Bn.out;go_wp2_with fail;clear x0 x1 x2 x3 x4 n0 n1 n2 n3;by_cases hm : gn x.n x.k x.v kc.n kc.z kc.z;rotate_left
  ·refine (tG x.n x.z x.k x.x x.v kc.n kc.x kc.y kc.z kc.z _ HZX.out.1 hm).mono ?_;exact abA
  refine (ra x.n x.z x.k x.x x.v kc.n kc.x kc.y kc.z kc.z _ hm).mono ?_;rintro e w5 ⟨rfl,hb⟩;have HM:=ae hm;have HB5:=upB HB3 hb;have Bc5:=upK Bc3 hb;clear hb hm Bc3 Bx3 Bn hxl hnl;by_cases hz : kc.z = ⟨#[]⟩
  ·have HNM : Hid (¬ dF x kc t):=fun h => h.1 (by rw [HZO.out];exact hz);have hq2:=cA hz;clear hz;exact abl
  have HMV : Hid (dF x kc t):=⟨by rw [HZO.out];exact hz,by rw [HZO.out];exact HM.out⟩;have hzno:=hzn hz;have HZN:=ae hzno;have hq2:=aY hz;clear hz hzno hzn;go_wp2_with fail;clear hq2;obtain ⟨W,hW0⟩ : ∃ W,W = w5.alloc (.cells #[.string (aA ++ x.n),.int .i64 x.z,.string kc.z,.string x.k,.bool x.x,.string x.n,.bool false,.slice none 0 0] 118):=⟨_,rfl⟩;have BcW:=ae ((Below.heap_alloc w5 (.cells #[.string (aA ++ x.n),.int .i64 x.z,.string kc.z,.string x.k,.bool x.x,.string x.n,.bool false,.slice none 0 0] 118) _ (aa Bc5.out)).trans Bc5.out);have BvW:=ae (heap_alloc_new w5 (.cells #[.string (aA ++ x.n),.int .i64 x.z,.string kc.z,.string x.k,.bool x.x,.string x.n,.bool false,.slice none 0 0] 118));have HBW:=ae (HB5.out.trans ((an w5 (.cells #[.string (aA ++ x.n),.int .i64 x.z,.string kc.z,.string x.k,.bool x.x,.string x.n,.bool false,.slice none 0 0] 118)).mono HB5.out.size));have hw5 : w.heap.size ≤ w5.heap.size:=HB5.out.size;rw [← hW0] at BcW BvW HBW ⊢;clear hW0 Bc5 HB5;cases hh : hit Vd.n c.vs (aA ++ x.n);rotate_left
  ·exact abY
  have HH:=ae hh;clear hh;by_cases h8 : l3 < 8;rotate_left
  ·exact acf
  rename_i K0 hK0;refine bf (back:=none) av (List.append_nil _).symm av ?_;refine' aw.aq _ rfl ?_ ?_;rotate_left 1
  ·exact aaf
  refine' aw.aq _ rfl ?_ ?_;rotate_left 1
  ·exact acD
  refine' aw.aq _ rfl ?_ ?_;rotate_left 1
  ·exact acz
  refine' aw.aq _ rfl ?_ ?_;rotate_left 1
  ·exact aaH
  refine' aw.aq _ rfl ?_ ?_;rotate_left 1
  ·exact abC
  refine aw.step (fun v _ => v = .int .i64 (-1)) rfl (Fact.bR _) ?_ ?_
  ·exact acp
  refine' aw.aq (.bool false) rfl ?_ ?_
  ·exact acd
  refine' aw.aq _ rfl ?_ ?_;rotate_left 1
  ·exact aaf
  refine' aw.aq _ rfl ?_ ?_;rotate_left 1
  ·exact acU
  refine' aw.aq _ rfl ?_ ?_;rotate_left 1
  ·exact abG
  refine' aw.aq _ rfl ?_ ?_;rotate_left 1
  ·exact abR
  refine' aw.aq (.int .i64 l3) rfl ?_ ?_
  ·exact abO
  refine aw.step (fun v _ => v = .int .i64 0) rfl (Fact.bR _) ?_ ?_
  ·exact acF
  refine' aw.aq _ rfl ?_ ?_;rotate_left 1
  ·exact abK
  refine aw.done ?_;intro q wy hW hf;simp only [List.forall_mem_cons] at hf;obtain ⟨h13,h103,h102,h101,h100,h99,h98,h97,h96,h95,h94,h93,h92,h91,-⟩:=hf;have HWY:=ae hW;clear hW;refine hK0 _ _ ?_;simp only [aE,List.foldr,Act.put,List.setIfInBounds_toArray,List.set_cons_zero,List.set_cons_succ,h13,h103,h102,h101,h100,h99,h98,h97,h96,h95,h94,h93,h92,h91];clear hK0;have Bc6:=upK BcW HWY.out;have Bv6:=upK BvW HWY.out;have HB6:=ae (HBW.out.trans (HWY.out.mono HBW.out.size));have hw6 : w5.heap.size < wy.heap.size:=aa Bv6.out;clear HBW HWY BcW BvW;go_wp2_with fail;obtain ⟨hxo,hZ1,hZ2,hZ0⟩:=abV;have hZ3 : kc.z.size ≤ 9223372036854775807:=by have h1:=HZN.out.2.1;omega
  clear hxo;rename_i K0 hK0;refine Gt.aT av rfl rfl av ?_;refine' aw.aq _ rfl ?_ ?_;rotate_left 1
  ·exact aaf
  refine' aw.aq _ rfl ?_ ?_;rotate_left 1
  ·exact aaf
  refine' aw.aq _ rfl ?_ ?_;rotate_left 1
  ·exact abI
  refine' aw.aq _ rfl ?_ ?_;rotate_left 1
  ·exact acR
  refine' aw.aq _ rfl ?_ ?_;rotate_left 1
  ·exact acn
  refine' aw.aq _ rfl ?_ ?_;rotate_left 1
  ·exact acg
  refine aw.step (sZ w S (cI c i x kc.z).vs) rfl (sZ.mono _ _ _) ?_ ?_
  ·refine Obl.plain rfl ?_;intro ac wg K hsz hW hf hK;clear hsz;have e111:=hf 111 al;simp [ai,List.lookup] at e111;have e112:=hf 112 al;simp [ai,List.lookup] at e112;clear hf;go_simp;refine (mA a3 l3 y3 c.vs (mkV x kc.z) none 0 0 0 S (fun _ => False) _ (HO.out.v.below (HB6.out.trans (hW.mono HB6.out.size))) af (fun q f hf => ?_) (fun _ _ h => h)).mono ?_
   ·exact ab9
   exact abF
  refine' aw.aq _ rfl ?_ ?_;rotate_left 1
  ·exact acr
  refine' aw.aq _ rfl ?_ ?_;rotate_left 1
  ·exact ace
  refine aw.done ?_;intro q wx hW hf;simp only [List.forall_mem_cons] at hf;obtain ⟨h115,h114,h113,h112,h111,h110,h109,h108,h107,-⟩:=hf;obtain ⟨q3,m3,z3,hv113,ho7⟩:=h113;have HO7:=ae ho7;have HWX:=upB HB6 hW;have Bc7:=upK Bc6 hW;have Bv7:=upK Bv6 hW;obtain ⟨k0,k1,k2,k3,k4,k5⟩:=cs6 Bc7.out;have hfz:=au Bc7.out 2;have hbl7:=aa Bc7.out;clear ho7 hW;intro K hK;rw [if_pos bH];simp only [aE,List.foldr,Act.put,List.setIfInBounds_toArray,List.set_cons_zero,List.set_cons_succ,h115,h114,h112,h111,h110,h109,h108,h107,hv113];simp only [List.getLast];go_simp;refine hK _ _ ?_;refine hK0 _ _ ?_;clear hK hK0 K K0;clear k0 k1 k2 k3 k4 k5 hfz;have hnb : ∀ k,(S k ∨ w.heap.size ≤ k) → ¬ k = b:=fun k h => by
   rcases h with h | h
   ·exact (HS.out k h).2
   ·omega
  obtain ⟨kp,f1,f2,f4,f5,f3,hB8⟩:=abW;have hv8 : (wx.setCell ⟨b,2,none⟩ (.slice q3 m3 z3)).heap[w5.heap.size]? = some (.cells #[.string (aA ++ x.n),.int .i64 x.z,.string kc.z,.string x.k,.bool x.x,.string x.n,.bool false,.slice none 0 0] 118 (0,0)):=(Below.heap_setCell _ _ _ _ (show w5.heap.size ≠ b by omega)).trans Bv7.out;exact ab1
 ·have hq:=aY hte;have HZO : Hid (aR t kc.z = t):=by show aR _ _ = _;unfold aR;rw [if_neg hte]
  clear hte;have hzn : ¬ t = ⟨#[]⟩ → aL t:=fun h => HTZ.out.resolve_left h;obtain ⟨x0,x1,x2,x3,x4⟩:=cs5 Bx3.out;obtain ⟨n0,n1,n2,n3⟩:=cs4 Bn.out;have hxl:=aa Bx3.out;have hnl:=aa Bn.out;go_wp2_with fail;clear x0 x1 x2 x3 x4 n0 n1 n2 n3;by_cases hm : gn x.n x.k x.v kc.n kc.z t;rotate_left
  ·refine (tG x.n x.z x.k x.x x.v kc.n kc.x kc.y kc.z t _ HZX.out.1 hm).mono ?_;exact abA
  refine (ra x.n x.z x.k x.x x.v kc.n kc.x kc.y kc.z t _ hm).mono ?_;rintro e w5 ⟨rfl,hb⟩;have HM:=ae hm;have HB5:=upB HB3 hb;have Bc5:=upK Bc3 hb;clear hb hm Bc3 Bx3 Bn hxl hnl;by_cases hz : t = ⟨#[]⟩
  ·have HNM : Hid (¬ dF x kc t):=fun h => h.1 (by rw [HZO.out];exact hz);clear hq;have hq2:=cA hz;clear hz;exact abl
  have HMV : Hid (dF x kc t):=⟨by rw [HZO.out];exact hz,by rw [HZO.out];exact HM.out⟩;have hzno:=hzn hz;have HZN:=ae hzno;clear hq;have hq2:=aY hz;clear hz hzno hzn;go_wp2_with fail;clear hq2;obtain ⟨W,hW0⟩ : ∃ W,W = w5.alloc (.cells #[.string (aA ++ x.n),.int .i64 x.z,.string t,.string x.k,.bool x.x,.string x.n,.bool false,.slice none 0 0] 118):=⟨_,rfl⟩;have BcW:=ae ((Below.heap_alloc w5 (.cells #[.string (aA ++ x.n),.int .i64 x.z,.string t,.string x.k,.bool x.x,.string x.n,.bool false,.slice none 0 0] 118) _ (aa Bc5.out)).trans Bc5.out);have BvW:=ae (heap_alloc_new w5 (.cells #[.string (aA ++ x.n),.int .i64 x.z,.string t,.string x.k,.bool x.x,.string x.n,.bool false,.slice none 0 0] 118));have HBW:=ae (HB5.out.trans ((an w5 (.cells #[.string (aA ++ x.n),.int .i64 x.z,.string t,.string x.k,.bool x.x,.string x.n,.bool false,.slice none 0 0] 118)).mono HB5.out.size));have hw5 : w.heap.size ≤ w5.heap.size:=HB5.out.size;rw [← hW0] at BcW BvW HBW ⊢;clear hW0 Bc5 HB5;cases hh : hit Vd.n c.vs (aA ++ x.n);rotate_left
  ·exact abY
  have HH:=ae hh;clear hh;by_cases h8 : l3 < 8;rotate_left
  ·exact acf
  rename_i K0 hK0;refine bf (back:=none) av (List.append_nil _).symm av ?_;refine' aw.aq _ rfl ?_ ?_;rotate_left 1
  ·exact aaf
  refine' aw.aq _ rfl ?_ ?_;rotate_left 1
  ·exact acD
  refine' aw.aq _ rfl ?_ ?_;rotate_left 1
  ·exact acz
  refine' aw.aq _ rfl ?_ ?_;rotate_left 1
  ·exact aaH
  refine' aw.aq _ rfl ?_ ?_;rotate_left 1
  ·exact abC
  refine aw.step (fun v _ => v = .int .i64 (-1)) rfl (Fact.bR _) ?_ ?_
  ·exact acp
  refine' aw.aq (.bool false) rfl ?_ ?_
  ·exact acd
  refine' aw.aq _ rfl ?_ ?_;rotate_left 1
  ·exact aaf
  refine' aw.aq _ rfl ?_ ?_;rotate_left 1
  ·exact acU
  refine' aw.aq _ rfl ?_ ?_;rotate_left 1
  ·exact abG
  refine' aw.aq _ rfl ?_ ?_;rotate_left 1
  ·exact abR
  refine' aw.aq (.int .i64 l3) rfl ?_ ?_
  ·exact abO
  refine aw.step (fun v _ => v = .int .i64 0) rfl (Fact.bR _) ?_ ?_
  ·exact acF
  refine' aw.aq _ rfl ?_ ?_;rotate_left 1
  ·exact abK
  refine aw.done ?_;intro q wy hW hf;simp only [List.forall_mem_cons] at hf;obtain ⟨h13,h103,h102,h101,h100,h99,h98,h97,h96,h95,h94,h93,h92,h91,-⟩:=hf;have HWY:=ae hW;clear hW;refine hK0 _ _ ?_;simp only [aE,List.foldr,Act.put,List.setIfInBounds_toArray,List.set_cons_zero,List.set_cons_succ,h13,h103,h102,h101,h100,h99,h98,h97,h96,h95,h94,h93,h92,h91];clear hK0;have Bc6:=upK BcW HWY.out;have Bv6:=upK BvW HWY.out;have HB6:=ae (HBW.out.trans (HWY.out.mono HBW.out.size));have hw6 : w5.heap.size < wy.heap.size:=aa Bv6.out;clear HBW HWY BcW BvW;go_wp2_with fail;obtain ⟨hxo,hZ1,hZ2,hZ0⟩:=abV;have hZ3 : t.size ≤ 9223372036854775807:=by have h1:=HZN.out.2.1;omega
  clear hxo;rename_i K0 hK0;refine Gt.aT av rfl rfl av ?_;refine' aw.aq _ rfl ?_ ?_;rotate_left 1
  ·exact aaf
  refine' aw.aq _ rfl ?_ ?_;rotate_left 1
  ·exact aaf
  refine' aw.aq _ rfl ?_ ?_;rotate_left 1
  ·exact abI
  refine' aw.aq _ rfl ?_ ?_;rotate_left 1
  ·exact acR
  refine' aw.aq _ rfl ?_ ?_;rotate_left 1
  ·exact acn
  refine' aw.aq _ rfl ?_ ?_;rotate_left 1
  ·exact acg
  refine aw.step (sZ w S (cI c i x t).vs) rfl (sZ.mono _ _ _) ?_ ?_
  ·refine Obl.plain rfl ?_;intro ac wg K hsz hW hf hK;clear hsz;have e111:=hf 111 al;simp [ai,List.lookup] at e111;have e112:=hf 112 al;simp [ai,List.lookup] at e112;clear hf;go_simp;refine (mA a3 l3 y3 c.vs (mkV x t) none 0 0 0 S (fun _ => False) _ (HO.out.v.below (HB6.out.trans (hW.mono HB6.out.size))) af (fun q f hf => ?_) (fun _ _ h => h)).mono ?_
   ·exact ab9
   exact abF
  refine' aw.aq _ rfl ?_ ?_;rotate_left 1
  ·exact acr
  refine' aw.aq _ rfl ?_ ?_;rotate_left 1
  ·exact ace
  refine aw.done ?_;intro q wx hW hf;simp only [List.forall_mem_cons] at hf;obtain ⟨h115,h114,h113,h112,h111,h110,h109,h108,h107,-⟩:=hf;obtain ⟨q3,m3,z3,hv113,ho7⟩:=h113;have HO7:=ae ho7;have HWX:=upB HB6 hW;have Bc7:=upK Bc6 hW;have Bv7:=upK Bv6 hW;obtain ⟨k0,k1,k2,k3,k4,k5⟩:=cs6 Bc7.out;have hfz:=au Bc7.out 2;have hbl7:=aa Bc7.out;clear ho7 hW;intro K hK;rw [if_pos bH];simp only [aE,List.foldr,Act.put,List.setIfInBounds_toArray,List.set_cons_zero,List.set_cons_succ,h115,h114,h112,h111,h110,h109,h108,h107,hv113];simp only [List.getLast];go_simp;refine hK _ _ ?_;refine hK0 _ _ ?_;clear hK hK0 K K0;clear k0 k1 k2 k3 k4 k5 hfz;have hnb : ∀ k,(S k ∨ w.heap.size ≤ k) → ¬ k = b:=fun k h => by
   rcases h with h | h
   ·exact (HS.out k h).2
   ·omega
  obtain ⟨kp,f1,f2,f4,f5,f3,hB8⟩:=abW;have hv8 : (wx.setCell ⟨b,2,none⟩ (.slice q3 m3 z3)).heap[w5.heap.size]? = some (.cells #[.string (aA ++ x.n),.int .i64 x.z,.string t,.string x.k,.bool x.x,.string x.n,.bool false,.slice none 0 0] 118 (0,0)):=(Below.heap_setCell _ _ _ _ (show w5.heap.size ≠ b by omega)).trans Bv7.out;exact ab1

theorem CG (c : Cl) (i : Nat) (x : Xd) (k : Kd) (t : ByteArray) : ∃ o,dL c i x k t o:=by
 cases h : cJ (svV x.z x.k x.x t) c.vs with
 | some u =>
  obtain ⟨j,hj⟩:=oh h;exact ⟨_,.inl ⟨j,u,h,hj,rfl⟩⟩
 | none =>
  by_cases h1 : dF x k t
  ·cases h2 : hit Vd.n c.vs (aA ++ x.n)
   ·by_cases h3 : c.vs.length < 8
    ·exact ⟨_,.inr ⟨h,.inr ⟨h1,.inr ⟨h2,.inr ⟨h3,rfl⟩⟩⟩⟩⟩
    ·exact ⟨_,.inr ⟨h,.inr ⟨h1,.inr ⟨h2,.inl ⟨h3,rfl⟩⟩⟩⟩⟩
   ·exact ⟨_,.inr ⟨h,.inr ⟨h1,.inl ⟨h2,rfl⟩⟩⟩⟩
  ·exact ⟨_,.inr ⟨h,.inl ⟨h1,rfl⟩⟩⟩
def DW (c : Cl) (t : ByteArray) (n : Nd) (S : Nat → Prop) (b : Nat) (a1 : Option Addr) (l1 y1 : Nat) (a2 : Option Addr) (l2 y2 : Nat) (_a3 : Option Addr) (_l3 _y3 : Nat) (a4 : Option Addr) (l4 y4 : Nat) (a5 : Option Addr) (l5 y5 : Nat) (w : World) (e : Ending) (w' : World) : Prop :=
 ∃ (c' : Cl) (e0 : Int),e = .returned (.int .i64 e0) ∧ cW c n t c' e0 ∧ ((¬ e0 = 0 ∧ Below w.heap.size w w') ∨ (e0 = 0 ∧ ∃ (q3 : Option Addr) (m3 z3 : Nat),w'.heap[b]? = some (.cells #[.slice a1 l1 y1,.slice a2 l2 y2,.slice q3 m3 z3,.slice a4 l4 y4,.slice a5 l5 y5,.int .i64 c.now] 37 (0,0)) ∧ eM w' ⟨a1,l1,y1,a2,l2,y2,q3,m3,z3,a4,l4,y4,a5,l5,y5⟩ c'.raw (fun k => S k ∨ w.heap.size ≤ k) ∧ aP (fun k => S k ∨ k = b) w w'))

theorem tN (c : Cl) (t : ByteArray) (n : Nd) (na : Option Addr) (nl nc : Nat) (S : Nat → Prop) (b : Nat) (a1 : Option Addr) (l1 y1 : Nat) (a2 : Option Addr) (l2 y2 : Nat) (a3 : Option Addr) (l3 y3 : Nat) (a4 : Option Addr) (l4 y4 : Nat) (a5 : Option Addr) (l5 y5 : Nat) (w : World) (hb : w.heap[b]? = some (.cells #[.slice a1 l1 y1,.slice a2 l2 y2,.slice a3 l3 y3,.slice a4 l4 y4,.slice a5 l5 y5,.int .i64 c.now] 37 (0,0))) (hO : eM w ⟨a1,l1,y1,a2,l2,y2,a3,l3,y3,a4,l4,y4,a5,l5,y5⟩ c.raw S) (hS : ∀ k,S k → k < w.heap.size ∧ ¬ k = b) (hT : aC c) (ht : hit Xd.n c.xs t = true) (hnz : aL n.z) :
  Calls Tryz.prog 66 #[.pointer (some ⟨b,0,none⟩),.string t,.agg #[.string n.n,.string n.z,.int .i64 n.c,.int .i64 n.s,.int .i64 n.u,.bool n.d,.slice na nl nc]] w (DW c t n S b a1 l1 y1 a2 l2 y2 a3 l3 y3 a4 l4 y4 a5 l5 y5 w):=by
 have HO:=ae hO;have HR:=ae hO.row;have HS:=ae hS;have HT:=ae hT;have HNZ:=ae hnz;have hl2 : c.ks.length = l2:=by simpa using (show (c.ks.map kdF).length = l2 from hO.row.k.1)
 have hl3 : c.vs.length = l3:=by simpa using (show (c.vs.map vdF).length = l3 from hO.row.v.1)
 have hl4 : c.xs.length = l4:=by simpa using (show (c.xs.map xdF).length = l4 from hO.row.x.1)
 obtain ⟨x,hx,hn⟩:=da ht;generalize Rc.pl Xd.n c.xs t = i at hx;have HX:=ae (And.intro hx hn);have hbd:=(hT.2.2.1.2 _ x hx).2;have hi4 : i < l4:=by have:=(List.getElem?_eq_some_iff.1 hx).1;omega
 have hii : (i : Int) < l4:=aaa
 have hi0 : ¬ (i : Int) < 0:=aaa
 obtain ⟨j,k,hkj,hkn⟩ : ∃ (j : Nat) (k : Kd),c.ks[j]? = some k ∧ k.n = x.k:=by obtain ⟨k,h1,h2⟩:=da (hT.2.2.1.2 _ x hx).1;exact ⟨_,k,h1,h2⟩
 have HK:=ae (And.intro hkj hkn);have hj2 : j < l2:=by have:=(List.getElem?_eq_some_iff.1 hkj).1;omega
 have hjj : (j : Int) < l2:=aaa
 have hj0 : ¬ (j : Int) < 0:=aaa
 have HB:=ae (Below.refl w.heap.size w);clear hO hS hT hnz ht hx hn hkj hkn;have Bg:=ae (hb);clear hb;rcases hbd with hv0 | hBd;rotate_left
 ·obtain ⟨i1,j1,x1,v,b1,b2,b3,b4,b5,b6,-⟩:=hBd;have HV:=ae (And.intro b3 b4);have HM : Hid (v.m = t):=b6.trans HX.out.2;have HZS:=ae ((HT.out.2.1.2.2.1.2.1 j1 v b3).2.2.2.2.2.2.1);have hj3 : j1 < l3:=by have:=(List.getElem?_eq_some_iff.1 b3).1;omega
  have hjj3 : (j1 : Int) < l3:=aaa
  have hj03 : ¬ (j1 : Int) < 0:=aaa
  clear b1 b2 b3 b4 b5 b6;go_enter Tryz.func66,Tryz.ntmps66;obtain ⟨g0,g1,g2,g3,g4,g5⟩:=cs6 Bg.out;have ltg_0:=aa Bg.out;go_wp2_with fail;refine (ka ⟨a1,l1,y1,a2,l2,y2,a3,l3,y3,a4,l4,y4,a5,l5,y5⟩ c t _ (HR.out.below (HB.out.trans ((an _ _).mono HB.out.size))) HT.out HV.out.1 ⟨i,j1,x,HX.out.1,HX.out.2,HV.out.1,HV.out.2⟩).mono ?_;rintro e w1 ⟨rfl,hb⟩;clear g0 g1 g2 g3 g4 g5 ltg_0;obtain ⟨HA0,hbx⟩:=aG hb;replace Bg:=upK Bg hbx;have Bn:=ae HA0;replace HB:=upB HB hbx;clear hb hbx HA0;obtain ⟨bv,ov,y,rfl,hbv,hy,hat⟩:=bC (HR.out.v.below HB.out) hj3;rw [HV.out.1] at hy;obtain rfl:=Option.some.inj hy;obtain ⟨va,vl,vc,hvr,z0,z2,z3,z5,c0,c1,c2,c3,c4,c5,c6,c7⟩:=aK hat;have HVR:=ae hvr;clear hat hy z0 z2 z3 z5 hvr;by_cases hz : v.z = n.z;rotate_left
  ·have hq:=bo hz;have HZ:=ae hz;clear hz;obtain ⟨g0,g1,g2,g3,g4,g5⟩:=cs6 Bg.out;have ltg_1:=aa Bg.out;obtain ⟨n0,n1,n2,n3,n4,n5,n6⟩:=cs7 Bn.out;have ltn_1:=aa Bn.out;go_wp2;go_ret;exact ⟨c,8,rfl,⟨i,x,HX.out.1,HX.out.2,.inl ⟨j1,v,HV.out.1,HV.out.2,rfl,.inl ⟨HZ.out,rfl⟩⟩⟩,.inl ⟨by decide,HB.out.trans ((an _ _).mono HB.out.size)⟩⟩
  have hq:=aV hz;have HZ:=ae hz;clear hz;cases hvx : v.x
  ·have HVX:=ae hvx;rw [hvx] at c4;clear hvx;obtain ⟨g0,g1,g2,g3,g4,g5⟩:=cs6 Bg.out;have ltg_1:=aa Bg.out;obtain ⟨n0,n1,n2,n3,n4,n5,n6⟩:=cs7 Bn.out;have ltn_1:=aa Bn.out;go_wp2_with fail;clear g0 g1 g2 g3 g4 g5 ltg_1 n0 n1 n2 n3 n4 n5 n6 ltn_1;have hszv2 : (w1.alloc (.cells #[.string v.n,.int .i64 v.c,.string v.z,.string v.k,.bool false,.string v.m,.bool v.y,.slice va vl vc] 118)).heap.size = w1.heap.size + 1:=by simp
   have Gg : Hid ((w1.alloc (.cells #[.string v.n,.int .i64 v.c,.string v.z,.string v.k,.bool false,.string v.m,.bool v.y,.slice va vl vc] 118)).heap[b]? = some (.cells #[.slice a1 l1 y1,.slice a2 l2 y2,.slice (some ⟨bv,ov,none⟩) l3 y3,.slice a4 l4 y4,.slice a5 l5 y5,.int .i64 c.now] 37 (0,0))):=(Below.heap_alloc _ _ _ (aa Bg.out)).trans (Bg.out);have Gn : Hid ((w1.alloc (.cells #[.string v.n,.int .i64 v.c,.string v.z,.string v.k,.bool false,.string v.m,.bool v.y,.slice va vl vc] 118)).heap[w.heap.size]? = some (.cells #[.string n.n,.string n.z,.int .i64 n.c,.int .i64 n.s,.int .i64 n.u,.bool n.d,.slice na nl nc] 72 (0,0))):=(Below.heap_alloc _ _ _ (aa Bn.out)).trans (Bn.out);have Gv : Hid ((w1.alloc (.cells #[.string v.n,.int .i64 v.c,.string v.z,.string v.k,.bool false,.string v.m,.bool v.y,.slice va vl vc] 118)).heap[w1.heap.size]? = some (.cells #[.string v.n,.int .i64 v.c,.string v.z,.string v.k,.bool false,.string v.m,.bool v.y,.slice va vl vc] 118 (0,0))):=Array.getElem?_push_size;have HW : Hid (Below w.heap.size w (w1.alloc (.cells #[.string v.n,.int .i64 v.c,.string v.z,.string v.k,.bool false,.string v.m,.bool v.y,.slice va vl vc] 118))):=(HB.out.trans ((an _ _).mono HB.out.size));obtain ⟨g0,g1,g2,g3,g4,g5⟩:=sl6 Gg;obtain ⟨n0,n1,n2,n3,n4,n5,n6⟩:=sl7 Gn;obtain ⟨v0,v1,v2,v3,v4,v5,v6,v7⟩:=sl8 Gv;have hne0:=Wd.ne (w1.alloc (.cells #[.string v.n,.int .i64 v.c,.string v.z,.string v.k,.bool false,.string v.m,.bool v.y,.slice va vl vc] 118));go_wp2_with fail;refine aj av av ?_;repeat (go_big_quiet_step (first | fail))
   refine wpQuiet_nil ?_;rintro _ ⟨q1,rfl⟩;obtain ⟨HB2,Cg,Cn,Cv⟩:=aay;clear hne0 HW HB g0 g1 g2 g3 g4 g5 n0 n1 n2 n3 n4 n5 n6 v0 v1 v2 v3 v4 v5 v6 v7 Gg Gn Gv Bg Bn hszv2 c0 c1 c2 c3 c4 c5 c6 c7 hbv hq;have HB:=HB2;clear HB2;have Bg:=Cg;clear Cg;have Bn:=Cn;clear Cn;have Bv:=Cv;clear Cv;go_wp2;go_ret;exact ⟨c,0,rfl,⟨i,x,HX.out.1,HX.out.2,.inl ⟨j1,v,HV.out.1,HV.out.2,rfl,.inr (.inr ⟨HZ.out,(fun h => by have h9:=h.1;rw [HVX.out] at h9;cases h9),rfl⟩)⟩⟩,.inr ⟨rfl,some ⟨bv,ov,none⟩,l3,y3,Bg.out,⟨(HO.out.below HB.out).n.bs (fun _ _ s => .inl s),(HO.out.below HB.out).k.bs (fun _ _ s => .inl s),(HO.out.below HB.out).v.bs (fun _ _ s => .inl s),(HO.out.below HB.out).x.bs (fun _ _ s => .inl s),(HO.out.below HB.out).p.bs (fun _ _ s => .inl s)⟩,aP.cU HB.out⟩⟩
  have HVX:=ae hvx;rw [hvx] at c4;clear hvx;by_cases hel : ∃ (j : Nat) (p : Pd),c.ps[j]? = some p ∧ OtP p n.n t
  ·have HEL:=ae hel;clear hel;obtain ⟨g0,g1,g2,g3,g4,g5⟩:=cs6 Bg.out;have ltg_1:=aa Bg.out;obtain ⟨n0,n1,n2,n3,n4,n5,n6⟩:=cs7 Bn.out;have ltn_1:=aa Bn.out;go_wp2_with fail;clear g0 g1 g2 g3 g4 g5 ltg_1 n0 n1 n2 n3 n4 n5 n6 ltn_1;have hszv2 : (w1.alloc (.cells #[.string v.n,.int .i64 v.c,.string v.z,.string v.k,.bool true,.string v.m,.bool v.y,.slice va vl vc] 118)).heap.size = w1.heap.size + 1:=by simp
   have Gg : Hid ((w1.alloc (.cells #[.string v.n,.int .i64 v.c,.string v.z,.string v.k,.bool true,.string v.m,.bool v.y,.slice va vl vc] 118)).heap[b]? = some (.cells #[.slice a1 l1 y1,.slice a2 l2 y2,.slice (some ⟨bv,ov,none⟩) l3 y3,.slice a4 l4 y4,.slice a5 l5 y5,.int .i64 c.now] 37 (0,0))):=(Below.heap_alloc _ _ _ (aa Bg.out)).trans (Bg.out);have Gn : Hid ((w1.alloc (.cells #[.string v.n,.int .i64 v.c,.string v.z,.string v.k,.bool true,.string v.m,.bool v.y,.slice va vl vc] 118)).heap[w.heap.size]? = some (.cells #[.string n.n,.string n.z,.int .i64 n.c,.int .i64 n.s,.int .i64 n.u,.bool n.d,.slice na nl nc] 72 (0,0))):=(Below.heap_alloc _ _ _ (aa Bn.out)).trans (Bn.out);have Gv : Hid ((w1.alloc (.cells #[.string v.n,.int .i64 v.c,.string v.z,.string v.k,.bool true,.string v.m,.bool v.y,.slice va vl vc] 118)).heap[w1.heap.size]? = some (.cells #[.string v.n,.int .i64 v.c,.string v.z,.string v.k,.bool true,.string v.m,.bool v.y,.slice va vl vc] 118 (0,0))):=Array.getElem?_push_size;have HW : Hid (Below w.heap.size w (w1.alloc (.cells #[.string v.n,.int .i64 v.c,.string v.z,.string v.k,.bool true,.string v.m,.bool v.y,.slice va vl vc] 118))):=(HB.out.trans ((an _ _).mono HB.out.size));obtain ⟨g0,g1,g2,g3,g4,g5⟩:=sl6 Gg;obtain ⟨n0,n1,n2,n3,n4,n5,n6⟩:=sl7 Gn;obtain ⟨v0,v1,v2,v3,v4,v5,v6,v7⟩:=sl8 Gv;have hne0:=Wd.ne (w1.alloc (.cells #[.string v.n,.int .i64 v.c,.string v.z,.string v.k,.bool true,.string v.m,.bool v.y,.slice va vl vc] 118));have HC0:=ae (fun q : Wd (w1.alloc (.cells #[.string v.n,.int .i64 v.c,.string v.z,.string v.k,.bool true,.string v.m,.bool v.y,.slice va vl vc] 118)) => (gA ⟨a1,l1,y1,a2,l2,y2,(some ⟨bv,ov,none⟩),l3,y3,a4,l4,y4,a5,l5,y5⟩ c t n.n q.w (HR.out.below (HW.out.trans (q.b.mono HW.out.size)))).mono (fun _ _ h => ar.yes h HEL.out));go_wp2_with fail;refine aj av av ?_;repeat (go_big_quiet_step (first | (go_at_call 119;exact Calls.wide (HC0.out _)) | fail))
   refine wpQuiet_nil ?_;rintro _ ⟨q1,rfl⟩;obtain ⟨HB2,Cg,Cn,Cv⟩:=aay;clear hne0 HW HB HC0 g0 g1 g2 g3 g4 g5 n0 n1 n2 n3 n4 n5 n6 v0 v1 v2 v3 v4 v5 v6 v7 Gg Gn Gv Bg Bn hszv2 c0 c1 c2 c3 c4 c5 c6 c7 hbv hq;have HB:=HB2;clear HB2;have Bg:=Cg;clear Cg;have Bn:=Cn;clear Cn;have Bv:=Cv;clear Cv;go_wp2;go_ret;exact ⟨c,10,rfl,⟨i,x,HX.out.1,HX.out.2,.inl ⟨j1,v,HV.out.1,HV.out.2,rfl,.inr (.inl ⟨HZ.out,⟨HVX.out,.inr (by obtain ⟨j9,p9,h1,h2,h3,h4⟩:=HEL.out;exact ⟨j9,p9,h1,h2,h3,by rw [HM.out];exact h4⟩)⟩,rfl⟩)⟩⟩,.inl ⟨by decide,HB.out⟩⟩
  have HEL:=ae hel;clear hel;have hvl : v.zs.length = vl:=HVR.out.1;have hv1 : vl ≤ 1:=by have h9:=HZS.out;rw [HVX.out] at h9;simp at h9;omega
  by_cases hv0 : vl = 0
  ·subst hv0;obtain ⟨g0,g1,g2,g3,g4,g5⟩:=cs6 Bg.out;have ltg_1:=aa Bg.out;obtain ⟨n0,n1,n2,n3,n4,n5,n6⟩:=cs7 Bn.out;have ltn_1:=aa Bn.out;go_wp2_with fail;clear g0 g1 g2 g3 g4 g5 ltg_1 n0 n1 n2 n3 n4 n5 n6 ltn_1;have hszv2 : (w1.alloc (.cells #[.string v.n,.int .i64 v.c,.string v.z,.string v.k,.bool true,.string v.m,.bool v.y,.slice va 0 vc] 118)).heap.size = w1.heap.size + 1:=by simp
   have Gg : Hid ((w1.alloc (.cells #[.string v.n,.int .i64 v.c,.string v.z,.string v.k,.bool true,.string v.m,.bool v.y,.slice va 0 vc] 118)).heap[b]? = some (.cells #[.slice a1 l1 y1,.slice a2 l2 y2,.slice (some ⟨bv,ov,none⟩) l3 y3,.slice a4 l4 y4,.slice a5 l5 y5,.int .i64 c.now] 37 (0,0))):=(Below.heap_alloc _ _ _ (aa Bg.out)).trans (Bg.out);have Gn : Hid ((w1.alloc (.cells #[.string v.n,.int .i64 v.c,.string v.z,.string v.k,.bool true,.string v.m,.bool v.y,.slice va 0 vc] 118)).heap[w.heap.size]? = some (.cells #[.string n.n,.string n.z,.int .i64 n.c,.int .i64 n.s,.int .i64 n.u,.bool n.d,.slice na nl nc] 72 (0,0))):=(Below.heap_alloc _ _ _ (aa Bn.out)).trans (Bn.out);have Gv : Hid ((w1.alloc (.cells #[.string v.n,.int .i64 v.c,.string v.z,.string v.k,.bool true,.string v.m,.bool v.y,.slice va 0 vc] 118)).heap[w1.heap.size]? = some (.cells #[.string v.n,.int .i64 v.c,.string v.z,.string v.k,.bool true,.string v.m,.bool v.y,.slice va 0 vc] 118 (0,0))):=Array.getElem?_push_size;have HW : Hid (Below w.heap.size w (w1.alloc (.cells #[.string v.n,.int .i64 v.c,.string v.z,.string v.k,.bool true,.string v.m,.bool v.y,.slice va 0 vc] 118))):=(HB.out.trans ((an _ _).mono HB.out.size));obtain ⟨g0,g1,g2,g3,g4,g5⟩:=sl6 Gg;obtain ⟨n0,n1,n2,n3,n4,n5,n6⟩:=sl7 Gn;obtain ⟨v0,v1,v2,v3,v4,v5,v6,v7⟩:=sl8 Gv;have hne0:=Wd.ne (w1.alloc (.cells #[.string v.n,.int .i64 v.c,.string v.z,.string v.k,.bool true,.string v.m,.bool v.y,.slice va 0 vc] 118));have HC0:=ae (fun q : Wd (w1.alloc (.cells #[.string v.n,.int .i64 v.c,.string v.z,.string v.k,.bool true,.string v.m,.bool v.y,.slice va 0 vc] 118)) => (gA ⟨a1,l1,y1,a2,l2,y2,(some ⟨bv,ov,none⟩),l3,y3,a4,l4,y4,a5,l5,y5⟩ c t n.n q.w (HR.out.below (HW.out.trans (q.b.mono HW.out.size)))).mono (fun _ _ h => ar.no h HEL.out));go_wp2_with fail;refine aj av av ?_;repeat (go_big_quiet_step (first | (go_at_call 119;exact Calls.wide (HC0.out _)) | fail))
   refine wpQuiet_nil ?_;rintro _ ⟨q1,rfl⟩;obtain ⟨HB2,Cg,Cn,Cv⟩:=aay;clear hne0 HW HB HC0 g0 g1 g2 g3 g4 g5 n0 n1 n2 n3 n4 n5 n6 v0 v1 v2 v3 v4 v5 v6 v7 Gg Gn Gv Bg Bn hszv2 c0 c1 c2 c3 c4 c5 c6 c7 hbv hq;have HB:=HB2;clear HB2;have Bg:=Cg;clear Cg;have Bn:=Cn;clear Cn;have Bv:=Cv;clear Cv;go_wp2;go_ret;exact ⟨c,0,rfl,⟨i,x,HX.out.1,HX.out.2,.inl ⟨j1,v,HV.out.1,HV.out.2,rfl,.inr (.inr ⟨HZ.out,fun h => h.2.elim (fun ⟨j9,t9,h1,h2⟩ => (by have h9:=(List.getElem?_eq_some_iff.1 h1).1;omega)) (fun ⟨j9,p9,h1,h2,h3,h4⟩ => HEL.out ⟨j9,p9,h1,h2,h3,by rw [← HM.out];exact h4⟩),rfl⟩)⟩⟩,.inr ⟨rfl,some ⟨bv,ov,none⟩,l3,y3,Bg.out,⟨(HO.out.below HB.out).n.bs (fun _ _ s => .inl s),(HO.out.below HB.out).k.bs (fun _ _ s => .inl s),(HO.out.below HB.out).v.bs (fun _ _ s => .inl s),(HO.out.below HB.out).x.bs (fun _ _ s => .inl s),(HO.out.below HB.out).p.bs (fun _ _ s => .inl s)⟩,aP.cU HB.out⟩⟩
  obtain rfl : vl = 1:=aaa
  obtain ⟨bz,oz,z,rfl,hbz,hz,hcz0,-⟩:=HVR.out.at (show 0 < 1 by omega);have hcz : w1.cell? ⟨bz,oz,none⟩ = some (.string z):=by simpa using hcz0
  clear hcz0;have HZ0:=ae hz;clear hz;by_cases hzn : z = n.n
  ·have hqz:=aV hzn;have HZN:=ae hzn;clear hzn;obtain ⟨g0,g1,g2,g3,g4,g5⟩:=cs6 Bg.out;have ltg_1:=aa Bg.out;obtain ⟨n0,n1,n2,n3,n4,n5,n6⟩:=cs7 Bn.out;have ltn_1:=aa Bn.out;go_wp2_with fail;clear g0 g1 g2 g3 g4 g5 ltg_1 n0 n1 n2 n3 n4 n5 n6 ltn_1;obtain ⟨hszv2,Gg,Gn,Gv,HW⟩:=acw;obtain ⟨g0,g1,g2,g3,g4,g5⟩:=sl6 Gg;obtain ⟨n0,n1,n2,n3,n4,n5,n6⟩:=sl7 Gn;obtain ⟨v0,v1,v2,v3,v4,v5,v6,v7⟩:=sl8 Gv;obtain ⟨zc,hne0,HC0⟩:=abN;go_wp2_with fail;refine aj av av ?_;repeat (go_big_quiet_step (first | (go_at_call 119;exact Calls.wide (HC0.out _)) | fail))
   refine wpQuiet_nil ?_;rintro _ ⟨q1,rfl⟩;obtain ⟨HB2,Cg,Cn,Cv⟩:=aay;clear hne0 HW HB HC0 g0 g1 g2 g3 g4 g5 n0 n1 n2 n3 n4 n5 n6 v0 v1 v2 v3 v4 v5 v6 v7 zc Gg Gn Gv Bg Bn hszv2 c0 c1 c2 c3 c4 c5 c6 c7 hbv hq hcz hbz hqz;have HB:=HB2;clear HB2;have Bg:=Cg;clear Cg;have Bn:=Cn;clear Cn;have Bv:=Cv;clear Cv;go_wp2;go_ret;exact ⟨c,0,rfl,⟨i,x,HX.out.1,HX.out.2,.inl ⟨j1,v,HV.out.1,HV.out.2,rfl,.inr (.inr ⟨HZ.out,fun h => h.2.elim (fun ⟨j9,t9,h1,h2⟩ => (by have h9:=(List.getElem?_eq_some_iff.1 h1).1;obtain rfl : j9 = 0:=af;rw [HZ0.out] at h1;cases h1;exact h2 HZN.out)) (fun ⟨j9,p9,h1,h2,h3,h4⟩ => HEL.out ⟨j9,p9,h1,h2,h3,by rw [← HM.out];exact h4⟩),rfl⟩)⟩⟩,.inr ⟨rfl,some ⟨bv,ov,none⟩,l3,y3,Bg.out,⟨(HO.out.below HB.out).n.bs (fun _ _ s => .inl s),(HO.out.below HB.out).k.bs (fun _ _ s => .inl s),(HO.out.below HB.out).v.bs (fun _ _ s => .inl s),(HO.out.below HB.out).x.bs (fun _ _ s => .inl s),(HO.out.below HB.out).p.bs (fun _ _ s => .inl s)⟩,aP.cU HB.out⟩⟩
  have hqz:=bo hzn;have HZN:=ae hzn;clear hzn;obtain ⟨g0,g1,g2,g3,g4,g5⟩:=cs6 Bg.out;have ltg_1:=aa Bg.out;obtain ⟨n0,n1,n2,n3,n4,n5,n6⟩:=cs7 Bn.out;have ltn_1:=aa Bn.out;go_wp2_with fail;clear g0 g1 g2 g3 g4 g5 ltg_1 n0 n1 n2 n3 n4 n5 n6 ltn_1;obtain ⟨hszv2,Gg,Gn,Gv,HW⟩:=acw;obtain ⟨g0,g1,g2,g3,g4,g5⟩:=sl6 Gg;obtain ⟨n0,n1,n2,n3,n4,n5,n6⟩:=sl7 Gn;obtain ⟨v0,v1,v2,v3,v4,v5,v6,v7⟩:=sl8 Gv;obtain ⟨zc,hne0,HC0⟩:=abN;go_wp2_with fail;refine aj av av ?_;repeat (go_big_quiet_step (first | (go_at_call 119;exact Calls.wide (HC0.out _)) | fail))
  refine wpQuiet_nil ?_;rintro _ ⟨q1,rfl⟩;obtain ⟨HB2,Cg,Cn,Cv⟩:=aay;clear hne0 HW HB HC0 g0 g1 g2 g3 g4 g5 n0 n1 n2 n3 n4 n5 n6 v0 v1 v2 v3 v4 v5 v6 v7 zc Gg Gn Gv Bg Bn hszv2 c0 c1 c2 c3 c4 c5 c6 c7 hbv hq hcz hbz hqz;have HB:=HB2;clear HB2;have Bg:=Cg;clear Cg;have Bn:=Cn;clear Cn;have Bv:=Cv;clear Cv;go_wp2;go_ret;exact ⟨c,10,rfl,⟨i,x,HX.out.1,HX.out.2,.inl ⟨j1,v,HV.out.1,HV.out.2,rfl,.inr (.inl ⟨HZ.out,⟨HVX.out,.inl ⟨0,z,HZ0.out,HZN.out⟩⟩,rfl⟩)⟩⟩,.inl ⟨by decide,HB.out⟩⟩
 have HXV:=ae hv0;clear hv0;go_enter Tryz.func66,Tryz.ntmps66;obtain ⟨g0,g1,g2,g3,g4,g5⟩:=cs6 Bg.out;have ltg_0:=aa Bg.out;go_wp2_with fail;refine (mF ⟨a1,l1,y1,a2,l2,y2,a3,l3,y3,a4,l4,y4,a5,l5,y5⟩ c t _ (HR.out.below (HB.out.trans ((an _ _).mono HB.out.size))) HT.out (fun v h => jl HT.out HX.out.1 HXV.out h HX.out.2.symm)).mono ?_;rintro e w1 ⟨rfl,hb⟩;clear g0 g1 g2 g3 g4 g5 ltg_0;obtain ⟨HA0,hbx⟩:=aG hb;replace Bg:=upK Bg hbx;have Bn:=ae HA0;replace HB:=upB HB hbx;clear hb hbx HA0;obtain ⟨g0,g1,g2,g3,g4,g5⟩:=cs6 Bg.out;have ltg_1:=aa Bg.out;go_wp2_with fail;refine (ez ⟨a1,l1,y1,a2,l2,y2,a3,l3,y3,a4,l4,y4,a5,l5,y5⟩ c.now c.xs t _ (HR.out.x.below HB.out) HT.out.2.1.2.2.2.1.2.2 HX.out.1 HX.out.2).mono ?_;rintro e w2 ⟨rfl,hb⟩;clear g0 g1 g2 g3 g4 g5 ltg_1;replace Bg:=upK Bg hb;replace Bn:=upK Bn hb;replace HB:=upB HB hb;clear hb;obtain ⟨bx,ox,y,rfl,hbl,hy,hat⟩:=de (HR.out.x.below HB.out) hi4;rw [HX.out.1] at hy;obtain rfl:=Option.some.inj hy;obtain ⟨-,-,-,-,-,c2,-,-⟩:=bB hat;clear hat hy;obtain ⟨bk,ok,y,rfl,hbk,hy,hat⟩:=et (HR.out.k.below HB.out) hj2;rw [HK.out.1] at hy;obtain rfl:=Option.some.inj hy;obtain ⟨-,-,d0,d1,d2,d3⟩:=cr hat;clear hat hy d0 d2 d3;obtain ⟨g0,g1,g2,g3,g4,g5⟩:=cs6 Bg.out;have ltg_2:=aa Bg.out;go_wp2_with fail;clear g0 g1 g2 g3 g4 g5 ltg_2;cases hkx : k.x
 ·have HKX:=ae hkx;rw [hkx] at d1;clear hkx;have Gg:=Bg;have Gn:=Bn;have HW:=HB;obtain ⟨g0,g1,g2,g3,g4,g5⟩:=sl6 Gg;obtain ⟨xk,kx,hne0,HC0⟩:=acM;go_wp2_with fail;refine aj av av ?_;repeat (go_big_quiet_step (first | (go_at_call 111;exact Calls.wide (HC0.out _)) | fail))
  refine wpQuiet_nil ?_;rintro _ ⟨q1,rfl⟩;have HB3:=upB HW q1.b;have Cg:=upK Gg q1.b;have Cn:=upK Gn q1.b;clear hne0 HW HB HC0 g0 g1 g2 g3 g4 g5 xk kx Gg Gn Bg Bn c2 d1 hbk hbl;have HB:=HB3;clear HB3;have Bg:=Cg;clear Cg;have Bn:=Cn;clear Cn;go_wp2;go_ret;obtain ⟨oo,hoo⟩:=CG c i x k n.z;exact ⟨oo.c,11,rfl,⟨i,x,HX.out.1,HX.out.2,.inr ⟨HXV.out,j,k,oo,HK.out.1,HK.out.2,hoo,rfl,.inl ⟨HKX.out,rfl⟩⟩⟩,.inl ⟨by decide,HB.out⟩⟩
 have HKX:=ae hkx;rw [hkx] at d1;clear hkx;have Gg:=Bg;have Gn:=Bn;have HW:=HB;obtain ⟨g0,g1,g2,g3,g4,g5⟩:=sl6 Gg;obtain ⟨xk,kx,hne0,HC0⟩:=acM;go_wp2_with fail;refine aj av av ?_;repeat (go_big_quiet_step (first | (go_at_call 111;exact Calls.wide (HC0.out _)) | fail))
 refine wpQuiet_nil ?_;rintro _ ⟨q1,rfl⟩;have HB3:=upB HW q1.b;have Cg:=upK Gg q1.b;have Cn:=upK Gn q1.b;clear hne0 HW HB HC0 g0 g1 g2 g3 g4 g5 xk kx Gg Gn Bg Bn c2 d1 hbk hbl;have HB:=HB3;clear HB3;have Bg:=Cg;clear Cg;have Bn:=Cn;clear Cn;obtain ⟨n0,n1,n2,n3,n4,n5,n6⟩:=cs7 Bn.out;have ltn_3:=aa Bn.out;go_wp2_with fail;refine (tJ c i x j k n.z S b a1 l1 y1 (some ⟨bk,ok,none⟩) l2 y2 a3 l3 y3 (some ⟨bx,ox,none⟩) l4 y4 a5 l5 y5 q1.w Bg.out (HO.out.below HB.out) (fun k s => ⟨Nat.lt_of_lt_of_le (HS.out k s).1 HB.out.size,(HS.out k s).2⟩) HT.out HX.out.1 HK.out.1 HK.out.2 HXV.out (.inr HNZ.out)).mono ?_;rintro e w4 hA;rcases hA with ⟨j1,u,h1,h2,rfl,h3,h4,h5⟩ | ⟨h1,⟨p9,hp0,hp,rfl,hb⟩ | ⟨h2,h3,h4,rfl,q3,m3,z3,h5,h6,h7⟩⟩
 ·have H1:=ae (And.intro h1 h2);have H3:=ae h3;have H4:=ae h4;have H5:=ae h5;clear h1 h2 h3 h4 h5;go_wp2;go_ret;exact ⟨cZ c i j1 x u,0,rfl,⟨i,x,HX.out.1,HX.out.2,.inr ⟨HXV.out,j,k,⟨cZ c i j1 x u,u.n,0⟩,HK.out.1,HK.out.2,.inl ⟨j1,u,H1.out.1,H1.out.2,rfl⟩,rfl,.inr ⟨HKX.out,rfl⟩⟩⟩,.inr ⟨rfl,a3,l3,y3,H3.out,⟨H4.out.n.bs (fun _ _ s => .inl s),H4.out.k.bs (fun _ _ s => .inl s),H4.out.v.bs (fun _ _ s => .inl s),H4.out.x.bs (fun _ _ s => .inl s),H4.out.p.bs (fun _ _ s => .inl s)⟩,(aP.cU HB.out).trans (H5.out.mono (fun _ s => .inl s))⟩⟩
 ·have H1:=ae h1;have HP0:=ae hp0;have HPP:=ae hp;have HB4:=upB HB hb;clear h1 hp0 hp hb;go_wp2;go_ret;refine ⟨(co0 p9).c,p9,rfl,⟨i,x,HX.out.1,HX.out.2,.inr ⟨HXV.out,j,k,co0 p9,HK.out.1,HK.out.2,.inr ⟨H1.out,?_⟩,rfl,.inr ⟨HKX.out,rfl⟩⟩⟩,.inl ⟨HP0.out,HB4.out⟩⟩;rcases HPP.out with ⟨h2,rfl⟩ | ⟨h2,h3,rfl⟩ | ⟨h2,h3,h4,rfl⟩
  ·exact .inl ⟨h2,rfl⟩
  ·exact .inr ⟨h2,.inl ⟨h3,rfl⟩⟩
  ·exact .inr ⟨h2,.inr ⟨h3,.inl ⟨h4,rfl⟩⟩⟩
 ·have H1:=ae (And.intro h1 (And.intro h2 (And.intro h3 h4)));have H5:=ae h5;have H6:=ae h6;have H7:=ae h7;clear h1 h2 h3 h4 h5 h6 h7;go_wp2;go_ret;exact ⟨cI c i x (aR n.z k.z),0,rfl,⟨i,x,HX.out.1,HX.out.2,.inr ⟨HXV.out,j,k,⟨cI c i x (aR n.z k.z),aA ++ x.n,0⟩,HK.out.1,HK.out.2,.inr ⟨H1.out.1,.inr ⟨H1.out.2.1,.inr ⟨H1.out.2.2.1,.inr ⟨H1.out.2.2.2,rfl⟩⟩⟩⟩,rfl,.inr ⟨HKX.out,rfl⟩⟩⟩,.inr ⟨rfl,q3,m3,z3,H5.out,⟨H6.out.n.bs (fun _ _ s => s.imp id (fun q => Nat.le_trans HB.out.size q)),H6.out.k.bs (fun _ _ s => s.imp id (fun q => Nat.le_trans HB.out.size q)),H6.out.v.bs (fun _ _ s => s.imp id (fun q => Nat.le_trans HB.out.size q)),H6.out.x.bs (fun _ _ s => s.imp id (fun q => Nat.le_trans HB.out.size q)),H6.out.p.bs (fun _ _ s => s.imp id (fun q => Nat.le_trans HB.out.size q))⟩,(aP.cU HB.out).trans H7.out⟩⟩

theorem zK (w : World) (o p q r : Obj) : ((((w.alloc o).alloc p).alloc q).alloc r).heap[w.heap.size + 1 + 1 + 1]? = some r:=by
 have h:=Array.getElem?_push_size (xs:=(((w.alloc o).alloc p).alloc q).heap) (x:=r);rwa [show (((w.alloc o).alloc p).alloc q).heap.size = w.heap.size + 1 + 1 + 1 by simp] at h
theorem zL (w : World) (o p q r : Obj) : ((((w.alloc o).alloc p).alloc q).alloc r).heap[w.heap.size + 1 + 1]? = some q:=(Below.heap_alloc _ _ _ (by simp)).trans (cz w o p q)
theorem zM (w : World) (o p q r : Obj) : ((((w.alloc o).alloc p).alloc q).alloc r).heap[w.heap.size + 1]? = some p:=(Below.heap_alloc _ _ _ (by simp <;> omega)).trans (db w o p q)
theorem zN (w : World) (o p q r : Obj) : ((((w.alloc o).alloc p).alloc q).alloc r).heap[w.heap.size]? = some o:=(Below.heap_alloc _ _ _ (by simp <;> omega)).trans (dJ w o p q)
def DiF (c : Cl) (t : ByteArray) : Fact:=fun v w => ∃ a l q zs,v = .slice a l q ∧ ay w a l q zs ∧ RT zs ∧ ∀ s,s ∈ zs ↔ PBs c t c.ps.length s ∨ VBs c t c.vs.length s
theorem DiF.mono (c : Cl) (t : ByteArray) : Fact.bw (DiF c t):=by
 rintro v w w' ⟨a,l,q,zs,h1,h2,h3⟩ hb;exact ⟨a,l,q,zs,h1,h2.below hb,h3⟩
def LeF (m : Nat) : Fact:=fun v _ => ∃ a q,v = .slice a m q
theorem LeF.mono (m : Nat) : Fact.bw (LeF m):=fun _ _ _ h _ => h
def Dj (c : Cl) (i : Nat) (p : Pd) (n : Nd) (w : World) (e : Ending) (w' : World) : Prop :=
 ∃ (d' : Ad) (c' : Cl) (e0 : Int),e = .returned (.tuple #[.agg #[.slice d'.a1 d'.l1 d'.c1,.slice d'.a2 d'.l2 d'.c2,.slice d'.a3 d'.l3 d'.c3,.slice d'.a4 d'.l4 d'.c4,.slice d'.a5 d'.l5 d'.c5,.int .i64 c'.now],.int .i64 e0]) ∧ ((¬ p.p = 0 ∧ e0 = 10) ∨ (p.p = 0 ∧ dK c i p n c' e0)) ∧ (e0 = 0 → eM w' d' c'.raw (fun k => w.heap.size ≤ k)) ∧ Below w.heap.size w w'

theorem tI (d : Ad) (c : Cl) (i j : Nat) (p : Pd) (n : Nd) (w : World) (hr : aM w d c.raw) (hT : aC c) (hp : c.ps[i]? = some p) (hn : c.ns[j]? = some n) :
  Calls Tryz.prog 24 #[.agg #[.slice d.a1 d.l1 d.c1,.slice d.a2 d.l2 d.c2,.slice d.a3 d.l3 d.c3,.slice d.a4 d.l4 d.c4,.slice d.a5 d.l5 d.c5,.int .i64 c.now],.int .i64 i,.int .i64 j] w (Dj c i p n w):=by
 obtain ⟨a1,l1,y1,a2,l2,y2,a3,l3,y3,a4,l4,y4,a5,l5,y5⟩:=d;dsimp only;obtain ⟨HR,hl1,hm1,hl2,hm2,hl3,hm3,hl4,hm4,hl5,hm5⟩:=ew;clear hr;have HT:=ae hT;have HP:=ae hp;have HPC:=ae (fun (j : Nat) (q : Pd) (h : c.ps[j]? = some q) => (hT.2.1.2.2.2.2.2.1 j q h).2.1);have HN:=ae hn;have HNZ:=ae (hT.2.1.1.2.1 _ _ hn).2.1;have HB:=ae (Below.refl w.heap.size w);have hi5 : i < l5:=by have:=(List.getElem?_eq_some_iff.1 hp).1;omega
 have hii : (i : Int) < l5:=aaa
 have hi0 : ¬ (i : Int) < 0:=aaa
 have hj1 : j < l1:=by have:=(List.getElem?_eq_some_iff.1 hn).1;omega
 have hjj : (j : Int) < l1:=aaa
 have hj0 : ¬ (j : Int) < 0:=aaa
 obtain ⟨b,o,y,rfl,hbl,hy,hat⟩:=bQ HR.out.p hi5;rw [hp] at hy;obtain rfl:=Option.some.inj hy;obtain ⟨va,vl,vc,hvr,-,-,-,c0,c1,c2,c3,c4,c5⟩:=aU hat;clear hat hy;obtain ⟨bn,on,y,rfl,hbn,hy,hat⟩:=cn HR.out.n hj1;rw [hn] at hy;obtain rfl:=Option.some.inj hy;obtain ⟨ua,ul,uc,hur,-,-,d0,d1,d2,d3,d4,d5,d6⟩:=bc hat;have HVR:=ae hvr;have hpl : p.zs.length = vl:=hvr.1;have hlc : vl ≤ 9223372036854775807:=Nat.le_trans hvr.2.1 hvr.2.2.1;clear hat hy hvr hur hp hn hT;have hbn1 : bn < w.heap.size + 1:=aaa
 have hbn2 : bn < w.heap.size + 1 + 1:=aaa
 go_enter Tryz.func24,Tryz.ntmps24;by_cases hph : p.p = 0;rotate_left
 ·have hpb : (p.p == 0) = false:=by simpa using hph
  go_wp2;exact bodyPost_ret (v:=.tuple #[.agg #[.slice (some ⟨bn,on,none⟩) l1 y1,.slice a2 l2 y2,.slice a3 l3 y3,.slice a4 l4 y4,.slice (some ⟨b,o,none⟩) l5 y5,.int .i64 c.now],.int .i64 10]) aah rfl ⟨⟨(some ⟨bn,on,none⟩),l1,y1,a2,l2,y2,a3,l3,y3,a4,l4,y4,(some ⟨b,o,none⟩),l5,y5⟩,c,10,rfl,.inl ⟨hph,rfl⟩,fun h => absurd h al,(HB.out.trans ((fA _ _ _ _ _).mono HB.out.size))⟩
 have hpb : (p.p == 0) = true:=by simpa using hph
 have HPH:=ae hph;clear hph;cases hnd : n.d;rotate_left
 ·rw [hnd] at d5;go_wp2;exact bodyPost_ret (v:=.tuple #[.agg #[.slice (some ⟨bn,on,none⟩) l1 y1,.slice a2 l2 y2,.slice a3 l3 y3,.slice a4 l4 y4,.slice (some ⟨b,o,none⟩) l5 y5,.int .i64 c.now],.int .i64 11]) aah rfl ⟨⟨(some ⟨bn,on,none⟩),l1,y1,a2,l2,y2,a3,l3,y3,a4,l4,y4,(some ⟨b,o,none⟩),l5,y5⟩,c,11,rfl,.inr ⟨HPH.out,.inl ⟨.inl hnd,rfl⟩⟩,fun h => absurd h al,(HB.out.trans ((fA _ _ _ _ _).mono HB.out.size))⟩
 have HND:=ae hnd;rw [hnd] at d5;clear hnd;by_cases hu : n.u ≤ c.now
 ·go_wp2;exact bodyPost_ret (v:=.tuple #[.agg #[.slice (some ⟨bn,on,none⟩) l1 y1,.slice a2 l2 y2,.slice a3 l3 y3,.slice a4 l4 y4,.slice (some ⟨b,o,none⟩) l5 y5,.int .i64 c.now],.int .i64 11]) aah rfl ⟨⟨(some ⟨bn,on,none⟩),l1,y1,a2,l2,y2,a3,l3,y3,a4,l4,y4,(some ⟨b,o,none⟩),l5,y5⟩,c,11,rfl,.inr ⟨HPH.out,.inl ⟨.inr hu,rfl⟩⟩,fun h => absurd h al,(HB.out.trans ((fA _ _ _ _ _).mono HB.out.size))⟩
 have hub : decide (n.u ≤ c.now) = false:=by simpa using hu
 have HAW : Hid (¬ iu c n):=fun h => h.elim (fun h => by rw [HND.out] at h;cases h) hu;by_cases hZ : im p n
 ·have hz0:=aY hZ.1;have hz1:=bo hZ.2;go_wp2;exact bodyPost_ret (v:=.tuple #[.agg #[.slice (some ⟨bn,on,none⟩) l1 y1,.slice a2 l2 y2,.slice a3 l3 y3,.slice a4 l4 y4,.slice (some ⟨b,o,none⟩) l5 y5,.int .i64 c.now],.int .i64 8]) aah rfl ⟨⟨(some ⟨bn,on,none⟩),l1,y1,a2,l2,y2,a3,l3,y3,a4,l4,y4,(some ⟨b,o,none⟩),l5,y5⟩,c,8,rfl,.inr ⟨HPH.out,.inr ⟨HAW.out,.inl ⟨hZ,rfl⟩⟩⟩,fun h => absurd h al,(HB.out.trans ((fA _ _ _ _ _).mono HB.out.size))⟩
 have HZO:=ae hZ;go_upto_region 7 with fail;go_cut [39] from 23 to 49 (fun s wx => s = .bool false ∧ wx = ((((w.alloc (.cells #[.slice (some ⟨bn,on,none⟩) l1 y1,.slice a2 l2 y2,.slice a3 l3 y3,.slice a4 l4 y4,.slice (some ⟨b,o,none⟩) l5 y5,.int .i64 c.now] 37)).alloc (.cells #[.slice none 0 0,.slice none 0 0,.slice none 0 0,.slice none 0 0,.slice none 0 0,.int .i64 0] 37)).alloc (.cells #[.string p.n,.int .i64 p.c,.string p.z,.slice va vl vc,.string p.d,.int .i64 p.p] 65)).alloc (.cells #[.string n.n,.string n.z,.int .i64 n.c,.int .i64 n.s,.int .i64 n.u,.bool false,.slice ua ul uc] 72)));case first =>
  by_cases hz0 : p.z = ⟨#[]⟩
  ·have hz1:=cA hz0;clear hz0;go_wp2_with fail;go_meet;exact ⟨rfl,rfl⟩
  ·have hz1:=aY hz0;have hz2:=aV (Classical.byContradiction (fun h => HZO.out ⟨hz0,h⟩));clear hz0;go_wp2_with fail;go_meet;exact ⟨rfl,rfl⟩
 case rest =>
  obtain ⟨rfl,rfl⟩:=hcut;clear hZ hub hu hpb;have HL8 : Hid (c.ps.length ≤ 8):=by have h:=HT.out.2.1.2.2.2.2.1;show _ ≤ _;omega
  have hU:=qP n.n HPC.out;have hl8:=HL8.out;have hu0:=hU.1;have hu1 : cpuOf n.n c.ps ≤ 8000000:=by have:=hU.2;omega
  have hnc:=(HT.out.2.1.1.2.1 _ _ HN.out).2.2.1;have hnc0:=hnc.1;have hnc1:=hnc.2;clear hU hnc;by_cases hCP : n.c - cpuOf n.n c.ps < p.c
  ·have hcp : decide (n.c - cpuOf n.n c.ps < p.c) = true:=by simpa using hCP
   obtain ⟨hszv1,Gk,Gr,Gp,Gn,HW⟩:=acK;obtain ⟨k0,k1,k2,k3,k4,k5⟩:=sl6 Gk;obtain ⟨p0,p1,p2,p3,p4,p5⟩:=sl6 Gp;obtain ⟨n0,n1,n2,n3,n4,n5,n6⟩:=sl7 Gn;obtain ⟨hne0,HC0⟩:=acL;go_wp2_with fail;refine aj av av ?_;repeat (go_big_quiet_step (first | (go_at_call 65;exact Calls.wide (HC0.out _)) | fail))
   refine wpQuiet_nil ?_;rintro _ ⟨q1,rfl⟩;obtain ⟨HB1,Ck⟩:=cH;have Cr:=upK Gr q1.b;have Cp:=upK Gp q1.b;have Cn:=upK Gn q1.b;clear hne0 HW HB HC0 k0 k1 k2 k3 k4 k5 p0 p1 p2 p3 p4 p5 n0 n1 n2 n3 n4 n5 n6 Gk Gr Gp Gn hszv1 c0 c1 c2 c3 c4 c5 d0 d1 d2 d3 d4 d5 d6;have HB:=HB1;clear HB1;have Bk:=Ck;clear Ck;have Br:=Cr;clear Cr;have Bp:=Cp;clear Cp;have Bn:=Cn;clear Cn;obtain ⟨k0,k1,k2,k3,k4,k5⟩:=cs6 Bk.out;have ltk_1:=aa Bk.out;obtain ⟨r0,r1,r2,r3,r4,r5⟩:=cs6 Br.out;have ltr_1:=aa Br.out;obtain ⟨fr0,fr1,fr2,fr3,fr4,fr5⟩:=eE;have hrl : w.heap.size + 1 < q1.w.heap.size:=aa Br.out;go_wp2;exact bodyPost_ret (v:=.tuple #[.agg #[.slice (some ⟨bn,on,none⟩) l1 y1,.slice a2 l2 y2,.slice a3 l3 y3,.slice a4 l4 y4,.slice (some ⟨b,o,none⟩) l5 y5,.int .i64 c.now],.int .i64 9]) aah rfl ⟨⟨(some ⟨bn,on,none⟩),l1,y1,a2,l2,y2,a3,l3,y3,a4,l4,y4,(some ⟨b,o,none⟩),l5,y5⟩,c,9,rfl,.inr ⟨HPH.out,.inr ⟨HAW.out,.inr ⟨HZO.out,.inl ⟨hCP,rfl⟩⟩⟩⟩,fun h => absurd h al,sb1 (sb1 (sb1 (sb1 (sb1 (sb1 (HB.out))))))⟩
  have hcp : decide (n.c - cpuOf n.n c.ps < p.c) = false:=by simpa using hCP
  have HCP : Hid (¬ lZ c p n):=hCP;obtain ⟨hszv1,Gk,Gr,Gp,Gn,HW⟩:=acK;obtain ⟨k0,k1,k2,k3,k4,k5⟩:=sl6 Gk;obtain ⟨p0,p1,p2,p3,p4,p5⟩:=sl6 Gp;obtain ⟨n0,n1,n2,n3,n4,n5,n6⟩:=sl7 Gn;obtain ⟨hne0,HC0⟩:=acL;go_wp2_with fail;refine aj av av ?_;repeat (go_big_quiet_step (first | (go_at_call 65;exact Calls.wide (HC0.out _)) | fail))
  refine wpQuiet_nil ?_;rintro _ ⟨q1,rfl⟩;obtain ⟨HB1,Ck⟩:=cH;have Cr:=upK Gr q1.b;have Cp:=upK Gp q1.b;have Cn:=upK Gn q1.b;clear hne0 HW HB HC0 k0 k1 k2 k3 k4 k5 p0 p1 p2 p3 p4 p5 n0 n1 n2 n3 n4 n5 n6 Gk Gr Gp Gn hszv1 c0 c1 c2 c3 c4 c5 d0 d1 d2 d3 d4 d5 d6;have HB:=HB1;clear HB1;have Bk:=Ck;clear Ck;have Br:=Cr;clear Cr;have Bp:=Cp;clear Cp;have Bn:=Cn;clear Cn;clear hCP hcp hnc0 hnc1 hu0 hu1;obtain ⟨k0,k1,k2,k3,k4,k5⟩:=cs6 Bk.out;have ltk_1:=aa Bk.out;go_wp2_with fail;have Qk:=Bk;have Qr:=Br;have Qp:=Bp;have Qn:=Bn;have HBQ:=HB;refine (oJ ⟨(some ⟨bn,on,none⟩),l1,y1,a2,l2,y2,a3,l3,y3,a4,l4,y4,(some ⟨b,o,none⟩),l5,y5⟩ c _ (HR.out.below HB.out) HT.out.sm).mono ?_;rintro e w3 ⟨d',rfl,ho,hb⟩;have HQ2:=ae hb;clear k0 k1 k2 k3 k4 k5 ltk_1;replace Bk:=upK Bk hb;replace Br:=upK Br hb;replace Bp:=upK Bp hb;replace Bn:=upK Bn hb;replace HB:=upB HB hb;clear hb;obtain ⟨x1,m1,f1,x2,m2,f2,x3,m3,f3,x4,m4,f4,x5,m5,f5⟩:=d';have into : ∀ {a l cp m T rs},aB w3 a l cp m T rs (fun k => q1.w.heap.size ≤ k) → aB (w3.alloc (.cells #[.slice x1 m1 f1,.slice x2 m2 f2,.slice x3 m3 f3,.slice x4 m4 f4,.slice x5 m5 f5,.int .i64 c.now] 37)) a l cp m T rs (fun k => q1.w.heap.size ≤ k ∧ ¬ k = w3.heap.size ∧ k < (w3.alloc (.cells #[.slice x1 m1 f1,.slice x2 m2 f2,.slice x3 m3 f3,.slice x4 m4 f4,.slice x5 m5 f5,.int .i64 c.now] 37)).heap.size):=fun h => (h.bs (S':=(fun k => q1.w.heap.size ≤ k ∧ ¬ k = w3.heap.size ∧ k < (w3.alloc (.cells #[.slice x1 m1 f1,.slice x2 m2 f2,.slice x3 m3 f3,.slice x4 m4 f4,.slice x5 m5 f5,.int .i64 c.now] 37)).heap.size)) (fun k hk s => ⟨s,Nat.ne_of_lt hk,by rw [df];omega⟩)).below (an w3 (.cells #[.slice x1 m1 f1,.slice x2 m2 f2,.slice x3 m3 f3,.slice x4 m4 f4,.slice x5 m5 f5,.int .i64 c.now] 37));have HOV : Hid (eM (w3.alloc (.cells #[.slice x1 m1 f1,.slice x2 m2 f2,.slice x3 m3 f3,.slice x4 m4 f4,.slice x5 m5 f5,.int .i64 c.now] 37)) ⟨x1,m1,f1,x2,m2,f2,x3,m3,f3,x4,m4,f4,x5,m5,f5⟩ c.raw (fun k => q1.w.heap.size ≤ k ∧ ¬ k = w3.heap.size ∧ k < (w3.alloc (.cells #[.slice x1 m1 f1,.slice x2 m2 f2,.slice x3 m3 f3,.slice x4 m4 f4,.slice x5 m5 f5,.int .i64 c.now] 37)).heap.size)):=⟨into ho.n,into ho.k,into ho.v,into ho.x,into ho.p⟩;have HV0 : Hid (Below q1.w.heap.size q1.w (w3.alloc (.cells #[.slice x1 m1 f1,.slice x2 m2 f2,.slice x3 m3 f3,.slice x4 m4 f4,.slice x5 m5 f5,.int .i64 c.now] 37))):=HQ2.out.trans ((an w3 (.cells #[.slice x1 m1 f1,.slice x2 m2 f2,.slice x3 m3 f3,.slice x4 m4 f4,.slice x5 m5 f5,.int .i64 c.now] 37)).mono HQ2.out.size);clear ho into;obtain ⟨k0,k1,k2,k3,k4,k5⟩:=cs6 Bk.out;have ltk_2:=aa Bk.out;obtain ⟨p0,p1,p2,p3,p4,p5⟩:=cs6 Bp.out;have ltp_2:=aa Bp.out;go_wp2_with fail;clear k0 k1 k2 k3 k4 k5 ltk_2 p0 p1 p2 p3 p4 p5 ltp_2;go_loopw [11] (fun vi wr => ∃ (k : Nat) (c1 : Cl) (q3 : Option Addr) (g3 z3 : Nat),k ≤ vl ∧ vi = .int .i64 k ∧ Hid (cO c n p.zs k c1) ∧ Hid (wr.heap[w3.heap.size]? = some (.cells #[.slice x1 m1 f1,.slice x2 m2 f2,.slice q3 g3 z3,.slice x4 m4 f4,.slice x5 m5 f5,.int .i64 c1.now] 37 (0,0))) ∧ Hid (eM wr ⟨x1,m1,f1,x2,m2,f2,q3,g3,z3,x4,m4,f4,x5,m5,f5⟩ c1.raw (fun k => q1.w.heap.size ≤ k ∧ ¬ k = w3.heap.size ∧ k < wr.heap.size)) ∧ Hid (Below q1.w.heap.size q1.w wr)) (fun vi _ => vl - (intOf vi).toNat)
  case atStart => exact ⟨0,c,x3,m3,f3,by omega,rfl,rfl,heap_alloc_new w3 (.cells #[.slice x1 m1 f1,.slice x2 m2 f2,.slice x3 m3 f3,.slice x4 m4 f4,.slice x5 m5 f5,.int .i64 c.now] 37),HOV.out,HV0.out⟩
  case round =>
   obtain ⟨k,c1,q3,g3,z3,hk,rfl,HRD,HOB,HOF,HQB⟩:=hrel;replace HB:=ae (HBQ.out.trans (HQB.out.mono HBQ.out.size));have hRR:=cO.right HT.out HNZ.out k c1 HRD.out;have HT1:=ae hRR.1;have HR1:=ae hRR.2;clear hRR HV0 HOV;replace Bk:=ae ((HQB.out.block _ (aa Qk.out)).trans Qk.out);replace Br:=ae ((HQB.out.block _ (aa Qr.out)).trans Qr.out);replace Bp:=ae ((HQB.out.block _ (aa Qp.out)).trans Qp.out);replace Bn:=ae ((HQB.out.block _ (aa Qn.out)).trans Qn.out);have Bo:=HOB;by_cases hlt : k < vl
   ·have hk1 : (k : Int) < vl:=aaa
    obtain ⟨bz,oz,t,rfl,hbz,hx,hcz,-⟩:=(HVR.out.below HB.out).at hlt;have HX:=ae hx;have HHT:=ae (HR1.out.2.2.2.2 t ((HT.out.2.2.2.1.1 _ _ HP.out).1 k t hx));clear hx;obtain ⟨k0,k1,k2,k3,k4,k5⟩:=cs6 Bk.out;have ltk_2:=aa Bk.out;obtain ⟨p0,p1,p2,p3,p4,p5⟩:=cs6 Bp.out;have ltp_2:=aa Bp.out;obtain ⟨n0,n1,n2,n3,n4,n5,n6⟩:=cs7 Bn.out;have ltn_2:=aa Bn.out;go_wp2_with fail;clear k0 k1 k2 k3 k4 k5 ltk_2 p0 p1 p2 p3 p4 p5 ltp_2 n0 n1 n2 n3 n4 n5 n6 ltn_2;rename_i K0 hK0;refine Gu.ot av rfl rfl rfl av ?_;refine' Gu.aw.aq _ rfl ?_ ?_;rotate_left 1
    ·exact abz
    refine' Gu.aw.aq _ rfl ?_ ?_;rotate_left 1
    ·refine Obl.plain rfl ?_;intro ac wg K hsz hW hf hK;clear hsz;have e72:=hf 72 al;simp [ai,List.lookup] at e72;exact ack
    refine' Gu.aw.aq _ rfl ?_ ?_;rotate_left 1
    ·exact aaH
    refine' Gu.aw.aq _ rfl ?_ ?_;rotate_left 1
    ·refine Obl.plain rfl ?_;intro ac wg K hsz hW hf hK;clear hsz;have e73:=hf 73 al;simp [ai,List.lookup] at e73;have e74:=hf 74 al;simp [ai,List.lookup] at e74;clear hf;exact aO
    refine' Gu.aw.aq _ rfl ?_ ?_;rotate_left 1
    ·refine Obl.plain rfl ?_;intro ac wg K hsz hW hf hK;clear hsz;have e75:=hf 75 al;simp [ai,List.lookup] at e75;clear hf;have c0 : wg.cell? ⟨bz,oz + k,none⟩ = some (.string t):=(hW.cell hbz).trans hcz;have l0:=Nat.lt_of_lt_of_le hbz hW.size;exact aO
    refine' Gu.aw.aq _ rfl ?_ ?_;rotate_left 1
    ·refine Obl.plain rfl ?_;intro ac wg K hsz hW hf hK;clear hsz;have e9:=hf 9 al;simp [ai,List.lookup] at e9;exact aba
    refine Gu.aw.done ?_;intro q wz hW hf;simp only [List.forall_mem_cons] at hf;obtain ⟨h77,h76,h75,h74,h73,h72,-⟩:=hf;have HBZ:=ae hW;have Bo6:=upK Bo hW;have HOF6:=ae (HOF.out.below hW);clear hW;intro K hK;rw [if_pos bH];simp only [aE,List.foldr,Act.put,List.setIfInBounds_toArray,List.set_cons_zero,List.set_cons_succ,h77,h76,h75,h74,h73,h72];go_simp;have hC:=tN c1 t n ua ul uc (fun k => q1.w.heap.size ≤ k ∧ ¬ k = w3.heap.size ∧ k < wr.heap.size) w3.heap.size x1 m1 f1 x2 m2 f2 q3 g3 z3 x4 m4 f4 x5 m5 f5 wz Bo6.out HOF6.out (fun k s => ⟨Nat.lt_of_lt_of_le s.2.2 HBZ.out.size,s.2.1⟩) HT1.out HHT.out HNZ.out;rw [HND.out] at hC;refine hC.mono ?_;clear hC;rintro e w5 ⟨c2,e0,rfl,hN,hA⟩;rcases hA with ⟨he0,hb⟩ | ⟨rfl,q4,g4,z4,hbo,hof,hkp⟩
    ·have HV : Hid (dK c i p n c e0):=.inr ⟨HAW.out,.inr ⟨HZO.out,.inr ⟨HCP.out,c2,e0,.inr ⟨k,c1,t,HRD.out,HX.out,hN,he0⟩,.inl ⟨he0,rfl⟩⟩⟩⟩;have hq:=HBZ.out.trans (hb.mono HBZ.out.size);have heb : (e0 == 0) = false:=by simpa using he0
     have HE0:=ae he0;have HB5:=upB HB hq;have Bk5:=upK Bk hq;have Br5:=upK Br hq;clear hN hb hq he0 HB Bk Br Bp Bn Bo Bo6 HOF6 HOF HQB HBZ;have HB:=HB5;have Bk:=Bk5;have Br:=Br5;clear HB5 Bk5 Br5;refine hK _ _ ?_;clear hK K;intro K hK;rw [if_pos bH];go_simp;refine hK _ _ ?_;clear hK K;refine hK0 _ _ ?_;clear hK0 K0;obtain ⟨k0,k1,k2,k3,k4,k5⟩:=cs6 Bk.out;have ltk_5:=aa Bk.out;obtain ⟨r0,r1,r2,r3,r4,r5⟩:=cs6 Br.out;have ltr_5:=aa Br.out;obtain ⟨fr0,fr1,fr2,fr3,fr4,fr5⟩:=eE;have hrl : w.heap.size + 1 < w5.heap.size:=aa Br.out;go_wp2;exact bodyPost_ret (v:=.tuple #[.agg #[.slice (some ⟨bn,on,none⟩) l1 y1,.slice a2 l2 y2,.slice a3 l3 y3,.slice a4 l4 y4,.slice (some ⟨b,o,none⟩) l5 y5,.int .i64 c.now],.int .i64 e0]) aah rfl ⟨⟨(some ⟨bn,on,none⟩),l1,y1,a2,l2,y2,a3,l3,y3,a4,l4,y4,(some ⟨b,o,none⟩),l5,y5⟩,c,e0,rfl,.inr ⟨HPH.out,HV.out⟩,fun h => absurd h HE0.out,sb1 (sb1 (sb1 (sb1 (sb1 (sb1 (HB.out))))))⟩
    have hnw : c2.now = c1.now:=(hN.right HT1.out HNZ.out).2.2.2.2.1;have hol:=aa Bo6.out;have hq0:=HQB.out.size;have hq1:=HBZ.out.size;have hq2:=HQ2.out.size;have HRD2 : Hid (cO c n p.zs (k + 1) c2):=⟨c1,t,HRD.out,HX.out,hN⟩;have HBO2:=ae hbo;rw [← hnw] at HBO2;have HQB2:=ae ((HQB.out.trans (HBZ.out.mono HQB.out.size)).trans (hkp.low (X:=q1.w.heap.size) af (fun k s => by rcases s with s | s;exact s.1;omega)));have into : ∀ {a l cp m T rs},aB w5 a l cp m T rs (fun k => (fun k => q1.w.heap.size ≤ k ∧ ¬ k = w3.heap.size ∧ k < wr.heap.size) k ∨ wz.heap.size ≤ k) → aB w5 a l cp m T rs (fun k => q1.w.heap.size ≤ k ∧ ¬ k = w3.heap.size ∧ k < w5.heap.size):=fun h => h.bs (fun k hk s => by rcases s with s | s;exact ⟨s.1,s.2.1,hk⟩;exact ⟨by omega,by omega,hk⟩);have HOF2 : Hid (eM w5 ⟨x1,m1,f1,x2,m2,f2,q4,g4,z4,x4,m4,f4,x5,m5,f5⟩ c2.raw (fun k => q1.w.heap.size ≤ k ∧ ¬ k = w3.heap.size ∧ k < w5.heap.size)):=⟨into hof.n,into hof.k,into hof.v,into hof.x,into hof.p⟩;clear into hof hbo hkp hN hnw;refine hK _ _ ?_;clear hK K;intro K hK;rw [if_pos bH];go_simp;refine hK _ _ ?_;clear hK K;refine hK0 _ _ ?_;clear hK0 K0;go_wp2;exact ⟨⟨k + 1,c2,q4,g4,z4,by omega,by go_num,HRD2.out,HBO2.out,HOF2.out,HQB2.out⟩,by simp [intOf];omega⟩
   have hk1 : ¬ (k : Int) < vl:=aaa
   obtain rfl : vl = k:=aaa
   obtain ⟨p0,p1,p2,p3,p4,p5⟩:=cs6 Bp.out;have ltp_2:=aa Bp.out;go_wp2_with fail;clear p0 p1 p2 p3 p4 p5 ltp_2;have HP1 : Hid (c1.ps[i]? = some p):=by show _ = _;rw [HR1.out.2.2.1];exact HP.out
   have HPD : Hid (¬ p.d = n.n):=by
    have h:=(HT.out.2.1.2.2.2.2.2.1 _ _ HP.out).2.2.2.2;rw [HPH.out] at h;show ¬ _;rw [(dW _).1 h];exact fun e => fS (HT.out.2.1.1.2.1 _ _ HN.out).1 e.symm
   have HV8 : Hid (c1.vs.length ≤ 8):=by have h:=HT1.out.2.1.2.2.1.1;show _ ≤ _;omega
   have HV3 : Hid (vl ≤ 3):=by have h:=(HT.out.2.1.2.2.2.2.2.1 _ _ HP.out).2.2.2.1.1;show _ ≤ _;omega
   have HALL : Hid (oi c n p.zs c1 0):=.inl ⟨by rw [hpl];exact HRD.out,rfl⟩;obtain ⟨L,hL⟩ : ∃ L : Nat,L = (dm (plC c1 i p n.n) n.n c1.vs).length:=⟨_,rfl⟩;have HLL:=ae hL;clear hL;rename_i K0 hK0;refine bf (back:=none) av (List.append_nil _).symm av ?_;refine' aw.aq _ rfl ?_ ?_;rotate_left 1
   ·exact acE
   refine' aw.aq _ rfl ?_ ?_;rotate_left 1
   ·exact acE
   refine' aw.aq _ rfl ?_ ?_;rotate_left 1
   ·exact aaF
   refine' aw.aq _ rfl ?_ ?_;rotate_left 1
   ·refine Obl.plain rfl ?_;intro ac wg K hsz hW hf hK;clear hsz;have e85:=hf 85 al;simp [ai,List.lookup] at e85;exact aba
   refine aw.step (DiF c1 n.n) rfl (DiF.mono _ _) ?_ ?_
   ·refine Obl.plain rfl ?_;intro ac wg K hsz hW hf hK;clear hsz;have e84:=hf 84 al;simp [ai,List.lookup] at e84;have e86:=hf 86 al;simp [ai,List.lookup] at e86;clear hf;go_simp;refine (so ⟨x1,m1,f1,x2,m2,f2,q3,g3,z3,x4,m4,f4,x5,m5,f5⟩ c1 n.n wg (HOF.out.row.below hW) HT1.out).mono ?_;rintro e w6 ⟨a6,l6,c6,ys,rfl,h1,h2,h3,hb6⟩;exact hK _ _ hb6 ⟨a6,l6,c6,ys,rfl,h1,h2,h3⟩
   refine' aw.aq _ rfl ?_ ?_;rotate_left 1
   ·refine Obl.plain rfl ?_;intro ac wg K hsz hW hf hK;clear hsz;have e8:=hf 8 al;simp [ai,List.lookup] at e8;exact ack
   refine aw.step (LeF L) rfl (LeF.mono _) ?_ ?_
   ·refine Obl.plain rfl ?_;intro ac wg K hsz hW hf hK;clear hsz;have e83:=hf 83 al;simp [ai,List.lookup] at e83;have e87:=hf 87 al;simp [ai,List.lookup] at e87;have e88:=hf 88 al;simp [ai,List.lookup] at e88;clear hf;obtain ⟨a6,l6,c6,ys,e87,h1,h2,h3⟩:=e87;have hys:=yE HT1.out h2 h3;have hl6 : l6 + vl ≤ 60:=by
     have h4 : ys.length = l6:=h1.1;have h5 : ys.length ≤ c1.vs.length:=by rw [hys];unfold dm;rw [List.length_map];exact List.length_filter_le _ _
     have h6:=HV8.out;have h7:=HV3.out;omega
    clear hys;go_simp;refine (kb ⟨x1,m1,f1,x2,m2,f2,q3,g3,z3,x4,m4,f4,x5,m5,f5⟩ c1 a6 l6 c6 ys p va vl vc wg (HOF.out.row.below hW) HT1.out h1 h2 (HVR.out.below (HB.out.trans (hW.mono HB.out.size))) hl6).mono ?_;rintro e w6 ⟨a7,l7,c7,ys2,rfl,k1,k2,k3,-,hb6⟩;obtain rfl : l7 = L:=by
     have h8:=sB HT1.out HP1.out HPD.out k2 (fun t => by rw [k3,h3]);have h9 : ys2.length = l7:=k1.1;rw [h8] at h9;rw [← h9];exact HLL.out.symm
    exact hK _ _ hb6 ⟨a7,c7,rfl⟩
   refine aw.step (fun v _ => v = .int .i64 L) rfl (Fact.bR _) ?_ ?_
   ·refine Obl.plain rfl ?_;intro ac wg K hsz hW hf hK;clear hsz;have e89:=hf 89 al;simp [ai,List.lookup] at e89;clear hf;obtain ⟨a7,c7,e89⟩:=e89;go_simp;exact hK _ _ (Below.refl _ _) rfl
   refine' aw.aq _ rfl ?_ ?_;rotate_left 1
   ·exact aaF
   refine' aw.aq _ rfl ?_ ?_;rotate_left 1
   ·refine Obl.plain rfl ?_;intro ac wg K hsz hW hf hK;clear hsz;have e91:=hf 91 al;simp [ai,List.lookup] at e91;exact aba
   refine' aw.aq _ rfl ?_ ?_;rotate_left 1
   ·refine Obl.plain rfl ?_;intro ac wg K hsz hW hf hK;clear hsz;have e90:=hf 90 al;simp [ai,List.lookup] at e90;have e92:=hf 92 al;simp [ai,List.lookup] at e92;clear hf;exact aO
   refine aw.done ?_;intro q wz hW hf;simp only [List.forall_mem_cons] at hf;obtain ⟨h93,-⟩:=hf;have hb:=hW;refine hK0 _ _ ?_;simp only [aE,List.foldr,Act.put,List.setIfInBounds_toArray,List.set_cons_zero,List.set_cons_succ,h93];clear hK0;have HOFZ:=ae (HOF.out.below hb);replace Bk:=upK Bk hb;replace Br:=upK Br hb;replace Bp:=upK Bp hb;replace Bn:=upK Bn hb;replace Bo:=upK Bo hb;replace HB:=upB HB hb;clear hb;by_cases hs : n.s < (L : Int)
   ·have hsb : decide (n.s < (L : Int)) = true:=by simpa using hs
    have HSH : Hid (fC c1 i p n):=by show n.s < _;rw [← HLL.out];exact hs
    obtain ⟨k0,k1,k2,k3,k4,k5⟩:=cs6 Bk.out;have ltk_3:=aa Bk.out;obtain ⟨r0,r1,r2,r3,r4,r5⟩:=cs6 Br.out;have ltr_3:=aa Br.out;obtain ⟨fr0,fr1,fr2,fr3,fr4,fr5⟩:=eE;have hrl : w.heap.size + 1 < wz.heap.size:=aa Br.out;go_wp2;exact bodyPost_ret (v:=.tuple #[.agg #[.slice (some ⟨bn,on,none⟩) l1 y1,.slice a2 l2 y2,.slice a3 l3 y3,.slice a4 l4 y4,.slice (some ⟨b,o,none⟩) l5 y5,.int .i64 c.now],.int .i64 9]) aah rfl ⟨⟨(some ⟨bn,on,none⟩),l1,y1,a2,l2,y2,a3,l3,y3,a4,l4,y4,(some ⟨b,o,none⟩),l5,y5⟩,c,9,rfl,.inr ⟨HPH.out,.inr ⟨HAW.out,.inr ⟨HZO.out,.inr ⟨HCP.out,c1,0,HALL.out,.inr ⟨rfl,.inl ⟨HSH.out,rfl⟩⟩⟩⟩⟩⟩,fun h => absurd h al,sb1 (sb1 (sb1 (sb1 (sb1 (sb1 (HB.out))))))⟩
   have hsb : decide (n.s < (L : Int)) = false:=by simpa using hs
   have HSH : Hid (¬ fC c1 i p n):=by show ¬ n.s < _;rw [← HLL.out];exact hs
   obtain ⟨g,hga,hS⟩:=HOFZ.out.p.st (aP.refl _ wz) (i:=i) (r:=pdF p) (show (c1.ps.map pdF)[i]? = some (pdF p) by rw [List.getElem?_map,HP1.out];rfl);have hga' : x5 = some ⟨g,0,none⟩:=hga;subst hga';have hgS:=(by obtain ⟨⟨cur,H,h1,_⟩,_⟩:=hS;exact ⟨h1.inS,aa h1.blk⟩ : (fun k => q1.w.heap.size ≤ k ∧ ¬ k = w3.heap.size ∧ k < wr.heap.size) g ∧ g < wz.heap.size);obtain ⟨⟨hg1,hg2,-⟩,hg3⟩:=hgS;obtain ⟨v4,hv4⟩:=hS.cell (i:=4) rfl;obtain ⟨v5,hv5⟩:=hS.cell (i:=5) rfl;have hf4:=hS.fe (i * 6 + 4);have hf5:=hS.fe (i * 6 + 5);have hi6 : (i : Int) < m5:=by have h6 : (c1.ps.map pdF).length = m5:=HOFZ.out.p.1;rw [List.length_map] at h6;have h7:=(List.getElem?_eq_some_iff.1 HP1.out).1;omega
   have HST:=ae hS;have hqn:=aa Qn.out;have hqo:=HQ2.out.size;have hox:=aa Bo.out;have hne1 : ¬ w3.heap.size = g:=fun e => hg2 e.symm;have hne3 : ¬ g = w.heap.size + 1:=aaa
   have hne4 : ¬ w.heap.size + 1 = g:=aaa
   have hne5 : ¬ w.heap.size + 1 = w3.heap.size:=aaa
   have hne6 : ¬ w3.heap.size = w.heap.size + 1:=aaa
   have hne7 : ¬ w.heap.size + 1 + 1 + 1 = g:=aaa
   clear hS hga;obtain ⟨r0,r1,r2,r3,r4,r5⟩:=cs6 Br.out;have ltr_3:=aa Br.out;obtain ⟨n0,n1,n2,n3,n4,n5,n6⟩:=cs7 Bn.out;have ltn_3:=aa Bn.out;obtain ⟨o0,o1,o2,o3,o4,o5⟩:=cs6 Bo.out;have lto_3:=aa Bo.out;obtain ⟨fr0,fr1,fr2,fr3,fr4,fr5⟩:=eE;go_wp2;refine bodyPost_ret (v:=.tuple #[.agg #[.slice x1 m1 f1,.slice x2 m2 f2,.slice q3 g3 z3,.slice x4 m4 f4,.slice (some ⟨g,0,none⟩) m5 f5,.int .i64 c1.now],.int .i64 0]) aah rfl ⟨⟨x1,m1,f1,x2,m2,f2,q3,g3,z3,x4,m4,f4,(some ⟨g,0,none⟩),m5,f5⟩,plC c1 i p n.n,0,rfl,.inr ⟨HPH.out,.inr ⟨HAW.out,.inr ⟨HZO.out,.inr ⟨HCP.out,c1,0,HALL.out,.inr ⟨rfl,.inr ⟨HSH.out,rfl,rfl⟩⟩⟩⟩⟩⟩,fun _ => ?_,sb1 (sb1 (sb1 (sb1 (sb1 (sb1 (ag (show w.heap.size ≤ g by omega) (ag (show w.heap.size ≤ g by omega) HB.out)))))))⟩;have hk2 : ∀ k,q1.w.heap.size ≤ k → ((((((((wz.setCell ⟨g,i * 6 + 4,none⟩ (.string n.n)).setCell ⟨g,i * 6 + 5,none⟩ (.int .i64 1)).setCell ⟨w.heap.size + 1,0,none⟩ (.slice x1 m1 f1)).setCell ⟨w.heap.size + 1,1,none⟩ (.slice x2 m2 f2)).setCell ⟨w.heap.size + 1,2,none⟩ (.slice q3 g3 z3)).setCell ⟨w.heap.size + 1,3,none⟩ (.slice x4 m4 f4)).setCell ⟨w.heap.size + 1,4,none⟩ (.slice (some ⟨g,0,none⟩) m5 f5)).setCell ⟨w.heap.size + 1,5,none⟩ (.int .i64 c1.now)).heap[k]? = ((wz.setCell ⟨g,i * 6 + 4,none⟩ (.string n.n)).setCell ⟨g,i * 6 + 5,none⟩ (.int .i64 1)).heap[k]?:=fun k h1 => by rw [Below.heap_setCell _ _ _ _ (show k ≠ w.heap.size + 1 by omega),Below.heap_setCell _ _ _ _ (show k ≠ w.heap.size + 1 by omega),Below.heap_setCell _ _ _ _ (show k ≠ w.heap.size + 1 by omega),Below.heap_setCell _ _ _ _ (show k ≠ w.heap.size + 1 by omega),Below.heap_setCell _ _ _ _ (show k ≠ w.heap.size + 1 by omega),Below.heap_setCell _ _ _ _ (show k ≠ w.heap.size + 1 by omega)]
   have hk3 : ∀ k,q1.w.heap.size ≤ k → ¬ k = g → ((((((((wz.setCell ⟨g,i * 6 + 4,none⟩ (.string n.n)).setCell ⟨g,i * 6 + 5,none⟩ (.int .i64 1)).setCell ⟨w.heap.size + 1,0,none⟩ (.slice x1 m1 f1)).setCell ⟨w.heap.size + 1,1,none⟩ (.slice x2 m2 f2)).setCell ⟨w.heap.size + 1,2,none⟩ (.slice q3 g3 z3)).setCell ⟨w.heap.size + 1,3,none⟩ (.slice x4 m4 f4)).setCell ⟨w.heap.size + 1,4,none⟩ (.slice (some ⟨g,0,none⟩) m5 f5)).setCell ⟨w.heap.size + 1,5,none⟩ (.int .i64 c1.now)).heap[k]? = wz.heap[k]?:=fun k h1 h3 => by rw [hk2 k h1,Below.heap_setCell _ _ _ _ h3,Below.heap_setCell _ _ _ _ h3]
   obtain ⟨⟨cur,H,hbk,_⟩,_⟩:=HST.out;have h2:=(HST.out.fa (i:=4) rfl n.n (by have h9:=(HT.out.2.1.1.2.1 _ _ HN.out).1.2.1;omega)).mC (i:=5) rfl 1;obtain ⟨⟨cur2,H2,h3,_⟩,_,_⟩:=h2;have hps : (plC c1 i p n.n).raw.p = (c1.ps.map pdF).set i (pdF (onP p n.n)):=by
    show (c1.ps.set i (onP p n.n)).map pdF = _;rw [List.map_set]
   refine ⟨?_,?_,?_,?_,?_⟩
   ·exact (HOFZ.out.n.j5 hbk.blk al al).aH (w':=((((((((wz.setCell ⟨g,i * 6 + 4,none⟩ (.string n.n)).setCell ⟨g,i * 6 + 5,none⟩ (.int .i64 1)).setCell ⟨w.heap.size + 1,0,none⟩ (.slice x1 m1 f1)).setCell ⟨w.heap.size + 1,1,none⟩ (.slice x2 m2 f2)).setCell ⟨w.heap.size + 1,2,none⟩ (.slice q3 g3 z3)).setCell ⟨w.heap.size + 1,3,none⟩ (.slice x4 m4 f4)).setCell ⟨w.heap.size + 1,4,none⟩ (.slice (some ⟨g,0,none⟩) m5 f5)).setCell ⟨w.heap.size + 1,5,none⟩ (.int .i64 c1.now))) (S':=fun k => w.heap.size ≤ k) (fun k hk s => hk3 k s.1.1 s.2) (fun k _ s => by have s1:=s.1.1;show w.heap.size ≤ k;omega)
   ·exact (HOFZ.out.k.j5 hbk.blk al al).aH (w':=((((((((wz.setCell ⟨g,i * 6 + 4,none⟩ (.string n.n)).setCell ⟨g,i * 6 + 5,none⟩ (.int .i64 1)).setCell ⟨w.heap.size + 1,0,none⟩ (.slice x1 m1 f1)).setCell ⟨w.heap.size + 1,1,none⟩ (.slice x2 m2 f2)).setCell ⟨w.heap.size + 1,2,none⟩ (.slice q3 g3 z3)).setCell ⟨w.heap.size + 1,3,none⟩ (.slice x4 m4 f4)).setCell ⟨w.heap.size + 1,4,none⟩ (.slice (some ⟨g,0,none⟩) m5 f5)).setCell ⟨w.heap.size + 1,5,none⟩ (.int .i64 c1.now))) (S':=fun k => w.heap.size ≤ k) (fun k hk s => hk3 k s.1.1 s.2) (fun k _ s => by have s1:=s.1.1;show w.heap.size ≤ k;omega)
   ·exact (HOFZ.out.v.j5 hbk.blk al al).aH (w':=((((((((wz.setCell ⟨g,i * 6 + 4,none⟩ (.string n.n)).setCell ⟨g,i * 6 + 5,none⟩ (.int .i64 1)).setCell ⟨w.heap.size + 1,0,none⟩ (.slice x1 m1 f1)).setCell ⟨w.heap.size + 1,1,none⟩ (.slice x2 m2 f2)).setCell ⟨w.heap.size + 1,2,none⟩ (.slice q3 g3 z3)).setCell ⟨w.heap.size + 1,3,none⟩ (.slice x4 m4 f4)).setCell ⟨w.heap.size + 1,4,none⟩ (.slice (some ⟨g,0,none⟩) m5 f5)).setCell ⟨w.heap.size + 1,5,none⟩ (.int .i64 c1.now))) (S':=fun k => w.heap.size ≤ k) (fun k hk s => hk3 k s.1.1 s.2) (fun k _ s => by have s1:=s.1.1;show w.heap.size ≤ k;omega)
   ·exact (HOFZ.out.x.j5 hbk.blk al al).aH (w':=((((((((wz.setCell ⟨g,i * 6 + 4,none⟩ (.string n.n)).setCell ⟨g,i * 6 + 5,none⟩ (.int .i64 1)).setCell ⟨w.heap.size + 1,0,none⟩ (.slice x1 m1 f1)).setCell ⟨w.heap.size + 1,1,none⟩ (.slice x2 m2 f2)).setCell ⟨w.heap.size + 1,2,none⟩ (.slice q3 g3 z3)).setCell ⟨w.heap.size + 1,3,none⟩ (.slice x4 m4 f4)).setCell ⟨w.heap.size + 1,4,none⟩ (.slice (some ⟨g,0,none⟩) m5 f5)).setCell ⟨w.heap.size + 1,5,none⟩ (.int .i64 c1.now))) (S':=fun k => w.heap.size ≤ k) (fun k hk s => hk3 k s.1.1 s.2) (fun k _ s => by have s1:=s.1.1;show w.heap.size ≤ k;omega)
   ·have hR : aB ((wz.setCell ⟨g,i * 6 + 4,none⟩ (.string n.n)).setCell ⟨g,i * 6 + 5,none⟩ (.int .i64 1)) (some ⟨g,0,none⟩) m5 f5 6 65 (plC c1 i p n.n).raw.p (fun k => q1.w.heap.size ≤ k ∧ ¬ k = w3.heap.size ∧ k < wr.heap.size):=by
     rw [hps];exact ⟨by rw [List.length_set];exact HOFZ.out.p.1,HOFZ.out.p.2.1,HOFZ.out.p.2.2.1,.inr ⟨g,cur2,H2,rfl,h3⟩⟩
    exact hR.aH (w':=((((((((wz.setCell ⟨g,i * 6 + 4,none⟩ (.string n.n)).setCell ⟨g,i * 6 + 5,none⟩ (.int .i64 1)).setCell ⟨w.heap.size + 1,0,none⟩ (.slice x1 m1 f1)).setCell ⟨w.heap.size + 1,1,none⟩ (.slice x2 m2 f2)).setCell ⟨w.heap.size + 1,2,none⟩ (.slice q3 g3 z3)).setCell ⟨w.heap.size + 1,3,none⟩ (.slice x4 m4 f4)).setCell ⟨w.heap.size + 1,4,none⟩ (.slice (some ⟨g,0,none⟩) m5 f5)).setCell ⟨w.heap.size + 1,5,none⟩ (.int .i64 c1.now))) (S':=fun k => w.heap.size ≤ k) (fun k hk s => hk2 k s.1) (fun k _ s => by have s1:=s.1;show w.heap.size ≤ k;omega)

theorem si (d : Ad) (c : Cl) (t s : ByteArray) (w : World) (hr : aM w d c.raw) :
  Calls Tryz.prog 6 #[.agg #[.slice d.a1 d.l1 d.c1,.slice d.a2 d.l2 d.c2,.slice d.a3 d.l3 d.c3,.slice d.a4 d.l4 d.c4,.slice d.a5 d.l5 d.c5,.int .i64 c.now],.string t,.string s] w fun e w' => (∃ e0,e = .returned (.int .i64 e0) ∧ gX c t s e0) ∧ Below w.heap.size w w':=by
 obtain ⟨a1,l1,y1,a2,l2,y2,a3,l3,y3,a4,l4,y4,a5,l5,y5⟩:=d;dsimp only;obtain ⟨HR,hl1,hm1,hl2,hm2,hl3,hm3,hl4,hm4,hl5,hm5⟩:=ew;clear hr;have HB:=ae (Below.refl w.heap.size w);by_cases hlt : 8000 < t.size
 ·go_enter Tryz.func6,Tryz.ntmps6;go_wp2;go_ret;exact ⟨⟨_,rfl,.inl ⟨.inr hlt,rfl⟩⟩,an _ _⟩
 by_cases hls : 8000 < s.size
 ·go_enter Tryz.func6,Tryz.ntmps6;go_wp2;go_ret;exact ⟨⟨_,rfl,.inl ⟨.inl hls,rfl⟩⟩,an _ _⟩
 go_enter Tryz.func6,Tryz.ntmps6;go_wp2_with fail;refine (oG ⟨a1,l1,y1,a2,l2,y2,a3,l3,y3,a4,l4,y4,a5,l5,y5⟩ c _ (HR.out.below (HB.out.trans ((an _ _).mono HB.out.size)))).mono ?_;rintro e w1 ⟨r,rfl,hi,hb⟩;obtain ⟨HA0,hbx⟩:=aG hb;have Bk:=ae HA0;replace HB:=upB HB hbx;clear hb hbx HA0;have HI:=ae hi;clear hi;cases r
 ·obtain ⟨k0,k1,k2,k3,k4,k5⟩:=cs6 Bk.out;have ltk_1:=aa Bk.out;go_wp2;go_ret;exact ⟨⟨_,rfl,.inr ⟨hls,hlt,.inl ⟨fun h => absurd (HI.out.2 h) al,rfl⟩⟩⟩,HB.out⟩
 have HT:=ae (HI.out.1 rfl);clear HI;obtain ⟨k0,k1,k2,k3,k4,k5⟩:=cs6 Bk.out;have ltk_1:=aa Bk.out;go_wp2_with fail;refine (tE ⟨a1,l1,y1,a2,l2,y2,a3,l3,y3,a4,l4,y4,a5,l5,y5⟩ c.now c.ps t _ (HR.out.p.below HB.out)).mono ?_;rintro e w2 ⟨hb,hf⟩;clear k0 k1 k2 k3 k4 k5 ltk_1;replace Bk:=upK Bk hb;replace HB:=upB HB hb;clear hb;obtain ⟨k0,k1,k2,k3,k4,k5⟩:=cs6 Bk.out;have ltk_2:=aa Bk.out;rcases hf with ⟨i,x,hx,hn,rfl⟩ | ⟨hno,rfl⟩;rotate_left
 ·have HNO:=ae hno;clear hno;go_wp2_with fail;refine (eA ⟨a1,l1,y1,a2,l2,y2,a3,l3,y3,a4,l4,y4,a5,l5,y5⟩ c.now c.ns s _ (HR.out.n.below HB.out)).mono ?_;rintro e w3 ⟨hb,hf⟩;clear k0 k1 k2 k3 k4 k5 ltk_2;replace Bk:=upK Bk hb;replace HB:=upB HB hb;clear hb;rcases hf with ⟨j,y,hy,hm,rfl⟩ | ⟨hno,rfl⟩
  ·exact acN
  ·exact acN
 have HX:=ae (And.intro hx hn);have hi0 : ¬ (i : Int) < 0:=aaa
 clear hx hn;go_wp2_with fail;refine (eA ⟨a1,l1,y1,a2,l2,y2,a3,l3,y3,a4,l4,y4,a5,l5,y5⟩ c.now c.ns s _ (HR.out.n.below HB.out)).mono ?_;rintro e w3 ⟨hb,hf⟩;clear k0 k1 k2 k3 k4 k5 ltk_2;replace Bk:=upK Bk hb;replace HB:=upB HB hb;clear hb;rcases hf with ⟨j,y,hy,hm,rfl⟩ | ⟨hno,rfl⟩;rotate_left
 ·obtain ⟨k0,k1,k2,k3,k4,k5⟩:=cs6 Bk.out;have ltk_3:=aa Bk.out;go_wp2;go_ret;exact ⟨⟨_,rfl,.inr ⟨hls,hlt,.inr ⟨HT.out,.inl ⟨.inr (yu hno),rfl⟩⟩⟩⟩,HB.out⟩
 have HY:=ae (And.intro hy hm);have hj0 : ¬ (j : Int) < 0:=aaa
 clear hy hm;obtain ⟨k0,k1,k2,k3,k4,k5⟩:=cs6 Bk.out;have ltk_3:=aa Bk.out;go_wp2_with fail;refine (tI ⟨a1,l1,y1,a2,l2,y2,a3,l3,y3,a4,l4,y4,a5,l5,y5⟩ c i j x y _ (HR.out.below HB.out) HT.out HX.out.1 HY.out.1).mono ?_;rintro e w4 ⟨d',c',e0,rfl,hA,-,hb⟩;clear k0 k1 k2 k3 k4 k5 ltk_3;replace Bk:=upK Bk hb;replace HB:=upB HB hb;clear hb;have HA:=ae hA;clear hA;go_wp2;go_ret;exact ⟨⟨e0,rfl,.inr ⟨hls,hlt,.inr ⟨HT.out,.inr ⟨i,j,x,y,HX.out.1,HX.out.2,HY.out.1,HY.out.2,HA.out.imp id (fun h => ⟨h.1,c',h.2⟩)⟩⟩⟩⟩,HB.out.alloc HB.out.size _⟩

end Rc
end Go.Proofs.YtdoldaceehdifaaGreatDoor

namespace Go.Proofs.YtdoldaceehdifaaGreatDoor
open Go.RowKit Rc Mk

def z6 (c : Cl) : Fact:=fun v w => ∃ d : Ad,v = .agg #[.slice d.a1 d.l1 d.c1,.slice d.a2 d.l2 d.c2,.slice d.a3 d.l3 d.c3,.slice d.a4 d.l4 d.c4,.slice d.a5 d.l5 d.c5,.int .i64 c.now] ∧ aM w d c.raw
theorem z6.mono (c : Cl) : Fact.bw (z6 c):=by
 exact aaL

set_option linter.unusedVariables false in
theorem sR (d : Ad) (c : Cl) (t s : ByteArray) (E : Nat → Addr) (w : World) (hr : aM w d c.raw) (ht : t.size ≤ maxLen) (hs : s.size ≤ maxLen) (hG : Ers w E) :
  Calls Tryz.prog 3 #[.agg #[.slice d.a1 d.l1 d.c1,.slice d.a2 d.l2 d.c2,.slice d.a3 d.l3 d.c3,.slice d.a4 d.l4 d.c4,.slice d.a5 d.l5 d.c5,.int .i64 c.now],.string t,.string s] w fun e w' => e = .returned (.bool true) ∧ Below w.heap.size w w':=by
 obtain ⟨HR,HE,HB⟩:=mY;clear hr hG;by_cases hlongt : 1048576 < t.size
 ·go_enter Tryz.func3,Tryz.ntmps3;go_wp2;go_ret;exact ⟨rfl,an _ _⟩
 by_cases hlongs : 1048576 < s.size
 ·go_enter Tryz.func3,Tryz.ntmps3;go_wp2;go_ret;exact ⟨rfl,an _ _⟩
 go_enter Tryz.func3,Tryz.ntmps3;go_wp2_with fail;refine (jV d c _ (HR.out.below (HB.out.trans ((an _ _).mono HB.out.size)))).mono ?_;rintro e w1 ⟨r,rfl,hi,hb⟩;obtain ⟨HA0,hbx⟩:=aG hb;have Bk:=ae HA0;replace HB:=upB HB hbx;clear hb hbx HA0;rcases hi with rfl | ⟨hr0,-,hft⟩
 ·obtain ⟨k0,k1,k2,k3,k4,k5⟩:=cs6 Bk.out;have ltk_1:=aa Bk.out;go_wp2;go_ret;exact ⟨rfl,HB.out⟩
 have HF:=ae hft;clear hft;obtain ⟨k0,k1,k2,k3,k4,k5⟩:=cs6 Bk.out;have ltk_1:=aa Bk.out;go_wp2_with fail;refine (dM d c _ (HR.out.below HB.out) HF.out).mono ?_;rintro e w2 ⟨d1,rfl,ho,hb⟩;clear k0 k1 k2 k3 k4 k5 ltk_1;replace Bk:=upK Bk hb;replace HB:=upB HB hb;clear hb;have HO:=ae ho.row;clear ho;go_wp2_with fail;have HO2:=HO;clear HO;refine (si d1 c t s _ HO2.out).mono ?_;rintro e w3 ⟨⟨r0,rfl,hi⟩,hb⟩;replace Bk:=upK Bk hb;replace HB:=upB HB hb;clear hb;have HI:=ae hi;clear hi HO2;obtain ⟨k0,k1,k2,k3,k4,k5⟩:=cs6 Bk.out;have ltk_3:=aa Bk.out;go_wp2_with fail;refine (dM d c _ (HR.out.below HB.out) HF.out).mono ?_;rintro e w4 ⟨d2,rfl,ho,hb⟩;clear k0 k1 k2 k3 k4 k5 ltk_3;replace Bk:=upK Bk hb;replace HB:=upB HB hb;clear hb;have HO:=ae ho.row;clear ho;go_wp2_with fail;have HO3:=ae (HO.out.below (an w4 (.cells #[.slice d2.a1 d2.l1 d2.c1,.slice d2.a2 d2.l2 d2.c2,.slice d2.a3 d2.l3 d2.c3,.slice d2.a4 d2.l4 d2.c4,.slice d2.a5 d2.l5 d2.c5,.int .i64 c.now] 37)));clear HO;refine (sM d2 c t s E _ HO3.out (HE.out.below (HB.out.trans ((an _ _).mono HB.out.size)))).mono ?_;rintro e w5 ⟨⟨r1,rfl,hj⟩,hb⟩;have HO:=ae (HO3.out.below hb);clear HO3;obtain ⟨HA0,hbx⟩:=aG hb;replace Bk:=upK Bk hbx;have Bx:=ae HA0;replace HB:=upB HB hbx;clear hb hbx HA0;obtain rfl : r1 = r0:=hj.same HI.out;clear hj HI;obtain ⟨W,hW0⟩ : ∃ W,W = w5:=⟨_,rfl⟩;rw [← hW0] at HO HB Bk Bx;have hrr : (r1 == r1) = true:=by simp
 go_wp2_with fail;rw [← hW0];clear hW0 hrr;rename_i K0 hK0;refine bf (back:=none) av (List.append_nil _).symm av ?_;refine' aw.aq _ rfl ?_ ?_;rotate_left 1
 ·refine Obl.plain rfl ?_;intro ac wg K hsz hW hf hK;clear hsz;have e9:=hf 9 al;simp [ai,List.lookup] at e9;clear hf;obtain ⟨k0,k1,k2,k3,k4,k5⟩:=cs6 ((hW.block _ (aa Bx.out)).trans Bx.out);exact aO
 refine' aw.aq _ rfl ?_ ?_;rotate_left 1
 ·refine Obl.plain rfl ?_;intro ac wg K hsz hW hf hK;clear hsz;have e3:=hf 3 al;simp [ai,List.lookup] at e3;exact gF
 refine aw.step (z6 c) rfl (z6.mono c) ?_ ?_
 ·refine Obl.plain rfl ?_;intro ac wg K hsz hW hf hK;clear hsz;have e37:=hf 37 al;simp [ai,List.lookup] at e37;clear hf;go_simp;refine (dM d c _ (HR.out.below (HB.out.trans (hW.mono HB.out.size))) HF.out).mono ?_;rintro e w6 ⟨d3,rfl,ho,hb6⟩;exact hK _ _ hb6 ⟨d3,rfl,ho.row⟩
 refine' aw.aq (.bool true) rfl ?_ ?_
 ·refine Obl.plain rfl ?_;intro ac wg K hsz hW hf hK;clear hsz;have e36:=hf 36 al;simp [ai,List.lookup] at e36;have e38:=hf 38 al;simp [ai,List.lookup] at e38;obtain ⟨d3,e38,hrow⟩:=e38;clear hf;go_simp;refine (j0 d2 d3 c _ (HO.out.below hW) hrow).mono ?_;rintro e w6 ⟨rfl,hb6⟩;exact hK _ _ hb6 rfl
 refine' aw.aq _ rfl ?_ ?_;rotate_left 1
 ·exact abB
 refine aw.done ?_;intro q wz hW hf;simp only [List.forall_mem_cons] at hf;obtain ⟨h40,-⟩:=hf;have HZ:=upB HB hW;refine hK0 _ _ ?_;simp only [aE,List.foldr,Act.put,List.setIfInBounds_toArray,List.set_cons_zero,List.set_cons_succ,h40];clear hK0;go_wp2_with fail;go_ret;exact ⟨rfl,HZ.out⟩

set_option linter.unusedVariables false in
theorem gR (a1 : Option Addr) (l1 y1 : Nat) (ns : List Nd) (a2 : Option Addr) (l2 y2 : Nat) (ks : List Kd) (a3 : Option Addr) (l3 y3 : Nat) (vs : List Vd) (a4 : Option Addr) (l4 y4 : Nat) (xs : List Xd) (a5 : Option Addr) (l5 y5 : Nat) (ps : List Pd) (now : Int) (t s : ByteArray) (w : World)
  (h1 : aI w a1 l1 y1 7 (ns.map ndF)) (h2 : aI w a2 l2 y2 4 (ks.map kdF)) (h3 : aI w a3 l3 y3 8 (vs.map vdF)) (h4 : aI w a4 l4 y4 5 (xs.map xdF)) (h5 : aI w a5 l5 y5 6 (ps.map pdF)) (_ : (Lit.int .i64 now).wf = true) (ht : t.size ≤ maxLen) (hs : s.size ≤ maxLen) (hG : ∃ E,Ers w E) :
  Calls Tryz.prog 3 #[.agg #[.slice a1 l1 y1,.slice a2 l2 y2,.slice a3 l3 y3,.slice a4 l4 y4,.slice a5 l5 y5,.int .i64 now],.string t,.string s] w fun e w' => e = .returned (.bool true) ∧ Below w.heap.size w w' :=
 by obtain ⟨E,hG⟩:=hG;exact sR ⟨a1,l1,y1,a2,l2,y2,a3,l3,y3,a4,l4,y4,a5,l5,y5⟩ ⟨ns,ks,vs,xs,ps,now⟩ t s E w ⟨h1,h2,h3,h4,h5⟩ ht hs hG

end Go.Proofs.YtdoldaceehdifaaGreatDoor

namespace Go.Proofs.YtdoldaceehdifaaGreatDoor
open Go.RowKit
namespace Rc

theorem me : "*" ++ "errors.errorString" = "*errors.errorString":=by decide
theorem Dw (u : TypeId) (h : Tryz.prog.typeName? 3 u = some "*errors.errorString") : u = 255 :=
 typeName_ptr_named (nm:= "errors.errorString") (by rw [me];kernel_rfl) av al u (by rw [me];exact h)

theorem qp {P : Program} {W : World} {nm : String} {ti tp te ts : TypeId} {ms : Array (String × TypeId)} {f : Field} (hi : P.underlying ti = some (.interface ms)) (hrow : ∀ u,P.typeName? 3 u = some nm → u = tp)
  (hp : P.underlying tp = some (.pointer te)) (he : P.underlying te = some (.struct #[f])) (hft : f.type = ts) (hfo : f.offset = 0) (hs : P.underlying ts = some .string) (hc : P.cellsOf te = 1) (hcs : P.cellsOf ts = 1) :
  ∀ (l : List (String × List UInt8)) (ps : List MemPlace),(∀ x ∈ l,∃ g,P.globalNamed x.1 = some g ∧ (P.globals[g]?).map (·.type) = some ti) →
   DataW.LaidVars P W (l.map fun x => (x.1,.iface nm (.ptr (.agg [.lit (.string x.2)])))) ps → ps.Nodup →
   (∀ b off,MemPlace.cell b off ∈ ps → (∃ c t,W.heap[b]? = some (.cells c t (0,0))) ∧ ∀ u v,W.cell? ⟨b,off,none⟩ = some (.iface u v) → Value.okWide P W .any 0 u v) →
   ∃ E : Nat → Addr,(∀ (i : Nat) x,l[i]? = some x → W.var? P x.1 = some #[.iface tp (.pointer (some (E i)))] ∧ MemPlace.cell (E i).block (E i).off ∈ ps) ∧ ∀ i j,i < l.length → j < l.length → E i = E j → i = j
 | [],ps,_,_,_,_ => ⟨fun _ => ⟨0,0,none⟩,fun i x h => by simp at h,fun i j h => by simp at h⟩
 | x :: l,ps,hT,hv,hnd,hrows => by
  obtain ⟨g,t,cs,fuel,p,q,hg,ht,hvar,hd,hq,rfl⟩:=hv;obtain ⟨g',hg',ht'⟩:=hT x aN;obtain rfl:=Option.some.inj (hg.symm.trans hg');obtain rfl:=Option.some.inj (ht.symm.trans ht');have hsub : ∀ {y},y ∈ q → y ∈ MemPlace.row ⟨g,0,none⟩ cs.size ++ p ++ q:=fun h => List.mem_append_right _ h;obtain ⟨E,hE1,hE2⟩:=qp hi hrow hp he hft hfo hs hc hcs l q (fun y hy => hT y (by simp [hy])) hq (List.Nodup.sublist (List.sublist_append_right _ _) hnd) (fun b off hm => hrows b off (hsub hm));obtain ⟨l0⟩:=cs;have ok0 : ∀ u v,l0 = [.iface u v] → Value.okWide P W .any 0 u v:=fun u v e => by
   subst e;exact (hrows g 0 (by simp [MemPlace.row])).2 u v (by simpa using World.var?_cell hg hvar 0)
  obtain ⟨a0,s0,rfl,hc0,hs0,hz0,rfl⟩:=errorString_of_trod hi hrow hp he hft hfo hs hc hcs hd ok0;have ha : MemPlace.cell a0.block a0.off ∈ MemPlace.row a0 1:=by simp [MemPlace.row]
  have hdis : ∀ i,i < l.length → ¬ E i = a0:=fun i hi' e => by
   have h1:=(hE1 i _ (List.getElem?_eq_getElem hi')).2;rw [e] at h1;have h2:=(List.nodup_append.1 hnd).2.2 _ (List.mem_append_right _ ha) _ h1;exact h2 rfl
  refine ⟨fun i => match i with | 0 => a0 | i + 1 => E i,fun i y hy => ?_,fun i j hi' hj' e => ?_⟩
  ·cases i with
   | zero =>
    obtain rfl : x = y:=by simpa using hy
    exact ⟨hvar,List.mem_append_left _ (List.mem_append_right _ ha)⟩
   | succ i =>
    obtain ⟨h1,h2⟩:=hE1 i y (by simpa using hy);exact ⟨h1,hsub h2⟩
  ·cases i with
   | zero => cases j with
    | zero => rfl
    | succ j => exact absurd e.symm (hdis j (by simpa using hj'))
   | succ i => cases j with
    | zero => exact absurd e (hdis i (by simpa using hi'))
    | succ j => rw [hE2 i j (by simpa using hi') (by simpa using hj') e]

theorem mg {H : Type} {enc : TypeId × Value → H} {P : Program} {w : World} {sp : Nat → Bool} : ∀ (ns : List String) (gs : List (DataW H)) (ps : List MemPlace),DataW.TrodVars enc P w sp ns gs ps → gs.length = ns.length
 | [],[],_,_ => rfl
 | [],_ :: _,_,h => h.elim
 | _ :: _,[],_,h => h.elim
 | _ :: ns,_ :: gs,_,h => by
  obtain ⟨_,_,_,_,_,q,_,_,_,_,h1,_⟩:=h;simp [mg ns gs q h1]
theorem D0 {α : Type} : ∀ {l : List α},l.length = 10 → ∃ a b c d e f g h i j,l = [a,b,c,d,e,f,g,h,i,j]
 | [a,b,c,d,e,f,g,h,i,j],_ => ⟨a,b,c,d,e,f,g,h,i,j,rfl⟩

end Rc
end Go.Proofs.YtdoldaceehdifaaGreatDoor

namespace Go.Proofs.YtdoldaceehdifaaGreatDoor
open Go.RowKit Go.ChangeShapes Go.WideShapes Go.Deep

theorem C6 {α : Type} {l : List α} (h : l.length = 6) : ∃ x0 x1 x2 x3 x4 x5,l = [x0,x1,x2,x3,x4,x5]:=by
 match l,h with
 | [x0,x1,x2,x3,x4,x5],_ => exact ⟨_,_,_,_,_,_,rfl⟩
section
variable {H : Type} {enc : TypeId × Value → H} {P : Program} {w : World} {base : Nat} {spare : Nat → Bool} {held : Bool}

theorem ss {r : Reach} {b0 : Nat} {t : TypeId} {fs : Array Field} {v : Value} {d : DataW H} {p : List MemPlace} (hs : P.underlying t = some (.struct fs)) (hone : oneCellFields P fs = true) (hC : P.cellsOf t = fs.size)
  (hv : Value.okWide P w r b0 t v) (h : DataW.Trod enc P w base spare held t v d p) :
  ∃ (cs : List Value) (n : Nat),v = .agg cs.toArray ∧ cs.length = fs.size ∧ ∀ (i : Nat) (f : Field),fs[i]? = some f → ∃ c y,cs[i]? = some c ∧ DataW.trod enc P w base spare held n f.type [c] = some y:=by
 obtain ⟨cs,rfl,hsz⟩:=okWide_struct hs hv;obtain ⟨fuel,hf⟩:=h;obtain ⟨xs,n,_,hx,hl,hlen,hf'⟩:=DataW.trod_struct hs hf;refine ⟨cs.toList,n,rfl,by rw [Array.length_toList];exact hsz.trans hC,fun i f hi => ?_⟩;obtain ⟨o,k⟩:=hone_of hone i f hi;have hlt : i < fs.size:=(Array.getElem?_eq_some_iff.1 hi).1;have hlc : i < cs.toList.length:=by rw [Array.length_toList,hsz,hC];exact hlt
 have g:=hf' i f hi;rw [o,k] at g;have e : ((Value.agg cs).cells.toList.drop i).take 1 = [cs.toList[i]'hlc]:=by
  show (cs.toList.drop i).take 1 = _;rw [List.drop_eq_getElem_cons hlc];rfl
 exact ab5

theorem eC {t e : TypeId} {n : Nat} {c : Value} {y : DataW H × List MemPlace} (ht : P.underlying t = some (.slice e)) (he : P.underlying e = some .string) (hc : P.cellsOf e = 1)
  (h : DataW.trod enc P w base spare held n t [c] = some y) : ∃ a len cap zs,c = .slice a len cap ∧ ay w a len cap zs:=by
 rcases open_strs ht he hc h with ⟨hcs,_⟩ | ⟨a,len,cap,m,Sx,hcs,hb,hl,hm,hmm,_,hx⟩
 ·exact ⟨none,0,0,[],by simpa using hcs,rfl,Nat.le_refl _,by omega,fun j x hx => by simp at hx,Or.inl rfl⟩
 ·obtain ⟨hlm,hm'⟩:=aaj;refine ⟨some a,len,cap,(List.range len).map Sx,by simpa using hcs,by simp,hl,hm',fun j x hj => ?_,?_⟩
  ·rw [List.getElem?_map] at hj;by_cases hjl : j < len
   ·rw [List.getElem?_range hjl] at hj;obtain rfl:=Option.some.inj hj;have:=(hx j af).2;unfold maxLen at this;omega
   ·exact uD
  ·by_cases h0 : len = 0
   ·subst h0;exact Or.inl rfl
   right;obtain ⟨b,o,spot⟩:=a;have h0':=(hx 0 af).1;have hspot : spot = none:=by simpa [Addr.add] using World.cell?_spot h0'
   subst hspot;refine ⟨b,o,rfl,?_,fun j x hj => ?_⟩
   ·rw [Addr.add_lit] at h0';rcases Nat.lt_or_ge b w.heap.size with h1 | h1
    ·exact h1
    ·simp [World.cell?,Array.getElem?_eq_none h1] at h0'
   ·rw [List.getElem?_map] at hj;by_cases hjl : j < len
    ·rw [List.getElem?_range hjl] at hj;obtain rfl:=Option.some.inj hj;have:=(hx j af).1;rw [Addr.add_lit] at this;exact this
    ·exact uD
end

section
variable {H : Type} {enc : TypeId × Value → H} {w : World} {base : Nat} {spare : Nat → Bool} {held : Bool}

theorem dR {P : Program} {n : Nat} {t : TypeId} {fs : Array Field} {cs : List Value} {x : DataW H × List MemPlace} (hs : P.underlying t = some (.struct fs)) (hone : oneCellFields P fs = true) (hC : P.cellsOf t = fs.size)
  (h : DataW.trod enc P w base spare held n t cs = some x) :
  ∃ (n : Nat),cs.length = fs.size ∧ ∀ (i : Nat) (f : Field),fs[i]? = some f → ∃ c y,cs[i]? = some c ∧ DataW.trod enc P w base spare held n f.type [c] = some y:=by
 obtain ⟨xs,n,_,hx,hl,hlen,hf'⟩:=DataW.trod_struct hs h;refine ⟨n,hl.trans hC,fun i f hi => ?_⟩;obtain ⟨o,k⟩:=hone_of hone i f hi;have hlt : i < fs.size:=(Array.getElem?_eq_some_iff.1 hi).1;have hlc : i < cs.length:=by rw [hl,hC];exact hlt
 have g:=hf' i f hi;rw [o,k] at g;have e : (cs.drop i).take 1 = [cs[i]'hlc]:=by
  rw [List.drop_eq_getElem_cons hlc];rfl
 exact ab5

end

end Go.Proofs.YtdoldaceehdifaaGreatDoor

namespace Go.Proofs.YtdoldaceehdifaaGreatDoor
open Go.RowKit Go.ChangeShapes Go.WideShapes Go.Deep
namespace Rc

section
variable {H : Type} {enc : TypeId × Value → H} {w : World} {base : Nat} {spare : Nat → Bool} {held : Bool}

theorem qj {b o n : Nat} {cs : List Value} {x : DataW H × List MemPlace} (hc : ∀ i,i < 7 → w.cell? ⟨b,o + i,none⟩ = cs[i]?) (h : DataW.trod enc Tryz.prog w base spare held n 97 cs = some x) : ∃ v : Nd,RAt w b o (ndF v):=by
 obtain ⟨m,hl,hf⟩:=dR Tryz.underlying97 av av h;obtain ⟨c0,y0,e0,t0⟩:=hf 0 _ rfl;obtain ⟨b0,q0,-,s0⟩:=DataW.trod_string Tryz.underlying9 t0;obtain rfl : c0 = .string b0:=by simpa using q0
 obtain ⟨c1,y1,e1,t1⟩:=hf 1 _ rfl;obtain ⟨b1,q1,-,s1⟩:=DataW.trod_string Tryz.underlying9 t1;obtain rfl : c1 = .string b1:=by simpa using q1
 obtain ⟨c2,y2,e2,t2⟩:=hf 2 _ rfl;obtain ⟨b2,q2,-,s2⟩:=DataW.trod_int Tryz.underlying2 t2;obtain rfl : c2 = .int .i64 b2:=by simpa using q2
 obtain ⟨c3,y3,e3,t3⟩:=hf 3 _ rfl;obtain ⟨b3,q3,-,s3⟩:=DataW.trod_int Tryz.underlying2 t3;obtain rfl : c3 = .int .i64 b3:=by simpa using q3
 obtain ⟨c4,y4,e4,t4⟩:=hf 4 _ rfl;obtain ⟨b4,q4,-,s4⟩:=DataW.trod_int Tryz.underlying2 t4;obtain rfl : c4 = .int .i64 b4:=by simpa using q4
 obtain ⟨c5,y5,e5,t5⟩:=hf 5 _ rfl;obtain ⟨b5,q5,-⟩:=DataW.trod_bool Tryz.underlying4 t5;obtain rfl : c5 = .bool b5:=by simpa using q5
 obtain ⟨c6,y6,e6,t6⟩:=hf 6 _ rfl;obtain ⟨b6,l6,p6,zz,rfl,r6⟩:=eC Tryz.underlying63 Tryz.underlying9 av t6;unfold maxLen at s0 s1;refine ⟨⟨b0,b1,b2,b3,b4,b5,zz⟩,fun i f hi => ?_⟩;rcases i with _ | _ | _ | _ | _ | _ | _ | i
 ·exact aax
 ·cases hi;exact ⟨_,(hc 1 af).trans e1,rfl,show b1.size ≤ _ by omega⟩
 ·cases hi;exact ⟨_,(hc 2 af).trans e2,rfl⟩
 ·cases hi;exact ⟨_,(hc 3 af).trans e3,rfl⟩
 ·cases hi;exact ⟨_,(hc 4 af).trans e4,rfl⟩
 ·cases hi;exact ⟨_,(hc 5 af).trans e5,rfl⟩
 ·cases hi;exact ⟨_,(hc 6 af).trans e6,b6,l6,p6,rfl,r6⟩
 ·first | (cases hi;done) | (simp [ndF] at hi;done)

theorem yS {n : Nat} {c : Value} {y : DataW H × List MemPlace} (h : DataW.trod enc Tryz.prog w base spare held n 22 [c] = some y) : ∃ a len cap,∃ xs : List Nd,c = .slice a len cap ∧ aI w a len cap 7 (xs.map ndF):=by
 rcases open_slice Tryz.underlying22 h with ⟨hcs,_⟩ | ⟨a,len,cap,m,n',D,Pl,hcs,hb,hl,hm,hmm,_,hx⟩
 ·exact aar
 obtain ⟨hlm,hm'⟩:=aaj;have hce : Tryz.prog.cellsOf 97 = 7:=aae
 rw [hce] at hx;by_cases h0 : len = 0
 ·exact aaw
 obtain ⟨b,o,spot⟩:=a;obtain ⟨cs0,k1,k2⟩:=hx 0 af;have hspot : spot = none:=by
  exact aat
 subst hspot;have hblt : b < w.heap.size:=by
  exact aav
 have each : ∀ i,i < len → ∃ v : Nd,RAt w b (o + i * 7) (ndF v):=fun i hi => by
  obtain ⟨cs,k1,k2⟩:=hx i af;obtain ⟨_,hl0,hc0⟩:=World.cells?_some k1;refine qj (fun j hj => ?_) k2;exact aaA
 have hin : Inhabited Nd:=⟨⟨⟨#[]⟩,⟨#[]⟩,0,0,0,false,[]⟩⟩;exact aaB

theorem qt {b o n : Nat} {cs : List Value} {x : DataW H × List MemPlace} (hc : ∀ i,i < 4 → w.cell? ⟨b,o + i,none⟩ = cs[i]?) (h : DataW.trod enc Tryz.prog w base spare held n 100 cs = some x) : ∃ v : Kd,RAt w b o (kdF v):=by
 obtain ⟨m,hl,hf⟩:=dR Tryz.underlying100 av av h;obtain ⟨c0,y0,e0,t0⟩:=hf 0 _ rfl;obtain ⟨b0,q0,-,s0⟩:=DataW.trod_string Tryz.underlying9 t0;obtain rfl : c0 = .string b0:=by simpa using q0
 obtain ⟨c1,y1,e1,t1⟩:=hf 1 _ rfl;obtain ⟨b1,q1,-⟩:=DataW.trod_bool Tryz.underlying4 t1;obtain rfl : c1 = .bool b1:=by simpa using q1
 obtain ⟨c2,y2,e2,t2⟩:=hf 2 _ rfl;obtain ⟨b2,q2,-⟩:=DataW.trod_bool Tryz.underlying4 t2;obtain rfl : c2 = .bool b2:=by simpa using q2
 obtain ⟨c3,y3,e3,t3⟩:=hf 3 _ rfl;obtain ⟨b3,q3,-,s3⟩:=DataW.trod_string Tryz.underlying9 t3;obtain rfl : c3 = .string b3:=by simpa using q3
 unfold maxLen at s0 s3;refine ⟨⟨b0,b1,b2,b3⟩,fun i f hi => ?_⟩;rcases i with _ | _ | _ | _ | i
 ·exact aax
 ·cases hi;exact ⟨_,(hc 1 af).trans e1,rfl⟩
 ·cases hi;exact ⟨_,(hc 2 af).trans e2,rfl⟩
 ·cases hi;exact ⟨_,(hc 3 af).trans e3,rfl,show b3.size ≤ _ by omega⟩
 ·first | (cases hi;done) | (simp [kdF] at hi;done)

theorem yT {n : Nat} {c : Value} {y : DataW H × List MemPlace} (h : DataW.trod enc Tryz.prog w base spare held n 23 [c] = some y) : ∃ a len cap,∃ xs : List Kd,c = .slice a len cap ∧ aI w a len cap 4 (xs.map kdF):=by
 rcases open_slice Tryz.underlying23 h with ⟨hcs,_⟩ | ⟨a,len,cap,m,n',D,Pl,hcs,hb,hl,hm,hmm,_,hx⟩
 ·exact aar
 obtain ⟨hlm,hm'⟩:=aaj;have hce : Tryz.prog.cellsOf 100 = 4:=aae
 rw [hce] at hx;by_cases h0 : len = 0
 ·exact aaw
 obtain ⟨b,o,spot⟩:=a;obtain ⟨cs0,k1,k2⟩:=hx 0 af;have hspot : spot = none:=by
  exact aat
 subst hspot;have hblt : b < w.heap.size:=by
  exact aav
 have each : ∀ i,i < len → ∃ v : Kd,RAt w b (o + i * 4) (kdF v):=fun i hi => by
  obtain ⟨cs,k1,k2⟩:=hx i af;obtain ⟨_,hl0,hc0⟩:=World.cells?_some k1;refine qt (fun j hj => ?_) k2;exact aaA
 have hin : Inhabited Kd:=⟨⟨⟨#[]⟩,false,false,⟨#[]⟩⟩⟩;exact aaB

theorem oA {b o n : Nat} {cs : List Value} {x : DataW H × List MemPlace} (hc : ∀ i,i < 8 → w.cell? ⟨b,o + i,none⟩ = cs[i]?) (h : DataW.trod enc Tryz.prog w base spare held n 103 cs = some x) : ∃ v : Vd,RAt w b o (vdF v):=by
 obtain ⟨m,hl,hf⟩:=dR Tryz.underlying103 av av h;obtain ⟨c0,y0,e0,t0⟩:=hf 0 _ rfl;obtain ⟨b0,q0,-,s0⟩:=DataW.trod_string Tryz.underlying9 t0;obtain rfl : c0 = .string b0:=by simpa using q0
 obtain ⟨c1,y1,e1,t1⟩:=hf 1 _ rfl;obtain ⟨b1,q1,-,s1⟩:=DataW.trod_int Tryz.underlying2 t1;obtain rfl : c1 = .int .i64 b1:=by simpa using q1
 obtain ⟨c2,y2,e2,t2⟩:=hf 2 _ rfl;obtain ⟨b2,q2,-,s2⟩:=DataW.trod_string Tryz.underlying9 t2;obtain rfl : c2 = .string b2:=by simpa using q2
 obtain ⟨c3,y3,e3,t3⟩:=hf 3 _ rfl;obtain ⟨b3,q3,-,s3⟩:=DataW.trod_string Tryz.underlying9 t3;obtain rfl : c3 = .string b3:=by simpa using q3
 obtain ⟨c4,y4,e4,t4⟩:=hf 4 _ rfl;obtain ⟨b4,q4,-⟩:=DataW.trod_bool Tryz.underlying4 t4;obtain rfl : c4 = .bool b4:=by simpa using q4
 obtain ⟨c5,y5,e5,t5⟩:=hf 5 _ rfl;obtain ⟨b5,q5,-,s5⟩:=DataW.trod_string Tryz.underlying9 t5;obtain rfl : c5 = .string b5:=by simpa using q5
 obtain ⟨c6,y6,e6,t6⟩:=hf 6 _ rfl;obtain ⟨b6,q6,-⟩:=DataW.trod_bool Tryz.underlying4 t6;obtain rfl : c6 = .bool b6:=by simpa using q6
 obtain ⟨c7,y7,e7,t7⟩:=hf 7 _ rfl;obtain ⟨b7,l7,p7,zz,rfl,r7⟩:=eC Tryz.underlying63 Tryz.underlying9 av t7;unfold maxLen at s0 s2 s3 s5;refine ⟨⟨b0,b1,b2,b3,b4,b5,b6,zz⟩,fun i f hi => ?_⟩;rcases i with _ | _ | _ | _ | _ | _ | _ | _ | i
 ·exact aax
 ·cases hi;exact ⟨_,(hc 1 af).trans e1,rfl⟩
 ·exact aaT
 ·cases hi;exact ⟨_,(hc 3 af).trans e3,rfl,show b3.size ≤ _ by omega⟩
 ·cases hi;exact ⟨_,(hc 4 af).trans e4,rfl⟩
 ·cases hi;exact ⟨_,(hc 5 af).trans e5,rfl,show b5.size ≤ _ by omega⟩
 ·cases hi;exact ⟨_,(hc 6 af).trans e6,rfl⟩
 ·cases hi;exact ⟨_,(hc 7 af).trans e7,b7,l7,p7,rfl,r7⟩
 ·first | (cases hi;done) | (simp [vdF] at hi;done)

theorem yQ {n : Nat} {c : Value} {y : DataW H × List MemPlace} (h : DataW.trod enc Tryz.prog w base spare held n 24 [c] = some y) : ∃ a len cap,∃ xs : List Vd,c = .slice a len cap ∧ aI w a len cap 8 (xs.map vdF):=by
 rcases open_slice Tryz.underlying24 h with ⟨hcs,_⟩ | ⟨a,len,cap,m,n',D,Pl,hcs,hb,hl,hm,hmm,_,hx⟩
 ·exact aar
 obtain ⟨hlm,hm'⟩:=aaj;have hce : Tryz.prog.cellsOf 103 = 8:=aae
 rw [hce] at hx;by_cases h0 : len = 0
 ·exact aaw
 obtain ⟨b,o,spot⟩:=a;obtain ⟨cs0,k1,k2⟩:=hx 0 af;have hspot : spot = none:=by
  exact aat
 subst hspot;have hblt : b < w.heap.size:=by
  exact aav
 have each : ∀ i,i < len → ∃ v : Vd,RAt w b (o + i * 8) (vdF v):=fun i hi => by
  obtain ⟨cs,k1,k2⟩:=hx i af;obtain ⟨_,hl0,hc0⟩:=World.cells?_some k1;refine oA (fun j hj => ?_) k2;exact aaA
 have hin : Inhabited Vd:=⟨⟨⟨#[]⟩,0,⟨#[]⟩,⟨#[]⟩,false,⟨#[]⟩,false,[]⟩⟩;exact aaB

theorem om {b o n : Nat} {cs : List Value} {x : DataW H × List MemPlace} (hc : ∀ i,i < 5 → w.cell? ⟨b,o + i,none⟩ = cs[i]?) (h : DataW.trod enc Tryz.prog w base spare held n 106 cs = some x) : ∃ v : Xd,RAt w b o (xdF v):=by
 obtain ⟨m,hl,hf⟩:=dR Tryz.underlying106 av av h;obtain ⟨c0,y0,e0,t0⟩:=hf 0 _ rfl;obtain ⟨b0,q0,-,s0⟩:=DataW.trod_string Tryz.underlying9 t0;obtain rfl : c0 = .string b0:=by simpa using q0
 obtain ⟨c1,y1,e1,t1⟩:=hf 1 _ rfl;obtain ⟨b1,q1,-,s1⟩:=DataW.trod_int Tryz.underlying2 t1;obtain rfl : c1 = .int .i64 b1:=by simpa using q1
 obtain ⟨c2,y2,e2,t2⟩:=hf 2 _ rfl;obtain ⟨b2,q2,-,s2⟩:=DataW.trod_string Tryz.underlying9 t2;obtain rfl : c2 = .string b2:=by simpa using q2
 obtain ⟨c3,y3,e3,t3⟩:=hf 3 _ rfl;obtain ⟨b3,q3,-⟩:=DataW.trod_bool Tryz.underlying4 t3;obtain rfl : c3 = .bool b3:=by simpa using q3
 obtain ⟨c4,y4,e4,t4⟩:=hf 4 _ rfl;obtain ⟨b4,q4,-,s4⟩:=DataW.trod_string Tryz.underlying9 t4;obtain rfl : c4 = .string b4:=by simpa using q4
 unfold maxLen at s0 s2 s4;refine ⟨⟨b0,b1,b2,b3,b4⟩,fun i f hi => ?_⟩;rcases i with _ | _ | _ | _ | _ | i
 ·exact aax
 ·cases hi;exact ⟨_,(hc 1 af).trans e1,rfl⟩
 ·exact aaT
 ·cases hi;exact ⟨_,(hc 3 af).trans e3,rfl⟩
 ·cases hi;exact ⟨_,(hc 4 af).trans e4,rfl,show b4.size ≤ _ by omega⟩
 ·first | (cases hi;done) | (simp [xdF] at hi;done)

theorem yP {n : Nat} {c : Value} {y : DataW H × List MemPlace} (h : DataW.trod enc Tryz.prog w base spare held n 25 [c] = some y) : ∃ a len cap,∃ xs : List Xd,c = .slice a len cap ∧ aI w a len cap 5 (xs.map xdF):=by
 rcases open_slice Tryz.underlying25 h with ⟨hcs,_⟩ | ⟨a,len,cap,m,n',D,Pl,hcs,hb,hl,hm,hmm,_,hx⟩
 ·exact aar
 obtain ⟨hlm,hm'⟩:=aaj;have hce : Tryz.prog.cellsOf 106 = 5:=aae
 rw [hce] at hx;by_cases h0 : len = 0
 ·exact aaw
 obtain ⟨b,o,spot⟩:=a;obtain ⟨cs0,k1,k2⟩:=hx 0 af;have hspot : spot = none:=by
  exact aat
 subst hspot;have hblt : b < w.heap.size:=by
  exact aav
 have each : ∀ i,i < len → ∃ v : Xd,RAt w b (o + i * 5) (xdF v):=fun i hi => by
  obtain ⟨cs,k1,k2⟩:=hx i af;obtain ⟨_,hl0,hc0⟩:=World.cells?_some k1;refine om (fun j hj => ?_) k2;exact aaA
 have hin : Inhabited Xd:=⟨⟨⟨#[]⟩,0,⟨#[]⟩,false,⟨#[]⟩⟩⟩;exact aaB

theorem qe {b o n : Nat} {cs : List Value} {x : DataW H × List MemPlace} (hc : ∀ i,i < 6 → w.cell? ⟨b,o + i,none⟩ = cs[i]?) (h : DataW.trod enc Tryz.prog w base spare held n 108 cs = some x) : ∃ v : Pd,RAt w b o (pdF v):=by
 obtain ⟨m,hl,hf⟩:=dR Tryz.underlying108 av av h;obtain ⟨c0,y0,e0,t0⟩:=hf 0 _ rfl;obtain ⟨b0,q0,-,s0⟩:=DataW.trod_string Tryz.underlying9 t0;obtain rfl : c0 = .string b0:=by simpa using q0
 obtain ⟨c1,y1,e1,t1⟩:=hf 1 _ rfl;obtain ⟨b1,q1,-,s1⟩:=DataW.trod_int Tryz.underlying2 t1;obtain rfl : c1 = .int .i64 b1:=by simpa using q1
 obtain ⟨c2,y2,e2,t2⟩:=hf 2 _ rfl;obtain ⟨b2,q2,-,s2⟩:=DataW.trod_string Tryz.underlying9 t2;obtain rfl : c2 = .string b2:=by simpa using q2
 obtain ⟨c3,y3,e3,t3⟩:=hf 3 _ rfl;obtain ⟨b3,l3,p3,zz,rfl,r3⟩:=eC Tryz.underlying63 Tryz.underlying9 av t3;obtain ⟨c4,y4,e4,t4⟩:=hf 4 _ rfl;obtain ⟨b4,q4,-,s4⟩:=DataW.trod_string Tryz.underlying9 t4;obtain rfl : c4 = .string b4:=by simpa using q4
 obtain ⟨c5,y5,e5,t5⟩:=hf 5 _ rfl;obtain ⟨b5,q5,-,s5⟩:=DataW.trod_int Tryz.underlying2 t5;obtain rfl : c5 = .int .i64 b5:=by simpa using q5
 unfold maxLen at s0 s2 s4;refine ⟨⟨b0,b1,b2,zz,b4,b5⟩,fun i f hi => ?_⟩;rcases i with _ | _ | _ | _ | _ | _ | i
 ·exact aax
 ·cases hi;exact ⟨_,(hc 1 af).trans e1,rfl⟩
 ·exact aaT
 ·cases hi;exact ⟨_,(hc 3 af).trans e3,b3,l3,p3,rfl,r3⟩
 ·cases hi;exact ⟨_,(hc 4 af).trans e4,rfl,show b4.size ≤ _ by omega⟩
 ·cases hi;exact ⟨_,(hc 5 af).trans e5,rfl⟩
 ·first | (cases hi;done) | (simp [pdF] at hi;done)

theorem yR {n : Nat} {c : Value} {y : DataW H × List MemPlace} (h : DataW.trod enc Tryz.prog w base spare held n 26 [c] = some y) : ∃ a len cap,∃ xs : List Pd,c = .slice a len cap ∧ aI w a len cap 6 (xs.map pdF):=by
 rcases open_slice Tryz.underlying26 h with ⟨hcs,_⟩ | ⟨a,len,cap,m,n',D,Pl,hcs,hb,hl,hm,hmm,_,hx⟩
 ·exact aar
 obtain ⟨hlm,hm'⟩:=aaj;have hce : Tryz.prog.cellsOf 108 = 6:=aae
 rw [hce] at hx;by_cases h0 : len = 0
 ·exact aaw
 obtain ⟨b,o,spot⟩:=a;obtain ⟨cs0,k1,k2⟩:=hx 0 af;have hspot : spot = none:=by
  exact aat
 subst hspot;have hblt : b < w.heap.size:=by
  exact aav
 have each : ∀ i,i < len → ∃ v : Pd,RAt w b (o + i * 6) (pdF v):=fun i hi => by
  obtain ⟨cs,k1,k2⟩:=hx i af;obtain ⟨_,hl0,hc0⟩:=World.cells?_some k1;refine qe (fun j hj => ?_) k2;exact aaA
 have hin : Inhabited Pd:=⟨⟨⟨#[]⟩,0,⟨#[]⟩,[],⟨#[]⟩,0⟩⟩;exact aaB

end

end Rc
end Go.Proofs.YtdoldaceehdifaaGreatDoor

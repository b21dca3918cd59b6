import Derived.Test.YtcogpoamhflgjaaGreatDoorP1
import Derived.Laws.AppendOwn
import Derived.Laws.AppendOwnNone
import Derived.Deep.AppendLies
import Derived.Deep.RegionWith
/-
 Node: the laws' copy of a list of them.
-/
set_option maxRecDepth 100000
set_option maxHeartbeats 12800000
namespace Go.Proofs.YtcogpoamhflgjaaGreatDoor
open Go.RowKit
namespace Rc
open Mk

theorem infond : (Tryz.prog.info? 120).map (fun i => (i.zero,i.size,i.bytes)) = some (some (.agg #[.string ⟨#[]⟩,.string ⟨#[]⟩,.int .i64 0,.int .i64 0,.int .i64 0,.bool false,.slice none 0 0]),7,88):=by kernel_rfl
def ndZ : Nd:=⟨⟨#[]⟩,⟨#[]⟩,0,0,0,false,[]⟩

theorem madend {w : World} {g len : Nat} (h : w.heap[g]? = some (.cells (madeCells #[.string ⟨#[]⟩,.string ⟨#[]⟩,.int .i64 0,.int .i64 0,.int .i64 0,.bool false,.slice none 0 0] (len * 7)) 120 (0,0))) (hl : len ≤ 1048576) (S : Nat → Prop) (hS : S g) :
  ROwn w (some ⟨g,0,none⟩) len len 7 120 ((List.replicate len ndZ).map ndF) S:=by
 refine ⟨by simp,Nat.le_refl _,by omega,.inr ⟨g,_,fun _ _ => 0,rfl,h,hS,?_,?_,?_⟩⟩
 ·intro j r hr;rw [List.getElem?_map] at hr;obtain ⟨x,hx,rfl⟩:=Option.map_eq_some_iff.1 hr
  rfl
 ·intro j r hr i f hi;rw [List.getElem?_map] at hr;obtain ⟨x,hx,rfl⟩:=Option.map_eq_some_iff.1 hr
  have hj : j < len:=by have:=(List.getElem?_eq_some_iff.1 hx).1;simpa using this
  obtain rfl : x = ndZ:=by
   obtain ⟨h1,h2⟩:=List.getElem?_eq_some_iff.1 hx
   simpa using h2.symm
  have him : i < 7:=(List.getElem?_eq_some_iff.1 hi).1
  have hlt : j * 7 + i < len * 7:=by omega
  have hcell : (madeCells #[.string ⟨#[]⟩,.string ⟨#[]⟩,.int .i64 0,.int .i64 0,.int .i64 0,.bool false,.slice none 0 0] (len * 7))[j * 7 + i]? = some (#[.string ⟨#[]⟩,.string ⟨#[]⟩,.int .i64 0,.int .i64 0,.int .i64 0,.bool false,.slice none 0 0][i]!):=by
   unfold madeCells;rw [Array.getElem?_map,Array.getElem?_range];rw [if_pos hlt]
   have : (j * 7 + i) % 7 = i:=by omega
   simp [this]
  refine ⟨_,hcell,?_⟩
  rcases i with _ | _ | _ | _ | _ | _ | _ | i
  ·cases hi;exact ⟨rfl,by decide⟩
  ·cases hi;exact ⟨rfl,by decide⟩
  ·cases hi;exact rfl
  ·cases hi;exact rfl
  ·cases hi;exact rfl
  ·cases hi;exact rfl
  ·cases hi;exact ⟨none,0,0,rfl,rfl,Nat.le_refl _,by decide,fun j x hx => by simp [ndZ] at hx,.inl rfl⟩
  ·omega
 ·intro j r i zs j' r' i' zs' hr hi hz
  exfalso
  rw [List.getElem?_map] at hr;obtain ⟨x,hx,rfl⟩:=Option.map_eq_some_iff.1 hr
  obtain rfl : x = ndZ:=by
   obtain ⟨h1,h2⟩:=List.getElem?_eq_some_iff.1 hx
   simpa using h2.symm
  have him : i < 7:=(List.getElem?_eq_some_iff.1 hi).1
  rcases i with _ | _ | _ | _ | _ | _ | _ | i
  ·cases hi
  ·cases hi
  ·cases hi
  ·cases hi
  ·cases hi
  ·cases hi
  ·cases hi;exact hz rfl
  ·omega

theorem tond_any (a : Option Addr) (len cap : Nat) (xs : List Nd) (w : World) (hr : RRow w a len cap 7 (xs.map ndF)) (hl : len ≤ 1048576) (hf : ∀ (j : Nat) x,xs[j]? = some x → x.zs.length ≤ 1048576) :
  Calls Tryz.prog 39 #[.slice a len cap] w fun e w' => e = .returned (.slice (some ⟨w.heap.size,0,none⟩) len len) ∧ ROwn w' (some ⟨w.heap.size,0,none⟩) len len 7 120 (xs.map ndF) (fun k => w.heap.size ≤ k) ∧ Below w.heap.size w w':=by
 have HR:=hidK hr
 have hvl : xs.length = len:=by simpa using hr.1
 have HF:=hidK hf;clear hr hf;obtain ⟨i0,hi,hz0,hz1,hz2⟩:=info_parts infond
 go_enter Tryz.func39,Tryz.ntmps39
 go_wp2_with (at_make;refine wpList_make_full _ rfl _ _ 34 rfl w.heap.size 120 i0 (.agg #[.string ⟨#[]⟩,.string ⟨#[]⟩,.int .i64 0,.int .i64 0,.int .i64 0,.bool false,.slice none 0 0]) 7 Tryz.underlying34 hi hz0 hz1 _ _ _ _ len rfl rfl (by omega) (by omega) (by rw [hz2];omega) (by unfold maxLen;omega) (Nat.le_refl _) ?_)
 intro w1 hown hgrow;have hnx1 : Below w.heap.size w w1:=(Below.refl _ _).grown hgrow (Nat.le_refl _) (fun k hk => by cases hk);have HB : Hid (Below w.heap.size w w1):=hnx1
 have hc1 : w1.heap[w.heap.size]? = some (.cells (madeCells #[.string ⟨#[]⟩,.string ⟨#[]⟩,.int .i64 0,.int .i64 0,.int .i64 0,.bool false,.slice none 0 0] (len * 7)) 120 (0,0)):=by
  obtain ⟨h1,h2⟩:=hown
  rcases h2 with ⟨h3,_⟩ | ⟨g',cap',cur,hv,hB,hh,_,_,hsz,htk⟩
  ·cases h3
  ·simp only [Value.slice.injEq,Option.some.injEq,Addr.mk.injEq] at hv;obtain ⟨⟨rfl,_,_⟩,_,rfl⟩:=hv;rw [List.take_of_length_le (by simp [hsz])] at htk
   have : cur = madeCells #[.string ⟨#[]⟩,.string ⟨#[]⟩,.int .i64 0,.int .i64 0,.int .i64 0,.bool false,.slice none 0 0] (len * 7):=by apply Array.ext';simpa using htk
   rw [this] at hh
   simpa using hh
 have HP : Hid (ROwn w1 (some ⟨w.heap.size,0,none⟩) len len 7 120 ((xs.take 0 ++ (List.replicate len ndZ).drop 0).map ndF) (fun k => w.heap.size ≤ k)):=by
  have:=madend hc1 hl (fun k => w.heap.size ≤ k) (Nat.le_refl _)
  simpa [Hid] using this
 have hZl : xs.length = (List.replicate len ndZ).length:=by simpa using hvl
 clear hown hgrow hi hz0 hz1 hz2 hnx1 hc1
 go_wp2
 go_loopw [4] (fun i wr => ∃ k : Nat,k ≤ len ∧ i = .int .i64 k ∧ Hid (ROwn wr (some ⟨w.heap.size,0,none⟩) len len 7 120 ((xs.take k ++ (List.replicate len ndZ).drop k).map ndF) (fun k => w.heap.size ≤ k)) ∧ Hid (Below w.heap.size w wr)) (fun i _ => len - (intOf i).toNat)
 case atStart => exact ⟨0,by omega,rfl,HP,HB⟩
 case round =>
  obtain ⟨k,hk,rfl,HP,HB⟩:=hrel
  by_cases hlt : k < len
  ·obtain ⟨b,o,v,rfl,hb,hv,hat⟩:=nd_at (HR.out.below HB.out) hlt;obtain ⟨va,vl,vc,hvr,z0,z1,c0,c1,c2,c3,c4,c5,c6⟩:=nd_cells hat;have HV:=hidK hv;have Hz0:=hidK z0;have Hz1:=hidK z1;have HT:=hidK hvr
   have hvl2 : vl ≤ 1048576:=by have:=HF.out k v hv;rw [hvr.1] at this;exact this
   have hvz : v.zs.length = vl:=hvr.1;have HVZ:=hidK hvz;clear hvr hvz;clear hat hv z0 z1
   have hzk : ((xs.take k ++ (List.replicate len ndZ).drop k).map ndF)[k]? = some (ndF ndZ):=by
    rw [List.getElem?_map,take_drop_at hZl (by omega),List.getElem?_replicate,if_pos hlt]
    rfl
   obtain ⟨g,hg,hs⟩:=HP.out.st (KeptS.refl _ _) hzk
   cases hg
   have HS:=hidK hs;clear hs hzk HP;go_wp2_with fail;refine (toNode_any v.n v.z v.c v.s v.u v.d va vl vc v.zs _ HT.out hvl2).mono ?_;rintro e w2 ⟨rfl,hG,hb2⟩;have HB2:=upB HB hb2;have h1 : StJ w.heap.size 7 120 (fun k => w.heap.size ≤ k) (fun k => wr.heap.size ≤ k) wr w2 ((xs.take k ++ (List.replicate len ndZ).drop k).map ndF) k [.s ndZ.n,.s ndZ.z,.i ndZ.c,.i ndZ.s,.i ndZ.u,.b ndZ.d,.l ndZ.zs]:=HS.out.fresh hb2
   have hL : LOwn w2 (wr.heap.size + 1 + 1 + 1) (fun k => w.heap.size ≤ k) w.heap.size v.zs (.slice (some ⟨wr.heap.size + 1 + 1 + 1,0,none⟩) vl vl):=by
    have h9:=HB.out.size;have hgl:=lt_of_some (HS.out.own.choose_spec.choose_spec.1.blk);refine ⟨_,_,_,rfl,HVZ.out,Nat.le_refl _,by omega,HT.out.2.2.2.1,.inr ⟨rfl,by show w.heap.size ≤ _;omega,by omega,_,hG,fun j x hx => ?_⟩⟩
    simp [hx]
   have HL:=hidK hL;clear hG hL;obtain ⟨q0,e0⟩:=h1.cell (i:=0) rfl;have f0:=h1.fro (k * 7);obtain ⟨q1,e1⟩:=h1.cell (i:=1) rfl;have f1:=h1.fro (k * 7 + 1);obtain ⟨q2,e2⟩:=h1.cell (i:=2) rfl;have f2:=h1.fro (k * 7 + 2);obtain ⟨q3,e3⟩:=h1.cell (i:=3) rfl;have f3:=h1.fro (k * 7 + 3);obtain ⟨q4,e4⟩:=h1.cell (i:=4) rfl;have f4:=h1.fro (k * 7 + 4);obtain ⟨q5,e5⟩:=h1.cell (i:=5) rfl;have f5:=h1.fro (k * 7 + 5);obtain ⟨q6,e6⟩:=h1.cell (i:=6) rfl;have f6:=h1.fro (k * 7 + 6);rw [Nat.add_zero] at e0;have HZ:=hidK ((((((((h1).setS (i:=0) rfl v.n Hz0.out).setS (i:=1) rfl v.z Hz1.out).setI (i:=2) rfl v.c).setI (i:=3) rfl v.s).setI (i:=4) rfl v.u).setB (i:=5) rfl v.d).setL (i:=6) rfl v.zs (fun _ => by show wr.heap.size ≤ _;omega) (Fv.Own.set_cell (u:=.l v.zs) (Fv.Own.set_cell (u:=.l v.zs) (Fv.Own.set_cell (u:=.l v.zs) (Fv.Own.set_cell (u:=.l v.zs) (Fv.Own.set_cell (u:=.l v.zs) (Fv.Own.set_cell (u:=.l v.zs) (HL.out))))))));clear h1 hb2 c0 c1 c2 c3 c4 c5 c6 hb;go_wp2_with fail;refine ⟨⟨k + 1,by omega,by go_num,?_,set_below (Nat.le_refl _) (set_below (Nat.le_refl _) (set_below (Nat.le_refl _) (set_below (Nat.le_refl _) (set_below (Nat.le_refl _) (set_below (Nat.le_refl _) (set_below (Nat.le_refl _) (HB2.out)))))))⟩,by simp [intOf];omega⟩;obtain ⟨⟨cur,H,h2,-⟩,-,-⟩:=HZ.out
   have h3 : (((xs.take k ++ (List.replicate len ndZ).drop k).map ndF).set k (ndF v)) = (xs.take (k + 1) ++ (List.replicate len ndZ).drop (k + 1)).map ndF:=by
    rw [← List.map_set,take_drop_set hZl HV.out]
   have h4 : ROwnAt _ w.heap.size 7 120 (((xs.take k ++ (List.replicate len ndZ).drop k).map ndF).set k (ndF v)) (fun k => w.heap.size ≤ k) cur H:=h2;rw [h3] at h4;exact ⟨by rw [List.length_map,take_drop_len hZl (by omega)];simp,Nat.le_refl _,by omega,.inr ⟨_,cur,H,rfl,h4⟩⟩
  ·obtain rfl : len = k:=by omega
   go_wp2
   go_ret;refine ⟨rfl,?_,HB.out⟩;have h5:=HP.out;rw [List.take_of_length_le (by omega),List.drop_of_length_le (by simp),List.append_nil] at h5;exact h5

theorem infokd : (Tryz.prog.info? 119).map (fun i => (i.zero,i.size,i.bytes)) = some (some (.agg #[.string ⟨#[]⟩,.bool false,.bool false,.string ⟨#[]⟩]),4,40):=by kernel_rfl
def kdZ : Kd:=⟨⟨#[]⟩,false,false,⟨#[]⟩⟩

theorem madekd {w : World} {g len : Nat} (h : w.heap[g]? = some (.cells (madeCells #[.string ⟨#[]⟩,.bool false,.bool false,.string ⟨#[]⟩] (len * 4)) 119 (0,0))) (hl : len ≤ 1048576) (S : Nat → Prop) (hS : S g) :
  ROwn w (some ⟨g,0,none⟩) len len 4 119 ((List.replicate len kdZ).map kdF) S:=by
 refine ⟨by simp,Nat.le_refl _,by omega,.inr ⟨g,_,fun _ _ => 0,rfl,h,hS,?_,?_,?_⟩⟩
 ·intro j r hr;rw [List.getElem?_map] at hr;obtain ⟨x,hx,rfl⟩:=Option.map_eq_some_iff.1 hr
  rfl
 ·intro j r hr i f hi;rw [List.getElem?_map] at hr;obtain ⟨x,hx,rfl⟩:=Option.map_eq_some_iff.1 hr
  have hj : j < len:=by have:=(List.getElem?_eq_some_iff.1 hx).1;simpa using this
  obtain rfl : x = kdZ:=by
   obtain ⟨h1,h2⟩:=List.getElem?_eq_some_iff.1 hx
   simpa using h2.symm
  have him : i < 4:=(List.getElem?_eq_some_iff.1 hi).1
  have hlt : j * 4 + i < len * 4:=by omega
  have hcell : (madeCells #[.string ⟨#[]⟩,.bool false,.bool false,.string ⟨#[]⟩] (len * 4))[j * 4 + i]? = some (#[.string ⟨#[]⟩,.bool false,.bool false,.string ⟨#[]⟩][i]!):=by
   unfold madeCells;rw [Array.getElem?_map,Array.getElem?_range];rw [if_pos hlt]
   have : (j * 4 + i) % 4 = i:=by omega
   simp [this]
  refine ⟨_,hcell,?_⟩
  rcases i with _ | _ | _ | _ | i
  ·cases hi;exact ⟨rfl,by decide⟩
  ·cases hi;exact rfl
  ·cases hi;exact rfl
  ·cases hi;exact ⟨rfl,by decide⟩
  ·omega
 ·intro j r i zs j' r' i' zs' hr hi hz
  exfalso
  rw [List.getElem?_map] at hr;obtain ⟨x,hx,rfl⟩:=Option.map_eq_some_iff.1 hr
  obtain rfl : x = kdZ:=by
   obtain ⟨h1,h2⟩:=List.getElem?_eq_some_iff.1 hx
   simpa using h2.symm
  have him : i < 4:=(List.getElem?_eq_some_iff.1 hi).1
  rcases i with _ | _ | _ | _ | i
  ·cases hi
  ·cases hi
  ·cases hi
  ·cases hi
  ·omega

theorem tokd_any (a : Option Addr) (len cap : Nat) (xs : List Kd) (w : World) (hr : RRow w a len cap 4 (xs.map kdF)) (hl : len ≤ 1048576) :
  Calls Tryz.prog 40 #[.slice a len cap] w fun e w' => e = .returned (.slice (some ⟨w.heap.size,0,none⟩) len len) ∧ ROwn w' (some ⟨w.heap.size,0,none⟩) len len 4 119 (xs.map kdF) (fun k => w.heap.size ≤ k) ∧ Below w.heap.size w w':=by
 have HR:=hidK hr
 have hvl : xs.length = len:=by simpa using hr.1
 skip
 clear hr;obtain ⟨i0,hi,hz0,hz1,hz2⟩:=info_parts infokd
 go_enter Tryz.func40,Tryz.ntmps40
 go_wp2_with (at_make;refine wpList_make_full _ rfl _ _ 35 rfl w.heap.size 119 i0 (.agg #[.string ⟨#[]⟩,.bool false,.bool false,.string ⟨#[]⟩]) 4 Tryz.underlying35 hi hz0 hz1 _ _ _ _ len rfl rfl (by omega) (by omega) (by rw [hz2];omega) (by unfold maxLen;omega) (Nat.le_refl _) ?_)
 intro w1 hown hgrow;have hnx1 : Below w.heap.size w w1:=(Below.refl _ _).grown hgrow (Nat.le_refl _) (fun k hk => by cases hk);have HB : Hid (Below w.heap.size w w1):=hnx1
 have hc1 : w1.heap[w.heap.size]? = some (.cells (madeCells #[.string ⟨#[]⟩,.bool false,.bool false,.string ⟨#[]⟩] (len * 4)) 119 (0,0)):=by
  obtain ⟨h1,h2⟩:=hown
  rcases h2 with ⟨h3,_⟩ | ⟨g',cap',cur,hv,hB,hh,_,_,hsz,htk⟩
  ·cases h3
  ·simp only [Value.slice.injEq,Option.some.injEq,Addr.mk.injEq] at hv;obtain ⟨⟨rfl,_,_⟩,_,rfl⟩:=hv;rw [List.take_of_length_le (by simp [hsz])] at htk
   have : cur = madeCells #[.string ⟨#[]⟩,.bool false,.bool false,.string ⟨#[]⟩] (len * 4):=by apply Array.ext';simpa using htk
   rw [this] at hh
   simpa using hh
 have HP : Hid (ROwn w1 (some ⟨w.heap.size,0,none⟩) len len 4 119 ((xs.take 0 ++ (List.replicate len kdZ).drop 0).map kdF) (fun k => w.heap.size ≤ k)):=by
  have:=madekd hc1 hl (fun k => w.heap.size ≤ k) (Nat.le_refl _)
  simpa [Hid] using this
 have hZl : xs.length = (List.replicate len kdZ).length:=by simpa using hvl
 clear hown hgrow hi hz0 hz1 hz2 hnx1 hc1
 go_wp2
 go_loopw [4] (fun i wr => ∃ k : Nat,k ≤ len ∧ i = .int .i64 k ∧ Hid (ROwn wr (some ⟨w.heap.size,0,none⟩) len len 4 119 ((xs.take k ++ (List.replicate len kdZ).drop k).map kdF) (fun k => w.heap.size ≤ k)) ∧ Hid (Below w.heap.size w wr)) (fun i _ => len - (intOf i).toNat)
 case atStart => exact ⟨0,by omega,rfl,HP,HB⟩
 case round =>
  obtain ⟨k,hk,rfl,HP,HB⟩:=hrel
  by_cases hlt : k < len
  ·obtain ⟨b,o,v,rfl,hb,hv,hat⟩:=kd_at (HR.out.below HB.out) hlt;obtain ⟨z0,z3,c0,c1,c2,c3⟩:=kd_cells hat;have HV:=hidK hv;have Hz0:=hidK z0;have Hz3:=hidK z3;clear hat hv z0 z3
   have hzk : ((xs.take k ++ (List.replicate len kdZ).drop k).map kdF)[k]? = some (kdF kdZ):=by
    rw [List.getElem?_map,take_drop_at hZl (by omega),List.getElem?_replicate,if_pos hlt]
    rfl
   obtain ⟨g,hg,hs⟩:=HP.out.st (KeptS.refl _ _) hzk
   cases hg
   have HS:=hidK hs;clear hs hzk HP;go_wp2_with fail;refine (toClass_any v.n v.x v.y v.z _).mono ?_;rintro e w2 ⟨rfl,hb2⟩;have HB2:=upB HB hb2;have h1 : StJ w.heap.size 4 119 (fun k => w.heap.size ≤ k) (fun k => wr.heap.size ≤ k) wr w2 ((xs.take k ++ (List.replicate len kdZ).drop k).map kdF) k [.s kdZ.n,.b kdZ.x,.b kdZ.y,.s kdZ.z]:=HS.out.fresh hb2;obtain ⟨q0,e0⟩:=h1.cell (i:=0) rfl;have f0:=h1.fro (k * 4);obtain ⟨q1,e1⟩:=h1.cell (i:=1) rfl;have f1:=h1.fro (k * 4 + 1);obtain ⟨q2,e2⟩:=h1.cell (i:=2) rfl;have f2:=h1.fro (k * 4 + 2);obtain ⟨q3,e3⟩:=h1.cell (i:=3) rfl;have f3:=h1.fro (k * 4 + 3);rw [Nat.add_zero] at e0;have HZ:=hidK (((((h1).setS (i:=0) rfl v.n Hz0.out).setB (i:=1) rfl v.x).setB (i:=2) rfl v.y).setS (i:=3) rfl v.z Hz3.out);clear h1 hb2 c0 c1 c2 c3 hb;go_wp2_with fail;refine ⟨⟨k + 1,by omega,by go_num,?_,set_below (Nat.le_refl _) (set_below (Nat.le_refl _) (set_below (Nat.le_refl _) (set_below (Nat.le_refl _) (HB2.out))))⟩,by simp [intOf];omega⟩;obtain ⟨⟨cur,H,h2,-⟩,-,-⟩:=HZ.out
   have h3 : (((xs.take k ++ (List.replicate len kdZ).drop k).map kdF).set k (kdF v)) = (xs.take (k + 1) ++ (List.replicate len kdZ).drop (k + 1)).map kdF:=by
    rw [← List.map_set,take_drop_set hZl HV.out]
   have h4 : ROwnAt _ w.heap.size 4 119 (((xs.take k ++ (List.replicate len kdZ).drop k).map kdF).set k (kdF v)) (fun k => w.heap.size ≤ k) cur H:=h2;rw [h3] at h4;exact ⟨by rw [List.length_map,take_drop_len hZl (by omega)];simp,Nat.le_refl _,by omega,.inr ⟨_,cur,H,rfl,h4⟩⟩
  ·obtain rfl : len = k:=by omega
   go_wp2
   go_ret;refine ⟨rfl,?_,HB.out⟩;have h5:=HP.out;rw [List.take_of_length_le (by omega),List.drop_of_length_le (by simp),List.append_nil] at h5;exact h5

theorem infovd : (Tryz.prog.info? 45).map (fun i => (i.zero,i.size,i.bytes)) = some (some (.agg #[.string ⟨#[]⟩,.int .i64 0,.string ⟨#[]⟩,.string ⟨#[]⟩,.bool false,.string ⟨#[]⟩,.bool false,.slice none 0 0]),8,112):=by kernel_rfl
def vdZ : Vd:=⟨⟨#[]⟩,0,⟨#[]⟩,⟨#[]⟩,false,⟨#[]⟩,false,[]⟩

theorem madevd {w : World} {g len : Nat} (h : w.heap[g]? = some (.cells (madeCells #[.string ⟨#[]⟩,.int .i64 0,.string ⟨#[]⟩,.string ⟨#[]⟩,.bool false,.string ⟨#[]⟩,.bool false,.slice none 0 0] (len * 8)) 45 (0,0))) (hl : len ≤ 1048576) (S : Nat → Prop) (hS : S g) :
  ROwn w (some ⟨g,0,none⟩) len len 8 45 ((List.replicate len vdZ).map vdF) S:=by
 refine ⟨by simp,Nat.le_refl _,by omega,.inr ⟨g,_,fun _ _ => 0,rfl,h,hS,?_,?_,?_⟩⟩
 ·intro j r hr;rw [List.getElem?_map] at hr;obtain ⟨x,hx,rfl⟩:=Option.map_eq_some_iff.1 hr
  rfl
 ·intro j r hr i f hi;rw [List.getElem?_map] at hr;obtain ⟨x,hx,rfl⟩:=Option.map_eq_some_iff.1 hr
  have hj : j < len:=by have:=(List.getElem?_eq_some_iff.1 hx).1;simpa using this
  obtain rfl : x = vdZ:=by
   obtain ⟨h1,h2⟩:=List.getElem?_eq_some_iff.1 hx
   simpa using h2.symm
  have him : i < 8:=(List.getElem?_eq_some_iff.1 hi).1
  have hlt : j * 8 + i < len * 8:=by omega
  have hcell : (madeCells #[.string ⟨#[]⟩,.int .i64 0,.string ⟨#[]⟩,.string ⟨#[]⟩,.bool false,.string ⟨#[]⟩,.bool false,.slice none 0 0] (len * 8))[j * 8 + i]? = some (#[.string ⟨#[]⟩,.int .i64 0,.string ⟨#[]⟩,.string ⟨#[]⟩,.bool false,.string ⟨#[]⟩,.bool false,.slice none 0 0][i]!):=by
   unfold madeCells;rw [Array.getElem?_map,Array.getElem?_range];rw [if_pos hlt]
   have : (j * 8 + i) % 8 = i:=by omega
   simp [this]
  refine ⟨_,hcell,?_⟩
  rcases i with _ | _ | _ | _ | _ | _ | _ | _ | i
  ·cases hi;exact ⟨rfl,by decide⟩
  ·cases hi;exact rfl
  ·cases hi;exact ⟨rfl,by decide⟩
  ·cases hi;exact ⟨rfl,by decide⟩
  ·cases hi;exact rfl
  ·cases hi;exact ⟨rfl,by decide⟩
  ·cases hi;exact rfl
  ·cases hi;exact ⟨none,0,0,rfl,rfl,Nat.le_refl _,by decide,fun j x hx => by simp [vdZ] at hx,.inl rfl⟩
  ·omega
 ·intro j r i zs j' r' i' zs' hr hi hz
  exfalso
  rw [List.getElem?_map] at hr;obtain ⟨x,hx,rfl⟩:=Option.map_eq_some_iff.1 hr
  obtain rfl : x = vdZ:=by
   obtain ⟨h1,h2⟩:=List.getElem?_eq_some_iff.1 hx
   simpa using h2.symm
  have him : i < 8:=(List.getElem?_eq_some_iff.1 hi).1
  rcases i with _ | _ | _ | _ | _ | _ | _ | _ | i
  ·cases hi
  ·cases hi
  ·cases hi
  ·cases hi
  ·cases hi
  ·cases hi
  ·cases hi
  ·cases hi;exact hz rfl
  ·omega

theorem tovd_any (a : Option Addr) (len cap : Nat) (xs : List Vd) (w : World) (hr : RRow w a len cap 8 (xs.map vdF)) (hl : len ≤ 1048576) (hf : ∀ (j : Nat) x,xs[j]? = some x → x.zs.length ≤ 1048576) :
  Calls Tryz.prog 41 #[.slice a len cap] w fun e w' => e = .returned (.slice (some ⟨w.heap.size,0,none⟩) len len) ∧ ROwn w' (some ⟨w.heap.size,0,none⟩) len len 8 45 (xs.map vdF) (fun k => w.heap.size ≤ k) ∧ Below w.heap.size w w':=by
 have HR:=hidK hr
 have hvl : xs.length = len:=by simpa using hr.1
 have HF:=hidK hf;clear hr hf;obtain ⟨i0,hi,hz0,hz1,hz2⟩:=info_parts infovd
 go_enter Tryz.func41,Tryz.ntmps41
 go_wp2_with (at_make;refine wpList_make_full _ rfl _ _ 36 rfl w.heap.size 45 i0 (.agg #[.string ⟨#[]⟩,.int .i64 0,.string ⟨#[]⟩,.string ⟨#[]⟩,.bool false,.string ⟨#[]⟩,.bool false,.slice none 0 0]) 8 Tryz.underlying36 hi hz0 hz1 _ _ _ _ len rfl rfl (by omega) (by omega) (by rw [hz2];omega) (by unfold maxLen;omega) (Nat.le_refl _) ?_)
 intro w1 hown hgrow;have hnx1 : Below w.heap.size w w1:=(Below.refl _ _).grown hgrow (Nat.le_refl _) (fun k hk => by cases hk);have HB : Hid (Below w.heap.size w w1):=hnx1
 have hc1 : w1.heap[w.heap.size]? = some (.cells (madeCells #[.string ⟨#[]⟩,.int .i64 0,.string ⟨#[]⟩,.string ⟨#[]⟩,.bool false,.string ⟨#[]⟩,.bool false,.slice none 0 0] (len * 8)) 45 (0,0)):=by
  obtain ⟨h1,h2⟩:=hown
  rcases h2 with ⟨h3,_⟩ | ⟨g',cap',cur,hv,hB,hh,_,_,hsz,htk⟩
  ·cases h3
  ·simp only [Value.slice.injEq,Option.some.injEq,Addr.mk.injEq] at hv;obtain ⟨⟨rfl,_,_⟩,_,rfl⟩:=hv;rw [List.take_of_length_le (by simp [hsz])] at htk
   have : cur = madeCells #[.string ⟨#[]⟩,.int .i64 0,.string ⟨#[]⟩,.string ⟨#[]⟩,.bool false,.string ⟨#[]⟩,.bool false,.slice none 0 0] (len * 8):=by apply Array.ext';simpa using htk
   rw [this] at hh
   simpa using hh
 have HP : Hid (ROwn w1 (some ⟨w.heap.size,0,none⟩) len len 8 45 ((xs.take 0 ++ (List.replicate len vdZ).drop 0).map vdF) (fun k => w.heap.size ≤ k)):=by
  have:=madevd hc1 hl (fun k => w.heap.size ≤ k) (Nat.le_refl _)
  simpa [Hid] using this
 have hZl : xs.length = (List.replicate len vdZ).length:=by simpa using hvl
 clear hown hgrow hi hz0 hz1 hz2 hnx1 hc1
 go_wp2
 go_loopw [4] (fun i wr => ∃ k : Nat,k ≤ len ∧ i = .int .i64 k ∧ Hid (ROwn wr (some ⟨w.heap.size,0,none⟩) len len 8 45 ((xs.take k ++ (List.replicate len vdZ).drop k).map vdF) (fun k => w.heap.size ≤ k)) ∧ Hid (Below w.heap.size w wr)) (fun i _ => len - (intOf i).toNat)
 case atStart => exact ⟨0,by omega,rfl,HP,HB⟩
 case round =>
  obtain ⟨k,hk,rfl,HP,HB⟩:=hrel
  by_cases hlt : k < len
  ·obtain ⟨b,o,v,rfl,hb,hv,hat⟩:=vd_at (HR.out.below HB.out) hlt;obtain ⟨va,vl,vc,hvr,z0,z2,z3,z5,c0,c1,c2,c3,c4,c5,c6,c7⟩:=vd_cells hat;have HV:=hidK hv;have Hz0:=hidK z0;have Hz2:=hidK z2;have Hz3:=hidK z3;have Hz5:=hidK z5;have HT:=hidK hvr
   have hvl2 : vl ≤ 1048576:=by have:=HF.out k v hv;rw [hvr.1] at this;exact this
   have hvz : v.zs.length = vl:=hvr.1;have HVZ:=hidK hvz;clear hvr hvz;clear hat hv z0 z2 z3 z5
   have hzk : ((xs.take k ++ (List.replicate len vdZ).drop k).map vdF)[k]? = some (vdF vdZ):=by
    rw [List.getElem?_map,take_drop_at hZl (by omega),List.getElem?_replicate,if_pos hlt]
    rfl
   obtain ⟨g,hg,hs⟩:=HP.out.st (KeptS.refl _ _) hzk
   cases hg
   have HS:=hidK hs;clear hs hzk HP;go_wp2_with fail;refine (toVolume_any v.n v.c v.z v.k v.x v.m v.y va vl vc v.zs _ HT.out hvl2).mono ?_;rintro e w2 ⟨rfl,hG,hb2⟩;have HB2:=upB HB hb2;have h1 : StJ w.heap.size 8 45 (fun k => w.heap.size ≤ k) (fun k => wr.heap.size ≤ k) wr w2 ((xs.take k ++ (List.replicate len vdZ).drop k).map vdF) k [.s vdZ.n,.i vdZ.c,.s vdZ.z,.s vdZ.k,.b vdZ.x,.s vdZ.m,.b vdZ.y,.l vdZ.zs]:=HS.out.fresh hb2
   have hL : LOwn w2 (wr.heap.size + 1 + 1 + 1) (fun k => w.heap.size ≤ k) w.heap.size v.zs (.slice (some ⟨wr.heap.size + 1 + 1 + 1,0,none⟩) vl vl):=by
    have h9:=HB.out.size;have hgl:=lt_of_some (HS.out.own.choose_spec.choose_spec.1.blk);refine ⟨_,_,_,rfl,HVZ.out,Nat.le_refl _,by omega,HT.out.2.2.2.1,.inr ⟨rfl,by show w.heap.size ≤ _;omega,by omega,_,hG,fun j x hx => ?_⟩⟩
    simp [hx]
   have HL:=hidK hL;clear hG hL;obtain ⟨q0,e0⟩:=h1.cell (i:=0) rfl;have f0:=h1.fro (k * 8);obtain ⟨q1,e1⟩:=h1.cell (i:=1) rfl;have f1:=h1.fro (k * 8 + 1);obtain ⟨q2,e2⟩:=h1.cell (i:=2) rfl;have f2:=h1.fro (k * 8 + 2);obtain ⟨q3,e3⟩:=h1.cell (i:=3) rfl;have f3:=h1.fro (k * 8 + 3);obtain ⟨q4,e4⟩:=h1.cell (i:=4) rfl;have f4:=h1.fro (k * 8 + 4);obtain ⟨q5,e5⟩:=h1.cell (i:=5) rfl;have f5:=h1.fro (k * 8 + 5);obtain ⟨q6,e6⟩:=h1.cell (i:=6) rfl;have f6:=h1.fro (k * 8 + 6);obtain ⟨q7,e7⟩:=h1.cell (i:=7) rfl;have f7:=h1.fro (k * 8 + 7);rw [Nat.add_zero] at e0;have HZ:=hidK (((((((((h1).setS (i:=0) rfl v.n Hz0.out).setI (i:=1) rfl v.c).setS (i:=2) rfl v.z Hz2.out).setS (i:=3) rfl v.k Hz3.out).setB (i:=4) rfl v.x).setS (i:=5) rfl v.m Hz5.out).setB (i:=6) rfl v.y).setL (i:=7) rfl v.zs (fun _ => by show wr.heap.size ≤ _;omega) (Fv.Own.set_cell (u:=.l v.zs) (Fv.Own.set_cell (u:=.l v.zs) (Fv.Own.set_cell (u:=.l v.zs) (Fv.Own.set_cell (u:=.l v.zs) (Fv.Own.set_cell (u:=.l v.zs) (Fv.Own.set_cell (u:=.l v.zs) (Fv.Own.set_cell (u:=.l v.zs) (HL.out)))))))));clear h1 hb2 c0 c1 c2 c3 c4 c5 c6 c7 hb;go_wp2_with fail;refine ⟨⟨k + 1,by omega,by go_num,?_,set_below (Nat.le_refl _) (set_below (Nat.le_refl _) (set_below (Nat.le_refl _) (set_below (Nat.le_refl _) (set_below (Nat.le_refl _) (set_below (Nat.le_refl _) (set_below (Nat.le_refl _) (set_below (Nat.le_refl _) (HB2.out))))))))⟩,by simp [intOf];omega⟩;obtain ⟨⟨cur,H,h2,-⟩,-,-⟩:=HZ.out
   have h3 : (((xs.take k ++ (List.replicate len vdZ).drop k).map vdF).set k (vdF v)) = (xs.take (k + 1) ++ (List.replicate len vdZ).drop (k + 1)).map vdF:=by
    rw [← List.map_set,take_drop_set hZl HV.out]
   have h4 : ROwnAt _ w.heap.size 8 45 (((xs.take k ++ (List.replicate len vdZ).drop k).map vdF).set k (vdF v)) (fun k => w.heap.size ≤ k) cur H:=h2;rw [h3] at h4;exact ⟨by rw [List.length_map,take_drop_len hZl (by omega)];simp,Nat.le_refl _,by omega,.inr ⟨_,cur,H,rfl,h4⟩⟩
  ·obtain rfl : len = k:=by omega
   go_wp2
   go_ret;refine ⟨rfl,?_,HB.out⟩;have h5:=HP.out;rw [List.take_of_length_le (by omega),List.drop_of_length_le (by simp),List.append_nil] at h5;exact h5

theorem infoxd : (Tryz.prog.info? 123).map (fun i => (i.zero,i.size,i.bytes)) = some (some (.agg #[.string ⟨#[]⟩,.int .i64 0,.string ⟨#[]⟩,.bool false,.string ⟨#[]⟩]),5,64):=by kernel_rfl
def xdZ : Xd:=⟨⟨#[]⟩,0,⟨#[]⟩,false,⟨#[]⟩⟩

theorem madexd {w : World} {g len : Nat} (h : w.heap[g]? = some (.cells (madeCells #[.string ⟨#[]⟩,.int .i64 0,.string ⟨#[]⟩,.bool false,.string ⟨#[]⟩] (len * 5)) 123 (0,0))) (hl : len ≤ 1048576) (S : Nat → Prop) (hS : S g) :
  ROwn w (some ⟨g,0,none⟩) len len 5 123 ((List.replicate len xdZ).map xdF) S:=by
 refine ⟨by simp,Nat.le_refl _,by omega,.inr ⟨g,_,fun _ _ => 0,rfl,h,hS,?_,?_,?_⟩⟩
 ·intro j r hr;rw [List.getElem?_map] at hr;obtain ⟨x,hx,rfl⟩:=Option.map_eq_some_iff.1 hr
  rfl
 ·intro j r hr i f hi;rw [List.getElem?_map] at hr;obtain ⟨x,hx,rfl⟩:=Option.map_eq_some_iff.1 hr
  have hj : j < len:=by have:=(List.getElem?_eq_some_iff.1 hx).1;simpa using this
  obtain rfl : x = xdZ:=by
   obtain ⟨h1,h2⟩:=List.getElem?_eq_some_iff.1 hx
   simpa using h2.symm
  have him : i < 5:=(List.getElem?_eq_some_iff.1 hi).1
  have hlt : j * 5 + i < len * 5:=by omega
  have hcell : (madeCells #[.string ⟨#[]⟩,.int .i64 0,.string ⟨#[]⟩,.bool false,.string ⟨#[]⟩] (len * 5))[j * 5 + i]? = some (#[.string ⟨#[]⟩,.int .i64 0,.string ⟨#[]⟩,.bool false,.string ⟨#[]⟩][i]!):=by
   unfold madeCells;rw [Array.getElem?_map,Array.getElem?_range];rw [if_pos hlt]
   have : (j * 5 + i) % 5 = i:=by omega
   simp [this]
  refine ⟨_,hcell,?_⟩
  rcases i with _ | _ | _ | _ | _ | i
  ·cases hi;exact ⟨rfl,by decide⟩
  ·cases hi;exact rfl
  ·cases hi;exact ⟨rfl,by decide⟩
  ·cases hi;exact rfl
  ·cases hi;exact ⟨rfl,by decide⟩
  ·omega
 ·intro j r i zs j' r' i' zs' hr hi hz
  exfalso
  rw [List.getElem?_map] at hr;obtain ⟨x,hx,rfl⟩:=Option.map_eq_some_iff.1 hr
  obtain rfl : x = xdZ:=by
   obtain ⟨h1,h2⟩:=List.getElem?_eq_some_iff.1 hx
   simpa using h2.symm
  have him : i < 5:=(List.getElem?_eq_some_iff.1 hi).1
  rcases i with _ | _ | _ | _ | _ | i
  ·cases hi
  ·cases hi
  ·cases hi
  ·cases hi
  ·cases hi
  ·omega

theorem toxd_any (a : Option Addr) (len cap : Nat) (xs : List Xd) (w : World) (hr : RRow w a len cap 5 (xs.map xdF)) (hl : len ≤ 1048576) :
  Calls Tryz.prog 42 #[.slice a len cap] w fun e w' => e = .returned (.slice (some ⟨w.heap.size,0,none⟩) len len) ∧ ROwn w' (some ⟨w.heap.size,0,none⟩) len len 5 123 (xs.map xdF) (fun k => w.heap.size ≤ k) ∧ Below w.heap.size w w':=by
 have HR:=hidK hr
 have hvl : xs.length = len:=by simpa using hr.1
 skip
 clear hr;obtain ⟨i0,hi,hz0,hz1,hz2⟩:=info_parts infoxd
 go_enter Tryz.func42,Tryz.ntmps42
 go_wp2_with (at_make;refine wpList_make_full _ rfl _ _ 37 rfl w.heap.size 123 i0 (.agg #[.string ⟨#[]⟩,.int .i64 0,.string ⟨#[]⟩,.bool false,.string ⟨#[]⟩]) 5 Tryz.underlying37 hi hz0 hz1 _ _ _ _ len rfl rfl (by omega) (by omega) (by rw [hz2];omega) (by unfold maxLen;omega) (Nat.le_refl _) ?_)
 intro w1 hown hgrow;have hnx1 : Below w.heap.size w w1:=(Below.refl _ _).grown hgrow (Nat.le_refl _) (fun k hk => by cases hk);have HB : Hid (Below w.heap.size w w1):=hnx1
 have hc1 : w1.heap[w.heap.size]? = some (.cells (madeCells #[.string ⟨#[]⟩,.int .i64 0,.string ⟨#[]⟩,.bool false,.string ⟨#[]⟩] (len * 5)) 123 (0,0)):=by
  obtain ⟨h1,h2⟩:=hown
  rcases h2 with ⟨h3,_⟩ | ⟨g',cap',cur,hv,hB,hh,_,_,hsz,htk⟩
  ·cases h3
  ·simp only [Value.slice.injEq,Option.some.injEq,Addr.mk.injEq] at hv;obtain ⟨⟨rfl,_,_⟩,_,rfl⟩:=hv;rw [List.take_of_length_le (by simp [hsz])] at htk
   have : cur = madeCells #[.string ⟨#[]⟩,.int .i64 0,.string ⟨#[]⟩,.bool false,.string ⟨#[]⟩] (len * 5):=by apply Array.ext';simpa using htk
   rw [this] at hh
   simpa using hh
 have HP : Hid (ROwn w1 (some ⟨w.heap.size,0,none⟩) len len 5 123 ((xs.take 0 ++ (List.replicate len xdZ).drop 0).map xdF) (fun k => w.heap.size ≤ k)):=by
  have:=madexd hc1 hl (fun k => w.heap.size ≤ k) (Nat.le_refl _)
  simpa [Hid] using this
 have hZl : xs.length = (List.replicate len xdZ).length:=by simpa using hvl
 clear hown hgrow hi hz0 hz1 hz2 hnx1 hc1
 go_wp2
 go_loopw [4] (fun i wr => ∃ k : Nat,k ≤ len ∧ i = .int .i64 k ∧ Hid (ROwn wr (some ⟨w.heap.size,0,none⟩) len len 5 123 ((xs.take k ++ (List.replicate len xdZ).drop k).map xdF) (fun k => w.heap.size ≤ k)) ∧ Hid (Below w.heap.size w wr)) (fun i _ => len - (intOf i).toNat)
 case atStart => exact ⟨0,by omega,rfl,HP,HB⟩
 case round =>
  obtain ⟨k,hk,rfl,HP,HB⟩:=hrel
  by_cases hlt : k < len
  ·obtain ⟨b,o,v,rfl,hb,hv,hat⟩:=xd_at (HR.out.below HB.out) hlt;obtain ⟨z0,z2,z4,c0,c1,c2,c3,c4⟩:=xd_cells hat;have HV:=hidK hv;have Hz0:=hidK z0;have Hz2:=hidK z2;have Hz4:=hidK z4;clear hat hv z0 z2 z4
   have hzk : ((xs.take k ++ (List.replicate len xdZ).drop k).map xdF)[k]? = some (xdF xdZ):=by
    rw [List.getElem?_map,take_drop_at hZl (by omega),List.getElem?_replicate,if_pos hlt]
    rfl
   obtain ⟨g,hg,hs⟩:=HP.out.st (KeptS.refl _ _) hzk
   cases hg
   have HS:=hidK hs;clear hs hzk HP;go_wp2_with fail;refine (toClaim_any v.n v.z v.k v.x v.v _).mono ?_;rintro e w2 ⟨rfl,hb2⟩;have HB2:=upB HB hb2;have h1 : StJ w.heap.size 5 123 (fun k => w.heap.size ≤ k) (fun k => wr.heap.size ≤ k) wr w2 ((xs.take k ++ (List.replicate len xdZ).drop k).map xdF) k [.s xdZ.n,.i xdZ.z,.s xdZ.k,.b xdZ.x,.s xdZ.v]:=HS.out.fresh hb2;obtain ⟨q0,e0⟩:=h1.cell (i:=0) rfl;have f0:=h1.fro (k * 5);obtain ⟨q1,e1⟩:=h1.cell (i:=1) rfl;have f1:=h1.fro (k * 5 + 1);obtain ⟨q2,e2⟩:=h1.cell (i:=2) rfl;have f2:=h1.fro (k * 5 + 2);obtain ⟨q3,e3⟩:=h1.cell (i:=3) rfl;have f3:=h1.fro (k * 5 + 3);obtain ⟨q4,e4⟩:=h1.cell (i:=4) rfl;have f4:=h1.fro (k * 5 + 4);rw [Nat.add_zero] at e0;have HZ:=hidK ((((((h1).setS (i:=0) rfl v.n Hz0.out).setI (i:=1) rfl v.z).setS (i:=2) rfl v.k Hz2.out).setB (i:=3) rfl v.x).setS (i:=4) rfl v.v Hz4.out);clear h1 hb2 c0 c1 c2 c3 c4 hb;go_wp2_with fail;refine ⟨⟨k + 1,by omega,by go_num,?_,set_below (Nat.le_refl _) (set_below (Nat.le_refl _) (set_below (Nat.le_refl _) (set_below (Nat.le_refl _) (set_below (Nat.le_refl _) (HB2.out)))))⟩,by simp [intOf];omega⟩;obtain ⟨⟨cur,H,h2,-⟩,-,-⟩:=HZ.out
   have h3 : (((xs.take k ++ (List.replicate len xdZ).drop k).map xdF).set k (xdF v)) = (xs.take (k + 1) ++ (List.replicate len xdZ).drop (k + 1)).map xdF:=by
    rw [← List.map_set,take_drop_set hZl HV.out]
   have h4 : ROwnAt _ w.heap.size 5 123 (((xs.take k ++ (List.replicate len xdZ).drop k).map xdF).set k (xdF v)) (fun k => w.heap.size ≤ k) cur H:=h2;rw [h3] at h4;exact ⟨by rw [List.length_map,take_drop_len hZl (by omega)];simp,Nat.le_refl _,by omega,.inr ⟨_,cur,H,rfl,h4⟩⟩
  ·obtain rfl : len = k:=by omega
   go_wp2
   go_ret;refine ⟨rfl,?_,HB.out⟩;have h5:=HP.out;rw [List.take_of_length_le (by omega),List.drop_of_length_le (by simp),List.append_nil] at h5;exact h5

theorem infopd : (Tryz.prog.info? 58).map (fun i => (i.zero,i.size,i.bytes)) = some (some (.agg #[.string ⟨#[]⟩,.int .i64 0,.string ⟨#[]⟩,.slice none 0 0,.string ⟨#[]⟩,.int .i64 0]),6,88):=by kernel_rfl
def pdZ : Pd:=⟨⟨#[]⟩,0,⟨#[]⟩,[],⟨#[]⟩,0⟩

theorem madepd {w : World} {g len : Nat} (h : w.heap[g]? = some (.cells (madeCells #[.string ⟨#[]⟩,.int .i64 0,.string ⟨#[]⟩,.slice none 0 0,.string ⟨#[]⟩,.int .i64 0] (len * 6)) 58 (0,0))) (hl : len ≤ 1048576) (S : Nat → Prop) (hS : S g) :
  ROwn w (some ⟨g,0,none⟩) len len 6 58 ((List.replicate len pdZ).map pdF) S:=by
 refine ⟨by simp,Nat.le_refl _,by omega,.inr ⟨g,_,fun _ _ => 0,rfl,h,hS,?_,?_,?_⟩⟩
 ·intro j r hr;rw [List.getElem?_map] at hr;obtain ⟨x,hx,rfl⟩:=Option.map_eq_some_iff.1 hr
  rfl
 ·intro j r hr i f hi;rw [List.getElem?_map] at hr;obtain ⟨x,hx,rfl⟩:=Option.map_eq_some_iff.1 hr
  have hj : j < len:=by have:=(List.getElem?_eq_some_iff.1 hx).1;simpa using this
  obtain rfl : x = pdZ:=by
   obtain ⟨h1,h2⟩:=List.getElem?_eq_some_iff.1 hx
   simpa using h2.symm
  have him : i < 6:=(List.getElem?_eq_some_iff.1 hi).1
  have hlt : j * 6 + i < len * 6:=by omega
  have hcell : (madeCells #[.string ⟨#[]⟩,.int .i64 0,.string ⟨#[]⟩,.slice none 0 0,.string ⟨#[]⟩,.int .i64 0] (len * 6))[j * 6 + i]? = some (#[.string ⟨#[]⟩,.int .i64 0,.string ⟨#[]⟩,.slice none 0 0,.string ⟨#[]⟩,.int .i64 0][i]!):=by
   unfold madeCells;rw [Array.getElem?_map,Array.getElem?_range];rw [if_pos hlt]
   have : (j * 6 + i) % 6 = i:=by omega
   simp [this]
  refine ⟨_,hcell,?_⟩
  rcases i with _ | _ | _ | _ | _ | _ | i
  ·cases hi;exact ⟨rfl,by decide⟩
  ·cases hi;exact rfl
  ·cases hi;exact ⟨rfl,by decide⟩
  ·cases hi;exact ⟨none,0,0,rfl,rfl,Nat.le_refl _,by decide,fun j x hx => by simp [pdZ] at hx,.inl rfl⟩
  ·cases hi;exact ⟨rfl,by decide⟩
  ·cases hi;exact rfl
  ·omega
 ·intro j r i zs j' r' i' zs' hr hi hz
  exfalso
  rw [List.getElem?_map] at hr;obtain ⟨x,hx,rfl⟩:=Option.map_eq_some_iff.1 hr
  obtain rfl : x = pdZ:=by
   obtain ⟨h1,h2⟩:=List.getElem?_eq_some_iff.1 hx
   simpa using h2.symm
  have him : i < 6:=(List.getElem?_eq_some_iff.1 hi).1
  rcases i with _ | _ | _ | _ | _ | _ | i
  ·cases hi
  ·cases hi
  ·cases hi
  ·cases hi;exact hz rfl
  ·cases hi
  ·cases hi
  ·omega

theorem topd_any (a : Option Addr) (len cap : Nat) (xs : List Pd) (w : World) (hr : RRow w a len cap 6 (xs.map pdF)) (hl : len ≤ 1048576) (hf : ∀ (j : Nat) x,xs[j]? = some x → x.zs.length ≤ 1048576) :
  Calls Tryz.prog 43 #[.slice a len cap] w fun e w' => e = .returned (.slice (some ⟨w.heap.size,0,none⟩) len len) ∧ ROwn w' (some ⟨w.heap.size,0,none⟩) len len 6 58 (xs.map pdF) (fun k => w.heap.size ≤ k) ∧ Below w.heap.size w w':=by
 have HR:=hidK hr
 have hvl : xs.length = len:=by simpa using hr.1
 have HF:=hidK hf;clear hr hf;obtain ⟨i0,hi,hz0,hz1,hz2⟩:=info_parts infopd
 go_enter Tryz.func43,Tryz.ntmps43
 go_wp2_with (at_make;refine wpList_make_full _ rfl _ _ 38 rfl w.heap.size 58 i0 (.agg #[.string ⟨#[]⟩,.int .i64 0,.string ⟨#[]⟩,.slice none 0 0,.string ⟨#[]⟩,.int .i64 0]) 6 Tryz.underlying38 hi hz0 hz1 _ _ _ _ len rfl rfl (by omega) (by omega) (by rw [hz2];omega) (by unfold maxLen;omega) (Nat.le_refl _) ?_)
 intro w1 hown hgrow;have hnx1 : Below w.heap.size w w1:=(Below.refl _ _).grown hgrow (Nat.le_refl _) (fun k hk => by cases hk);have HB : Hid (Below w.heap.size w w1):=hnx1
 have hc1 : w1.heap[w.heap.size]? = some (.cells (madeCells #[.string ⟨#[]⟩,.int .i64 0,.string ⟨#[]⟩,.slice none 0 0,.string ⟨#[]⟩,.int .i64 0] (len * 6)) 58 (0,0)):=by
  obtain ⟨h1,h2⟩:=hown
  rcases h2 with ⟨h3,_⟩ | ⟨g',cap',cur,hv,hB,hh,_,_,hsz,htk⟩
  ·cases h3
  ·simp only [Value.slice.injEq,Option.some.injEq,Addr.mk.injEq] at hv;obtain ⟨⟨rfl,_,_⟩,_,rfl⟩:=hv;rw [List.take_of_length_le (by simp [hsz])] at htk
   have : cur = madeCells #[.string ⟨#[]⟩,.int .i64 0,.string ⟨#[]⟩,.slice none 0 0,.string ⟨#[]⟩,.int .i64 0] (len * 6):=by apply Array.ext';simpa using htk
   rw [this] at hh
   simpa using hh
 have HP : Hid (ROwn w1 (some ⟨w.heap.size,0,none⟩) len len 6 58 ((xs.take 0 ++ (List.replicate len pdZ).drop 0).map pdF) (fun k => w.heap.size ≤ k)):=by
  have:=madepd hc1 hl (fun k => w.heap.size ≤ k) (Nat.le_refl _)
  simpa [Hid] using this
 have hZl : xs.length = (List.replicate len pdZ).length:=by simpa using hvl
 clear hown hgrow hi hz0 hz1 hz2 hnx1 hc1
 go_wp2
 go_loopw [4] (fun i wr => ∃ k : Nat,k ≤ len ∧ i = .int .i64 k ∧ Hid (ROwn wr (some ⟨w.heap.size,0,none⟩) len len 6 58 ((xs.take k ++ (List.replicate len pdZ).drop k).map pdF) (fun k => w.heap.size ≤ k)) ∧ Hid (Below w.heap.size w wr)) (fun i _ => len - (intOf i).toNat)
 case atStart => exact ⟨0,by omega,rfl,HP,HB⟩
 case round =>
  obtain ⟨k,hk,rfl,HP,HB⟩:=hrel
  by_cases hlt : k < len
  ·obtain ⟨b,o,v,rfl,hb,hv,hat⟩:=pd_at (HR.out.below HB.out) hlt;obtain ⟨va,vl,vc,hvr,z0,z2,z4,c0,c1,c2,c3,c4,c5⟩:=pd_cells hat;have HV:=hidK hv;have Hz0:=hidK z0;have Hz2:=hidK z2;have Hz4:=hidK z4;have HT:=hidK hvr
   have hvl2 : vl ≤ 1048576:=by have:=HF.out k v hv;rw [hvr.1] at this;exact this
   have hvz : v.zs.length = vl:=hvr.1;have HVZ:=hidK hvz;clear hvr hvz;clear hat hv z0 z2 z4
   have hzk : ((xs.take k ++ (List.replicate len pdZ).drop k).map pdF)[k]? = some (pdF pdZ):=by
    rw [List.getElem?_map,take_drop_at hZl (by omega),List.getElem?_replicate,if_pos hlt]
    rfl
   obtain ⟨g,hg,hs⟩:=HP.out.st (KeptS.refl _ _) hzk
   cases hg
   have HS:=hidK hs;clear hs hzk HP;go_wp2_with fail;refine (toPod_any v.n v.c v.z va vl vc v.zs v.d v.p _ HT.out hvl2).mono ?_;rintro e w2 ⟨rfl,hG,hb2⟩;have HB2:=upB HB hb2;have h1 : StJ w.heap.size 6 58 (fun k => w.heap.size ≤ k) (fun k => wr.heap.size ≤ k) wr w2 ((xs.take k ++ (List.replicate len pdZ).drop k).map pdF) k [.s pdZ.n,.i pdZ.c,.s pdZ.z,.l pdZ.zs,.s pdZ.d,.i pdZ.p]:=HS.out.fresh hb2
   have hL : LOwn w2 (wr.heap.size + 1 + 1 + 1) (fun k => w.heap.size ≤ k) w.heap.size v.zs (.slice (some ⟨wr.heap.size + 1 + 1 + 1,0,none⟩) vl vl):=by
    have h9:=HB.out.size;have hgl:=lt_of_some (HS.out.own.choose_spec.choose_spec.1.blk);refine ⟨_,_,_,rfl,HVZ.out,Nat.le_refl _,by omega,HT.out.2.2.2.1,.inr ⟨rfl,by show w.heap.size ≤ _;omega,by omega,_,hG,fun j x hx => ?_⟩⟩
    simp [hx]
   have HL:=hidK hL;clear hG hL;obtain ⟨q0,e0⟩:=h1.cell (i:=0) rfl;have f0:=h1.fro (k * 6);obtain ⟨q1,e1⟩:=h1.cell (i:=1) rfl;have f1:=h1.fro (k * 6 + 1);obtain ⟨q2,e2⟩:=h1.cell (i:=2) rfl;have f2:=h1.fro (k * 6 + 2);obtain ⟨q3,e3⟩:=h1.cell (i:=3) rfl;have f3:=h1.fro (k * 6 + 3);obtain ⟨q4,e4⟩:=h1.cell (i:=4) rfl;have f4:=h1.fro (k * 6 + 4);obtain ⟨q5,e5⟩:=h1.cell (i:=5) rfl;have f5:=h1.fro (k * 6 + 5);rw [Nat.add_zero] at e0;have HZ:=hidK (((((((h1).setS (i:=0) rfl v.n Hz0.out).setI (i:=1) rfl v.c).setS (i:=2) rfl v.z Hz2.out).setL (i:=3) rfl v.zs (fun _ => by show wr.heap.size ≤ _;omega) (Fv.Own.set_cell (u:=.l v.zs) (Fv.Own.set_cell (u:=.l v.zs) (Fv.Own.set_cell (u:=.l v.zs) (HL.out))))).setS (i:=4) rfl v.d Hz4.out).setI (i:=5) rfl v.p);clear h1 hb2 c0 c1 c2 c3 c4 c5 hb;go_wp2_with fail;refine ⟨⟨k + 1,by omega,by go_num,?_,set_below (Nat.le_refl _) (set_below (Nat.le_refl _) (set_below (Nat.le_refl _) (set_below (Nat.le_refl _) (set_below (Nat.le_refl _) (set_below (Nat.le_refl _) (HB2.out))))))⟩,by simp [intOf];omega⟩;obtain ⟨⟨cur,H,h2,-⟩,-,-⟩:=HZ.out
   have h3 : (((xs.take k ++ (List.replicate len pdZ).drop k).map pdF).set k (pdF v)) = (xs.take (k + 1) ++ (List.replicate len pdZ).drop (k + 1)).map pdF:=by
    rw [← List.map_set,take_drop_set hZl HV.out]
   have h4 : ROwnAt _ w.heap.size 6 58 (((xs.take k ++ (List.replicate len pdZ).drop k).map pdF).set k (pdF v)) (fun k => w.heap.size ≤ k) cur H:=h2;rw [h3] at h4;exact ⟨by rw [List.length_map,take_drop_len hZl (by omega)];simp,Nat.le_refl _,by omega,.inr ⟨_,cur,H,rfl,h4⟩⟩
  ·obtain rfl : len = k:=by omega
   go_wp2
   go_ret;refine ⟨rfl,?_,HB.out⟩;have h5:=HP.out;rw [List.take_of_length_le (by omega),List.drop_of_length_le (by simp),List.append_nil] at h5;exact h5

structure ClFit (c : Cl) : Prop where
 l1 : c.ns.length ≤ 1048576
 f1 : ∀ (j : Nat) x,c.ns[j]? = some x → x.zs.length ≤ 1048576
 l2 : c.ks.length ≤ 1048576
 l3 : c.vs.length ≤ 1048576
 f3 : ∀ (j : Nat) x,c.vs[j]? = some x → x.zs.length ≤ 1048576
 l4 : c.xs.length ≤ 1048576
 l5 : c.ps.length ≤ 1048576
 f5 : ∀ (j : Nat) x,c.ps[j]? = some x → x.zs.length ≤ 1048576

theorem szCluster_any (d : Ad) (c : Cl) (w : World) (hr : ClRow w d c.raw) :
  Calls Tryz.prog 5 #[.agg #[.slice d.a1 d.l1 d.c1,.slice d.a2 d.l2 d.c2,.slice d.a3 d.l3 d.c3,.slice d.a4 d.l4 d.c4,.slice d.a5 d.l5 d.c5,.int .i64 c.now],.int .i64 1048576] w (SzB 1048576 (ClFit c) w):=by
 have HR:=hidK hr;have HB:=hidK (Below.refl w.heap.size w);clear hr
 go_enter Tryz.func5,Tryz.ntmps5
 go_wp2_with fail;refine (sznd_any d.a1 d.l1 d.c1 c.ns 1048576 _ (HR.out.n.below (HB.out.trans ((below1 _ _).mono HB.out.size))) (by omega) (by omega)).mono ?_;rintro e w1 ⟨r1,rfl,hi,hb⟩;obtain ⟨HA0,hbx⟩:=slots1 hb;have Bk:=hidK HA0;replace HB:=upB HB hbx;clear hb hbx HA0
 rcases hi with rfl | ⟨hr10,hr11,hz1⟩
 ·obtain ⟨k0,k1,k2,k3,k4,k5⟩:=cs6 Bk.out;have ltk_1:=lt_of_some Bk.out
  go_wp2
  go_ret;exact ⟨-1,rfl,.inl rfl,HB.out⟩
 have HZ1:=hidK hz1;clear hz1;obtain ⟨k0,k1,k2,k3,k4,k5⟩:=cs6 Bk.out;have ltk_1:=lt_of_some Bk.out;go_wp2_with fail;refine (szkd_any d.a2 d.l2 d.c2 c.ks r1 _ (HR.out.k.below HB.out) (by omega) (by omega)).mono ?_;rintro e w2 ⟨r2,rfl,hi,hb⟩;clear k0 k1 k2 k3 k4 k5 ltk_1;replace Bk:=upK Bk hb;replace HB:=upB HB hb;clear hb
 rcases hi with rfl | ⟨hr20,hr21,hz2⟩
 ·obtain ⟨k0,k1,k2,k3,k4,k5⟩:=cs6 Bk.out;have ltk_2:=lt_of_some Bk.out
  go_wp2
  go_ret;exact ⟨-1,rfl,.inl rfl,HB.out⟩
 have HZ2:=hidK hz2;clear hz2;obtain ⟨k0,k1,k2,k3,k4,k5⟩:=cs6 Bk.out;have ltk_2:=lt_of_some Bk.out;go_wp2_with fail;refine (szvd_any d.a3 d.l3 d.c3 c.vs r2 _ (HR.out.v.below HB.out) (by omega) (by omega)).mono ?_;rintro e w3 ⟨r3,rfl,hi,hb⟩;clear k0 k1 k2 k3 k4 k5 ltk_2;replace Bk:=upK Bk hb;replace HB:=upB HB hb;clear hb
 rcases hi with rfl | ⟨hr30,hr31,hz3⟩
 ·obtain ⟨k0,k1,k2,k3,k4,k5⟩:=cs6 Bk.out;have ltk_3:=lt_of_some Bk.out
  go_wp2
  go_ret;exact ⟨-1,rfl,.inl rfl,HB.out⟩
 have HZ3:=hidK hz3;clear hz3;obtain ⟨k0,k1,k2,k3,k4,k5⟩:=cs6 Bk.out;have ltk_3:=lt_of_some Bk.out;go_wp2_with fail;refine (szxd_any d.a4 d.l4 d.c4 c.xs r3 _ (HR.out.x.below HB.out) (by omega) (by omega)).mono ?_;rintro e w4 ⟨r4,rfl,hi,hb⟩;clear k0 k1 k2 k3 k4 k5 ltk_3;replace Bk:=upK Bk hb;replace HB:=upB HB hb;clear hb
 rcases hi with rfl | ⟨hr40,hr41,hz4⟩
 ·obtain ⟨k0,k1,k2,k3,k4,k5⟩:=cs6 Bk.out;have ltk_4:=lt_of_some Bk.out
  go_wp2
  go_ret;exact ⟨-1,rfl,.inl rfl,HB.out⟩
 have HZ4:=hidK hz4;clear hz4;obtain ⟨k0,k1,k2,k3,k4,k5⟩:=cs6 Bk.out;have ltk_4:=lt_of_some Bk.out;go_wp2_with fail;refine (szpd_any d.a5 d.l5 d.c5 c.ps r4 _ (HR.out.p.below HB.out) (by omega) (by omega)).mono ?_;rintro e w5 ⟨r5,rfl,hi,hb⟩;clear k0 k1 k2 k3 k4 k5 ltk_4;replace Bk:=upK Bk hb;replace HB:=upB HB hb;clear hb
 rcases hi with rfl | ⟨hr50,hr51,hz5⟩
 ·obtain ⟨k0,k1,k2,k3,k4,k5⟩:=cs6 Bk.out;have ltk_5:=lt_of_some Bk.out
  go_wp2
  go_ret;exact ⟨-1,rfl,.inl rfl,HB.out⟩
 have HZ5:=hidK hz5;clear hz5
 go_wp2
 go_ret;refine ⟨r5,rfl,.inr ⟨by omega,by omega,?_⟩,HB.out⟩
 have e1 : c.ns.length = d.l1:=by simpa using (show (c.ns.map ndF).length = d.l1 from HR.out.n.1)
 have e2 : c.ks.length = d.l2:=by simpa using (show (c.ks.map kdF).length = d.l2 from HR.out.k.1)
 have e3 : c.vs.length = d.l3:=by simpa using (show (c.vs.map vdF).length = d.l3 from HR.out.v.1)
 have e4 : c.xs.length = d.l4:=by simpa using (show (c.xs.map xdF).length = d.l4 from HR.out.x.1)
 have e5 : c.ps.length = d.l5:=by simpa using (show (c.ps.map pdF).length = d.l5 from HR.out.p.1)
 exact ⟨by rw [e1];exact HZ1.out.1,HZ1.out.2,by rw [e2];exact HZ2.out,by rw [e3];exact HZ3.out.1,HZ3.out.2,by rw [e4];exact HZ4.out,by rw [e5];exact HZ5.out.1,HZ5.out.2⟩

theorem toCluster_any (d : Ad) (c : Cl) (w : World) (hr : ClRow w d c.raw) (hf : ClFit c) :
  Calls Tryz.prog 8 #[.agg #[.slice d.a1 d.l1 d.c1,.slice d.a2 d.l2 d.c2,.slice d.a3 d.l3 d.c3,.slice d.a4 d.l4 d.c4,.slice d.a5 d.l5 d.c5,.int .i64 c.now]] w fun e w' => ∃ d' : Ad,e = .returned (.agg #[.slice d'.a1 d'.l1 d'.c1,.slice d'.a2 d'.l2 d'.c2,.slice d'.a3 d'.l3 d'.c3,.slice d'.a4 d'.l4 d'.c4,.slice d'.a5 d'.l5 d'.c5,.int .i64 c.now]) ∧ ClOwn w' d' c.raw (fun k => w.heap.size ≤ k) ∧ Below w.heap.size w w':=by
 have HR:=hidK hr;have HF:=hidK hf
 have e1 : c.ns.length = d.l1:=by simpa using (show (c.ns.map ndF).length = d.l1 from hr.n.1)
 have hL1 : d.l1 ≤ 1048576:=by rw [← e1];exact hf.l1
 have e2 : c.ks.length = d.l2:=by simpa using (show (c.ks.map kdF).length = d.l2 from hr.k.1)
 have hL2 : d.l2 ≤ 1048576:=by rw [← e2];exact hf.l2
 have e3 : c.vs.length = d.l3:=by simpa using (show (c.vs.map vdF).length = d.l3 from hr.v.1)
 have hL3 : d.l3 ≤ 1048576:=by rw [← e3];exact hf.l3
 have e4 : c.xs.length = d.l4:=by simpa using (show (c.xs.map xdF).length = d.l4 from hr.x.1)
 have hL4 : d.l4 ≤ 1048576:=by rw [← e4];exact hf.l4
 have e5 : c.ps.length = d.l5:=by simpa using (show (c.ps.map pdF).length = d.l5 from hr.p.1)
 have hL5 : d.l5 ≤ 1048576:=by rw [← e5];exact hf.l5
 clear hr hf e1 e2 e3 e4 e5;obtain ⟨X0,hX0⟩ : ∃ X,X = ((w.alloc (.cells #[.slice d.a1 d.l1 d.c1,.slice d.a2 d.l2 d.c2,.slice d.a3 d.l3 d.c3,.slice d.a4 d.l4 d.c4,.slice d.a5 d.l5 d.c5,.int .i64 c.now] 28)).alloc (.cells #[.slice none 0 0,.slice none 0 0,.slice none 0 0,.slice none 0 0,.slice none 0 0,.int .i64 0] 40)).alloc (.cells #[.slice none 0 0,.slice none 0 0,.slice none 0 0,.slice none 0 0,.slice none 0 0,.int .i64 0] 40):=⟨_,rfl⟩
 have B0 : Hid (Below w.heap.size w X0):=by rw [hX0];exact below3 _ _ _ _
 have bx0 : Hid (X0.heap[w.heap.size]? = some (.cells #[.slice d.a1 d.l1 d.c1,.slice d.a2 d.l2 d.c2,.slice d.a3 d.l3 d.c3,.slice d.a4 d.l4 d.c4,.slice d.a5 d.l5 d.c5,.int .i64 c.now] 28 (0,0))):=by rw [hX0];exact heap3_0 _ _ _ _
 have br0 : Hid (X0.heap[w.heap.size + 1]? = some (.cells #[.slice none 0 0,.slice none 0 0,.slice none 0 0,.slice none 0 0,.slice none 0 0,.int .i64 0] 40 (0,0))):=by rw [hX0];exact heap3_1 _ _ _ _
 have bl0 : Hid (X0.heap[w.heap.size + 1 + 1]? = some (.cells #[.slice none 0 0,.slice none 0 0,.slice none 0 0,.slice none 0 0,.slice none 0 0,.int .i64 0] 40 (0,0))):=by rw [hX0];exact heap3_2 _ _ _ _
 have hs0 : w.heap.size + 1 + 1 < X0.heap.size:=lt_of_some bl0.out
 go_enter Tryz.func8,Tryz.ntmps8
 go_wp2_with fail;rw [← hX0];clear hX0;refine (tond_any d.a1 d.l1 d.c1 c.ns _ (HR.out.n.below B0.out) hL1 HF.out.f1).mono ?_;rintro e w1 ⟨rfl,ho,hb⟩;have hsz1:=hb.size;have gx:=(hb.block _ (lt_of_some bx0.out)).trans bx0.out;have gr:=(hb.block _ (lt_of_some br0.out)).trans br0.out;have gl:=(hb.block _ (lt_of_some bl0.out)).trans bl0.out;have gB:=B0.out.trans (hb.mono B0.out.size);have P1:=hidK ho;clear ho hb bx0 br0 bl0 B0;have pl : w1.cell? ⟨w.heap.size + 1 + 1,0,none⟩ = some (.slice none 0 0):=cellK gl 0;have fl:=froK gl 0;have px : w1.cell? ⟨w.heap.size,1,none⟩ = some (.slice d.a2 d.l2 d.c2):=cellK gx 1;obtain ⟨X1,hX1⟩ : ∃ X,X = w1.setCell ⟨w.heap.size + 1 + 1,0,none⟩ (.slice (some ⟨X0.heap.size,0,none⟩) d.l1 d.l1):=⟨_,rfl⟩
 have hxa1 : X1.heap.size ≤ w1.heap.size:=by rw [hX1];simp [World.setCell]
 have hxb1 : w1.heap.size ≤ X1.heap.size:=by rw [hX1];simp [World.setCell]
 have bx1 : Hid (X1.heap[w.heap.size]? = some (.cells #[.slice d.a1 d.l1 d.c1,.slice d.a2 d.l2 d.c2,.slice d.a3 d.l3 d.c3,.slice d.a4 d.l4 d.c4,.slice d.a5 d.l5 d.c5,.int .i64 c.now] 28 (0,0))):=by rw [hX1];exact set_keeps (by omega) gx
 have br1 : Hid (X1.heap[w.heap.size + 1]? = some (.cells #[.slice none 0 0,.slice none 0 0,.slice none 0 0,.slice none 0 0,.slice none 0 0,.int .i64 0] 40 (0,0))):=by rw [hX1];exact set_keeps (by omega) gr
 have bl1 : Hid (X1.heap[w.heap.size + 1 + 1]? = some (.cells #[.slice (some ⟨X0.heap.size,0,none⟩) d.l1 d.l1,.slice none 0 0,.slice none 0 0,.slice none 0 0,.slice none 0 0,.int .i64 0] 40 (0,0))):=by rw [hX1];have:=block_set (i:=0) gl (.slice (some ⟨X0.heap.size,0,none⟩) d.l1 d.l1);simpa [Hid] using this
 have B1 : Hid (Below w.heap.size w X1):=by rw [hX1];exact set_below (by omega) gB
 have O1:=hidK (P1.out.keep (w':=X1) (fun k hk s => by rw [hX1];exact Below.heap_setCell _ _ _ _ (show k ≠ w.heap.size + 1 + 1 by have h9 : X0.heap.size ≤ k:=s;omega)) (fun k hk s => (⟨s,hk⟩ : X0.heap.size ≤ k ∧ k < w1.heap.size)));clear gx gr gl gB P1;go_wp2_with fail;rw [← hX1];clear hX1;clear pl fl px;refine (tokd_any d.a2 d.l2 d.c2 c.ks _ (HR.out.k.below B1.out) hL2).mono ?_;rintro e w2 ⟨rfl,ho,hb⟩;have hsz2:=hb.size;have gx:=(hb.block _ (lt_of_some bx1.out)).trans bx1.out;have gr:=(hb.block _ (lt_of_some br1.out)).trans br1.out;have gl:=(hb.block _ (lt_of_some bl1.out)).trans bl1.out;have gB:=B1.out.trans (hb.mono B1.out.size);have P2:=hidK ho;have Q1:=hidK (O1.out.below hb);clear ho hb bx1 br1 bl1 B1 O1;have pl : w2.cell? ⟨w.heap.size + 1 + 1,1,none⟩ = some (.slice none 0 0):=cellK gl 1;have fl:=froK gl 1;have px : w2.cell? ⟨w.heap.size,2,none⟩ = some (.slice d.a3 d.l3 d.c3):=cellK gx 2;obtain ⟨X2,hX2⟩ : ∃ X,X = w2.setCell ⟨w.heap.size + 1 + 1,1,none⟩ (.slice (some ⟨X1.heap.size,0,none⟩) d.l2 d.l2):=⟨_,rfl⟩
 have hxa2 : X2.heap.size ≤ w2.heap.size:=by rw [hX2];simp [World.setCell]
 have hxb2 : w2.heap.size ≤ X2.heap.size:=by rw [hX2];simp [World.setCell]
 have bx2 : Hid (X2.heap[w.heap.size]? = some (.cells #[.slice d.a1 d.l1 d.c1,.slice d.a2 d.l2 d.c2,.slice d.a3 d.l3 d.c3,.slice d.a4 d.l4 d.c4,.slice d.a5 d.l5 d.c5,.int .i64 c.now] 28 (0,0))):=by rw [hX2];exact set_keeps (by omega) gx
 have br2 : Hid (X2.heap[w.heap.size + 1]? = some (.cells #[.slice none 0 0,.slice none 0 0,.slice none 0 0,.slice none 0 0,.slice none 0 0,.int .i64 0] 40 (0,0))):=by rw [hX2];exact set_keeps (by omega) gr
 have bl2 : Hid (X2.heap[w.heap.size + 1 + 1]? = some (.cells #[.slice (some ⟨X0.heap.size,0,none⟩) d.l1 d.l1,.slice (some ⟨X1.heap.size,0,none⟩) d.l2 d.l2,.slice none 0 0,.slice none 0 0,.slice none 0 0,.int .i64 0] 40 (0,0))):=by rw [hX2];have:=block_set (i:=1) gl (.slice (some ⟨X1.heap.size,0,none⟩) d.l2 d.l2);simpa [Hid] using this
 have B2 : Hid (Below w.heap.size w X2):=by rw [hX2];exact set_below (by omega) gB
 have O1:=hidK (Q1.out.keep (w':=X2) (fun k hk s => by rw [hX2];exact Below.heap_setCell _ _ _ _ (show k ≠ w.heap.size + 1 + 1 by have h9 : X0.heap.size ≤ k:=s.1;omega)) (fun k hk s => s));have O2:=hidK (P2.out.keep (w':=X2) (fun k hk s => by rw [hX2];exact Below.heap_setCell _ _ _ _ (show k ≠ w.heap.size + 1 + 1 by have h9 : X1.heap.size ≤ k:=s;omega)) (fun k hk s => (⟨s,hk⟩ : X1.heap.size ≤ k ∧ k < w2.heap.size)));clear gx gr gl gB P2 Q1;go_wp2_with fail;rw [← hX2];clear hX2;clear pl fl px;refine (tovd_any d.a3 d.l3 d.c3 c.vs _ (HR.out.v.below B2.out) hL3 HF.out.f3).mono ?_;rintro e w3 ⟨rfl,ho,hb⟩;have hsz3:=hb.size;have gx:=(hb.block _ (lt_of_some bx2.out)).trans bx2.out;have gr:=(hb.block _ (lt_of_some br2.out)).trans br2.out;have gl:=(hb.block _ (lt_of_some bl2.out)).trans bl2.out;have gB:=B2.out.trans (hb.mono B2.out.size);have P3:=hidK ho;have Q1:=hidK (O1.out.below hb);have Q2:=hidK (O2.out.below hb);clear ho hb bx2 br2 bl2 B2 O1 O2;have pl : w3.cell? ⟨w.heap.size + 1 + 1,2,none⟩ = some (.slice none 0 0):=cellK gl 2;have fl:=froK gl 2;have px : w3.cell? ⟨w.heap.size,3,none⟩ = some (.slice d.a4 d.l4 d.c4):=cellK gx 3;obtain ⟨X3,hX3⟩ : ∃ X,X = w3.setCell ⟨w.heap.size + 1 + 1,2,none⟩ (.slice (some ⟨X2.heap.size,0,none⟩) d.l3 d.l3):=⟨_,rfl⟩
 have hxa3 : X3.heap.size ≤ w3.heap.size:=by rw [hX3];simp [World.setCell]
 have hxb3 : w3.heap.size ≤ X3.heap.size:=by rw [hX3];simp [World.setCell]
 have bx3 : Hid (X3.heap[w.heap.size]? = some (.cells #[.slice d.a1 d.l1 d.c1,.slice d.a2 d.l2 d.c2,.slice d.a3 d.l3 d.c3,.slice d.a4 d.l4 d.c4,.slice d.a5 d.l5 d.c5,.int .i64 c.now] 28 (0,0))):=by rw [hX3];exact set_keeps (by omega) gx
 have br3 : Hid (X3.heap[w.heap.size + 1]? = some (.cells #[.slice none 0 0,.slice none 0 0,.slice none 0 0,.slice none 0 0,.slice none 0 0,.int .i64 0] 40 (0,0))):=by rw [hX3];exact set_keeps (by omega) gr
 have bl3 : Hid (X3.heap[w.heap.size + 1 + 1]? = some (.cells #[.slice (some ⟨X0.heap.size,0,none⟩) d.l1 d.l1,.slice (some ⟨X1.heap.size,0,none⟩) d.l2 d.l2,.slice (some ⟨X2.heap.size,0,none⟩) d.l3 d.l3,.slice none 0 0,.slice none 0 0,.int .i64 0] 40 (0,0))):=by rw [hX3];have:=block_set (i:=2) gl (.slice (some ⟨X2.heap.size,0,none⟩) d.l3 d.l3);simpa [Hid] using this
 have B3 : Hid (Below w.heap.size w X3):=by rw [hX3];exact set_below (by omega) gB
 have O1:=hidK (Q1.out.keep (w':=X3) (fun k hk s => by rw [hX3];exact Below.heap_setCell _ _ _ _ (show k ≠ w.heap.size + 1 + 1 by have h9 : X0.heap.size ≤ k:=s.1;omega)) (fun k hk s => s));have O2:=hidK (Q2.out.keep (w':=X3) (fun k hk s => by rw [hX3];exact Below.heap_setCell _ _ _ _ (show k ≠ w.heap.size + 1 + 1 by have h9 : X1.heap.size ≤ k:=s.1;omega)) (fun k hk s => s));have O3:=hidK (P3.out.keep (w':=X3) (fun k hk s => by rw [hX3];exact Below.heap_setCell _ _ _ _ (show k ≠ w.heap.size + 1 + 1 by have h9 : X2.heap.size ≤ k:=s;omega)) (fun k hk s => (⟨s,hk⟩ : X2.heap.size ≤ k ∧ k < w3.heap.size)));clear gx gr gl gB P3 Q1 Q2;go_wp2_with fail;rw [← hX3];clear hX3;clear pl fl px;refine (toxd_any d.a4 d.l4 d.c4 c.xs _ (HR.out.x.below B3.out) hL4).mono ?_;rintro e w4 ⟨rfl,ho,hb⟩;have hsz4:=hb.size;have gx:=(hb.block _ (lt_of_some bx3.out)).trans bx3.out;have gr:=(hb.block _ (lt_of_some br3.out)).trans br3.out;have gl:=(hb.block _ (lt_of_some bl3.out)).trans bl3.out;have gB:=B3.out.trans (hb.mono B3.out.size);have P4:=hidK ho;have Q1:=hidK (O1.out.below hb);have Q2:=hidK (O2.out.below hb);have Q3:=hidK (O3.out.below hb);clear ho hb bx3 br3 bl3 B3 O1 O2 O3;have pl : w4.cell? ⟨w.heap.size + 1 + 1,3,none⟩ = some (.slice none 0 0):=cellK gl 3;have fl:=froK gl 3;have px : w4.cell? ⟨w.heap.size,4,none⟩ = some (.slice d.a5 d.l5 d.c5):=cellK gx 4;obtain ⟨X4,hX4⟩ : ∃ X,X = w4.setCell ⟨w.heap.size + 1 + 1,3,none⟩ (.slice (some ⟨X3.heap.size,0,none⟩) d.l4 d.l4):=⟨_,rfl⟩
 have hxa4 : X4.heap.size ≤ w4.heap.size:=by rw [hX4];simp [World.setCell]
 have hxb4 : w4.heap.size ≤ X4.heap.size:=by rw [hX4];simp [World.setCell]
 have bx4 : Hid (X4.heap[w.heap.size]? = some (.cells #[.slice d.a1 d.l1 d.c1,.slice d.a2 d.l2 d.c2,.slice d.a3 d.l3 d.c3,.slice d.a4 d.l4 d.c4,.slice d.a5 d.l5 d.c5,.int .i64 c.now] 28 (0,0))):=by rw [hX4];exact set_keeps (by omega) gx
 have br4 : Hid (X4.heap[w.heap.size + 1]? = some (.cells #[.slice none 0 0,.slice none 0 0,.slice none 0 0,.slice none 0 0,.slice none 0 0,.int .i64 0] 40 (0,0))):=by rw [hX4];exact set_keeps (by omega) gr
 have bl4 : Hid (X4.heap[w.heap.size + 1 + 1]? = some (.cells #[.slice (some ⟨X0.heap.size,0,none⟩) d.l1 d.l1,.slice (some ⟨X1.heap.size,0,none⟩) d.l2 d.l2,.slice (some ⟨X2.heap.size,0,none⟩) d.l3 d.l3,.slice (some ⟨X3.heap.size,0,none⟩) d.l4 d.l4,.slice none 0 0,.int .i64 0] 40 (0,0))):=by rw [hX4];have:=block_set (i:=3) gl (.slice (some ⟨X3.heap.size,0,none⟩) d.l4 d.l4);simpa [Hid] using this
 have B4 : Hid (Below w.heap.size w X4):=by rw [hX4];exact set_below (by omega) gB
 have O1:=hidK (Q1.out.keep (w':=X4) (fun k hk s => by rw [hX4];exact Below.heap_setCell _ _ _ _ (show k ≠ w.heap.size + 1 + 1 by have h9 : X0.heap.size ≤ k:=s.1;omega)) (fun k hk s => s));have O2:=hidK (Q2.out.keep (w':=X4) (fun k hk s => by rw [hX4];exact Below.heap_setCell _ _ _ _ (show k ≠ w.heap.size + 1 + 1 by have h9 : X1.heap.size ≤ k:=s.1;omega)) (fun k hk s => s));have O3:=hidK (Q3.out.keep (w':=X4) (fun k hk s => by rw [hX4];exact Below.heap_setCell _ _ _ _ (show k ≠ w.heap.size + 1 + 1 by have h9 : X2.heap.size ≤ k:=s.1;omega)) (fun k hk s => s));have O4:=hidK (P4.out.keep (w':=X4) (fun k hk s => by rw [hX4];exact Below.heap_setCell _ _ _ _ (show k ≠ w.heap.size + 1 + 1 by have h9 : X3.heap.size ≤ k:=s;omega)) (fun k hk s => (⟨s,hk⟩ : X3.heap.size ≤ k ∧ k < w4.heap.size)));clear gx gr gl gB P4 Q1 Q2 Q3;go_wp2_with fail;rw [← hX4];clear hX4;clear pl fl px;refine (topd_any d.a5 d.l5 d.c5 c.ps _ (HR.out.p.below B4.out) hL5 HF.out.f5).mono ?_;rintro e w5 ⟨rfl,ho,hb⟩;have hsz5:=hb.size;have gx:=(hb.block _ (lt_of_some bx4.out)).trans bx4.out;have gr:=(hb.block _ (lt_of_some br4.out)).trans br4.out;have gl:=(hb.block _ (lt_of_some bl4.out)).trans bl4.out;have gB:=B4.out.trans (hb.mono B4.out.size);have P5:=hidK ho;have Q1:=hidK (O1.out.below hb);have Q2:=hidK (O2.out.below hb);have Q3:=hidK (O3.out.below hb);have Q4:=hidK (O4.out.below hb);clear ho hb bx4 br4 bl4 B4 O1 O2 O3 O4;have l4 : w5.cell? ⟨w.heap.size + 1 + 1,4,none⟩ = some (.slice none 0 0):=cellK gl 4;have l5 : w5.cell? ⟨w.heap.size + 1 + 1,5,none⟩ = some (.int .i64 0):=cellK gl 5;have l0 : w5.cell? ⟨w.heap.size + 1 + 1,0,none⟩ = some (.slice (some ⟨X0.heap.size,0,none⟩) d.l1 d.l1):=cellK gl 0;have l1 : w5.cell? ⟨w.heap.size + 1 + 1,1,none⟩ = some (.slice (some ⟨X1.heap.size,0,none⟩) d.l2 d.l2):=cellK gl 1
 have l2 : w5.cell? ⟨w.heap.size + 1 + 1,2,none⟩ = some (.slice (some ⟨X2.heap.size,0,none⟩) d.l3 d.l3):=cellK gl 2;have l3 : w5.cell? ⟨w.heap.size + 1 + 1,3,none⟩ = some (.slice (some ⟨X3.heap.size,0,none⟩) d.l4 d.l4):=cellK gl 3;have fl0:=froK gl 0;have r0 : w5.cell? ⟨w.heap.size + 1,0,none⟩ = some (.slice none 0 0):=cellK gr 0;have fr0:=froK gr 0;have fl1:=froK gl 1;have r1 : w5.cell? ⟨w.heap.size + 1,1,none⟩ = some (.slice none 0 0):=cellK gr 1;have fr1:=froK gr 1;have fl2:=froK gl 2;have r2 : w5.cell? ⟨w.heap.size + 1,2,none⟩ = some (.slice none 0 0):=cellK gr 2;have fr2:=froK gr 2;have fl3:=froK gl 3;have r3 : w5.cell? ⟨w.heap.size + 1,3,none⟩ = some (.slice none 0 0):=cellK gr 3;have fr3:=froK gr 3;have fl4:=froK gl 4;have r4 : w5.cell? ⟨w.heap.size + 1,4,none⟩ = some (.slice none 0 0):=cellK gr 4;have fr4:=froK gr 4;have fl5:=froK gl 5;have r5 : w5.cell? ⟨w.heap.size + 1,5,none⟩ = some (.int .i64 0):=cellK gr 5;have fr5:=froK gr 5;have px : w5.cell? ⟨w.heap.size,5,none⟩ = some (.int .i64 c.now):=cellK gx 5;have GB:=hidK gB;clear gx gr gl gB
 go_wp2
 refine bodyPost_ret (v:=.agg #[.slice (some ⟨X0.heap.size,0,none⟩) d.l1 d.l1,.slice (some ⟨X1.heap.size,0,none⟩) d.l2 d.l2,.slice (some ⟨X2.heap.size,0,none⟩) d.l3 d.l3,.slice (some ⟨X3.heap.size,0,none⟩) d.l4 d.l4,.slice (some ⟨X4.heap.size,0,none⟩) d.l5 d.l5,.int .i64 c.now]) (by simp [results,Tryz.results8,go_sem, *]) rfl ⟨⟨some ⟨X0.heap.size,0,none⟩,d.l1,d.l1,some ⟨X1.heap.size,0,none⟩,d.l2,d.l2,some ⟨X2.heap.size,0,none⟩,d.l3,d.l3,some ⟨X3.heap.size,0,none⟩,d.l4,d.l4,some ⟨X4.heap.size,0,none⟩,d.l5,d.l5⟩,rfl,?_,sb1 (sb1 (sb1 (sb1 (sb1 (sb1 (sb2 (sb2 (GB.out))))))))⟩;have keep : ∀ k,w.heap.size + 1 + 1 < k → ∀ (W : World),True → (W.heap[k]? = W.heap[k]?):=fun _ _ _ _ => rfl;clear keep
 have same : ∀ k,w.heap.size + 1 + 1 < k → ((((((((w5.setCell ⟨w.heap.size + 1 + 1,4,none⟩ (.slice (some ⟨X4.heap.size,0,none⟩) d.l5 d.l5)).setCell ⟨w.heap.size + 1 + 1,5,none⟩ (.int .i64 c.now)).setCell ⟨w.heap.size + 1,0,none⟩ (.slice (some ⟨X0.heap.size,0,none⟩) d.l1 d.l1)).setCell ⟨w.heap.size + 1,1,none⟩ (.slice (some ⟨X1.heap.size,0,none⟩) d.l2 d.l2)).setCell ⟨w.heap.size + 1,2,none⟩ (.slice (some ⟨X2.heap.size,0,none⟩) d.l3 d.l3)).setCell ⟨w.heap.size + 1,3,none⟩ (.slice (some ⟨X3.heap.size,0,none⟩) d.l4 d.l4)).setCell ⟨w.heap.size + 1,4,none⟩ (.slice (some ⟨X4.heap.size,0,none⟩) d.l5 d.l5)).setCell ⟨w.heap.size + 1,5,none⟩ (.int .i64 c.now)).heap[k]? = w5.heap[k]?:=fun k hk => by
  rw [Below.heap_setCell _ _ _ _ (show k ≠ w.heap.size + 1 by omega),Below.heap_setCell _ _ _ _ (show k ≠ w.heap.size + 1 by omega),Below.heap_setCell _ _ _ _ (show k ≠ w.heap.size + 1 by omega),Below.heap_setCell _ _ _ _ (show k ≠ w.heap.size + 1 by omega),Below.heap_setCell _ _ _ _ (show k ≠ w.heap.size + 1 by omega),Below.heap_setCell _ _ _ _ (show k ≠ w.heap.size + 1 by omega),Below.heap_setCell _ _ _ _ (show k ≠ w.heap.size + 1 + 1 by omega),Below.heap_setCell _ _ _ _ (show k ≠ w.heap.size + 1 + 1 by omega)]
 refine ⟨fun k => if k < w1.heap.size then 1 else if k < w2.heap.size then 2 else if k < w3.heap.size then 3 else if k < w4.heap.size then 4 else 5,?_,?_,?_,?_,?_⟩
 ·refine Q1.out.keep (fun k hk s => same k (by have h9 : X0.heap.size ≤ k:=s.1;omega)) (fun k hk s => ⟨?_,?_⟩)
  ·have h9 : X0.heap.size ≤ k:=s.1
   show w.heap.size ≤ k
   omega
  ·have h9 : X0.heap.size ≤ k:=s.1;have h8 : k < w1.heap.size:=s.2
   show (if k < w1.heap.size then 1 else if k < w2.heap.size then 2 else if k < w3.heap.size then 3 else if k < w4.heap.size then 4 else 5) = 1
   rw [if_pos h8]
 ·refine Q2.out.keep (fun k hk s => same k (by have h9 : X1.heap.size ≤ k:=s.1;omega)) (fun k hk s => ⟨?_,?_⟩)
  ·have h9 : X1.heap.size ≤ k:=s.1
   show w.heap.size ≤ k
   omega
  ·have h9 : X1.heap.size ≤ k:=s.1;have h8 : k < w2.heap.size:=s.2
   show (if k < w1.heap.size then 1 else if k < w2.heap.size then 2 else if k < w3.heap.size then 3 else if k < w4.heap.size then 4 else 5) = 2
   rw [if_neg (by omega)];rw [if_pos h8]
 ·refine Q3.out.keep (fun k hk s => same k (by have h9 : X2.heap.size ≤ k:=s.1;omega)) (fun k hk s => ⟨?_,?_⟩)
  ·have h9 : X2.heap.size ≤ k:=s.1
   show w.heap.size ≤ k
   omega
  ·have h9 : X2.heap.size ≤ k:=s.1;have h8 : k < w3.heap.size:=s.2
   show (if k < w1.heap.size then 1 else if k < w2.heap.size then 2 else if k < w3.heap.size then 3 else if k < w4.heap.size then 4 else 5) = 3
   rw [if_neg (by omega)];rw [if_neg (by omega)];rw [if_pos h8]
 ·refine Q4.out.keep (fun k hk s => same k (by have h9 : X3.heap.size ≤ k:=s.1;omega)) (fun k hk s => ⟨?_,?_⟩)
  ·have h9 : X3.heap.size ≤ k:=s.1
   show w.heap.size ≤ k
   omega
  ·have h9 : X3.heap.size ≤ k:=s.1;have h8 : k < w4.heap.size:=s.2
   show (if k < w1.heap.size then 1 else if k < w2.heap.size then 2 else if k < w3.heap.size then 3 else if k < w4.heap.size then 4 else 5) = 4
   rw [if_neg (by omega)];rw [if_neg (by omega)];rw [if_neg (by omega)];rw [if_pos h8]
 ·refine P5.out.keep (fun k hk s => same k (by have h9 : X4.heap.size ≤ k:=s;omega)) (fun k hk s => ⟨?_,?_⟩)
  ·have h9 : X4.heap.size ≤ k:=s
   show w.heap.size ≤ k
   omega
  ·have h9 : X4.heap.size ≤ k:=s
   show (if k < w1.heap.size then 1 else if k < w2.heap.size then 2 else if k < w3.heap.size then 3 else if k < w4.heap.size then 4 else 5) = 5
   rw [if_neg (by omega)];rw [if_neg (by omega)];rw [if_neg (by omega)];rw [if_neg (by omega)];skip

def LFr (w : World) (h : Nat) (S : Nat → Prop) (zs : List ByteArray) (v : Value) : Prop :=
 ∃ a len cap,v = .slice a len cap ∧ zs.length = len ∧ len ≤ cap ∧ cap ≤ 9223372036854775807 ∧ (∀ (j : Nat) x,zs[j]? = some x → x.size ≤ 9223372036854775807) ∧
  (zs = [] ∨ (a = some ⟨h,0,none⟩ ∧ S h ∧ ∃ cu,w.heap[h]? = some (.cells cu 9 (0,0)) ∧ ∀ (j : Nat) x,zs[j]? = some x → cu[j]? = some (.string x)))
theorem LFr.keep {w w' : World} {h : Nat} {S S' : Nat → Prop} {zs : List ByteArray} {v : Value} (k : LFr w h S zs v) (hk : ∀ cu,S h → w.heap[h]? = some (.cells cu 9 (0,0)) → w'.heap[h]? = w.heap[h]?) (hs : h < w.heap.size → S h → S' h) : LFr w' h S' zs v:=by
 obtain ⟨a',l',c',h1,h2,h3,h4,h5,h6⟩:=k;refine ⟨a',l',c',h1,h2,h3,h4,h5,h6.imp id ?_⟩;rintro ⟨q1,q2,cu,q4,q5⟩;exact ⟨q1,hs (lt_of_some q4) q2,cu,(hk cu q2 q4).trans q4,q5⟩
def Fv.Fr (w : World) (h : Nat) (S : Nat → Prop) : Fv → Value → Prop
 | .s t,v => v = .string t ∧ t.size ≤ 9223372036854775807
 | .i n,v => v = .int .i64 n
 | .b x,v => v = .bool x
 | .l zs,v => LFr w h S zs v
theorem Fv.Fr.keep {w w' : World} {h : Nat} {S S' : Nat → Prop} {f : Fv} {v : Value} (k : f.Fr w h S v) (hk : ∀ cu,S h → w.heap[h]? = some (.cells cu 9 (0,0)) → w'.heap[h]? = w.heap[h]?) (hs : h < w.heap.size → S h → S' h) : f.Fr w' h S' v:=by
 cases f with
 | l zs => exact LFr.keep k hk hs
 | _ => exact k
theorem Fv.Fr.own {w : World} {h g : Nat} {S : Nat → Prop} {f : Fv} {v : Value} {cur : Array Value} {T : TypeId} (k : f.Fr w h S v) (hg : w.heap[g]? = some (.cells cur T (0,0))) (hT : ¬ T = 9) : f.Own w h S g v:=by
 cases f with
 | l zs =>
  obtain ⟨a',l',c',h1,h2,h3,h4,h5,h6⟩:=k;refine ⟨a',l',c',h1,h2,h3,h4,h5,h6.imp id ?_⟩;rintro ⟨q1,q2,cu,q4,q5⟩;refine ⟨q1,q2,?_,cu,q4,q5⟩;rintro rfl;rw [hg] at q4
  cases q4
  exact hT rfl
 | _ => exact k
theorem Fv.Own.fr {w : World} {h g : Nat} {S : Nat → Prop} {f : Fv} {v : Value} (k : f.Own w h S g v) : f.Fr w h S v:=by
 cases f with
 | l zs =>
  obtain ⟨a',l',c',h1,h2,h3,h4,h5,h6⟩:=k;refine ⟨a',l',c',h1,h2,h3,h4,h5,h6.imp id ?_⟩;rintro ⟨q1,q2,q3,cu,q4,q5⟩;exact ⟨q1,q2,cu,q4,q5⟩
 | _ => exact k
theorem Fv.Fr.one {w : World} {h : Nat} {S : Nat → Prop} {f : Fv} {v : Value} (k : f.Fr w h S v) : v.oneCell' = true:=by
 cases f with
 | l zs => obtain ⟨a',l',c',rfl,_⟩:=k;rfl
 | s t => obtain ⟨rfl,_⟩:=k;rfl
 | i n => cases (show v = .int .i64 n from k);rfl
 | b x => cases (show v = .bool x from k);rfl

structure VRecs (w : World) (S : Nat → Prop) (m : Nat) (rs : List (List Fv)) (vss : List (List Value)) (H : Nat → Nat → Nat) : Prop where
 len : vss.length = rs.length
 all : ∀ (j : Nat) vs,vss[j]? = some vs → vs.length = m
 rl : ∀ (j : Nat) r,rs[j]? = some r → r.length = m
 cell : ∀ (j : Nat) r vs,rs[j]? = some r → vss[j]? = some vs → ∀ (i : Nat) f,r[i]? = some f → ∃ v,vs[i]? = some v ∧ f.Fr w (H j i) S v
 inj : ∀ (j : Nat) r (i : Nat) zs (j' : Nat) r' (i' : Nat) zs',rs[j]? = some r → r[i]? = some (.l zs) → zs ≠ [] → rs[j']? = some r' → r'[i']? = some (.l zs') → zs' ≠ [] → H j i = H j' i' → j = j' ∧ i = i'

section
variable {w w' : World} {S S' : Nat → Prop} {m : Nat} {rs : List (List Fv)} {vss : List (List Value)} {H : Nat → Nat → Nat}
theorem VRecs.nil (w : World) (S : Nat → Prop) (m : Nat) (H : Nat → Nat → Nat) : VRecs w S m [] [] H:=⟨rfl,fun j vs h => by simp at h,fun j r h => by simp at h,fun j r vs h => by simp at h,fun j r i zs j' r' i' zs' h => by simp at h⟩
theorem VRecs.keep (h : VRecs w S m rs vss H) (hk : ∀ k cu,S k → w.heap[k]? = some (.cells cu 9 (0,0)) → w'.heap[k]? = w.heap[k]?) (hs : ∀ k,k < w.heap.size → S k → S' k) : VRecs w' S' m rs vss H :=
 ⟨h.len,h.all,h.rl,fun j r vs h1 h2 i f h3 => by
  obtain ⟨v,h4,h5⟩:=h.cell j r vs h1 h2 i f h3
  exact ⟨v,h4,h5.keep (hk _) (hs _)⟩,h.inj⟩
theorem VRecs.below (h : VRecs w S m rs vss H) (hb : Below w.heap.size w w') : VRecs w' S m rs vss H:=h.keep (fun k _ _ q => hb.block k (lt_of_some q)) (fun _ _ s => s)
theorem VRecs.grown (h : VRecs w S m rs vss H) {base n : Nat} {T : TypeId} {v : Value} {xs : List Value} (ho : w.ownsRow base T m v n xs) (hT : ¬ T = 9) (hg : w.grownBy w' v.ownBlock) : VRecs w' S m rs vss H:=by
 refine h.keep (fun k cu _ q => hg.block k (lt_of_some q) (fun e => ?_)) (fun _ _ s => s)
 rcases ho.2 with ⟨rfl,_⟩ | ⟨g,cap,cur,rfl,_,hgg,_⟩
 ·cases e
 ·cases e
  simp only [] at q;rw [hgg] at q
  cases q
  exact hT rfl
theorem VRecs.lt (h : VRecs w S m rs vss H) {j : Nat} {r : List Fv} {i : Nat} {zs : List ByteArray} (h1 : rs[j]? = some r) (h2 : r[i]? = some (.l zs)) (h3 : zs ≠ []) : H j i < w.heap.size:=by
 have hj : j < vss.length:=by rw [h.len];exact (List.getElem?_eq_some_iff.1 h1).1
 obtain ⟨v,_,a,len,cap,_,_,_,_,_,h9⟩:=h.cell j r _ h1 (List.getElem?_eq_getElem hj) i _ h2
 rcases h9 with h9 | ⟨_,_,cu,q4,_⟩
 ·exact absurd h9 h3
 ·exact lt_of_some q4
theorem VRecs.sel (h : VRecs w S m rs vss H) {rs' : List (List Fv)} {vss' : List (List Value)} (f : Nat → Nat) (hl : vss'.length = rs'.length) (hr : ∀ j,j < rs'.length → rs'[j]? = rs[f j]?) (hv : ∀ j,j < rs'.length → vss'[j]? = vss[f j]?)
  (hf : ∀ j j',j < rs'.length → j' < rs'.length → f j = f j' → j = j') : VRecs w S m rs' vss' (fun j => H (f j)):=by
 have lt1 : ∀ {j : Nat} {r},rs'[j]? = some r → j < rs'.length:=fun h => (List.getElem?_eq_some_iff.1 h).1
 have lt2 : ∀ {j : Nat} {r},vss'[j]? = some r → j < rs'.length:=fun h => by rw [← hl];exact (List.getElem?_eq_some_iff.1 h).1
 refine ⟨hl,fun j vs h1 => h.all (f j) vs (by rw [← hv j (lt2 h1)];exact h1),fun j r h1 => h.rl (f j) r (by rw [← hr j (lt1 h1)];exact h1),fun j r vs h1 h2 => h.cell (f j) r vs (by rw [← hr j (lt1 h1)];exact h1) (by rw [← hv j (lt1 h1)];exact h2),?_⟩;intro j r i zs j' r' i' zs' h1 h2 h3 h4 h5 h6 h7;obtain ⟨e1,e2⟩:=h.inj (f j) r i zs (f j') r' i' zs' (by rw [← hr j (lt1 h1)];exact h1) h2 h3 (by rw [← hr j' (lt1 h4)];exact h4) h5 h6 h7;exact ⟨hf j j' (lt1 h1) (lt1 h4) e1,e2⟩
theorem VRecs.push (h : VRecs w S m rs vss H) {r : List Fv} {vs : List Value} {hh : Nat → Nat} (hr : r.length = m) (hvs : vs.length = m) (hc : ∀ (i : Nat) f,r[i]? = some f → ∃ v,vs[i]? = some v ∧ f.Fr w (hh i) S v)
  (hn : ∀ (i : Nat) zs,r[i]? = some (.l zs) → zs ≠ [] → ∀ (j : Nat) r' (i' : Nat) zs',rs[j]? = some r' → r'[i']? = some (.l zs') → zs' ≠ [] → ¬ H j i' = hh i)
  (h1 : ∀ (i i' : Nat) zs zs',r[i]? = some (.l zs) → zs ≠ [] → r[i']? = some (.l zs') → zs' ≠ [] → i = i') :
  VRecs w S m (rs ++ [r]) (vss ++ [vs]) (fun j => if j = rs.length then hh else H j):=by
 have at1 : ∀ {α : Type} {l : List α} {x y : α} {j : Nat},(l ++ [x])[j]? = some y → (j = l.length ∧ y = x) ∨ (j < l.length ∧ l[j]? = some y):=by
  intro α l x y j hj
  by_cases e : j < l.length
  ·rw [List.getElem?_append_left e] at hj;exact .inr ⟨e,hj⟩
  ·rw [List.getElem?_append_right (by omega)] at hj
   rcases Nat.eq_zero_or_pos (j - l.length) with e0 | e0
   ·rw [e0] at hj;exact .inl ⟨by omega,by simpa using hj.symm⟩
   ·rw [List.getElem?_eq_none (by simp;omega)] at hj;cases hj
 refine ⟨by simp [h.len],fun j v hv => ?_,fun j r' hj => ?_,fun j r' v hj hv i f hf => ?_,fun j r1 i zs j' r2 i' zs' a1 a2 a3 b1 b2 b3 e => ?_⟩
 ·rcases at1 hv with ⟨_,rfl⟩ | ⟨_,hv⟩
  ·exact hvs
  ·exact h.all j v hv
 ·rcases at1 hj with ⟨_,rfl⟩ | ⟨_,hj⟩
  ·exact hr
  ·exact h.rl j r' hj
 ·rcases at1 hj with ⟨e1,rfl⟩ | ⟨e1,hj⟩
  ·rcases at1 hv with ⟨_,rfl⟩ | ⟨e2,hv⟩
   ·simp only [e1,if_true];exact hc i f hf
   ·have:=h.len;omega
  ·rcases at1 hv with ⟨e2,rfl⟩ | ⟨e2,hv⟩
   ·have:=h.len;omega
   ·simp only [if_neg (show ¬ j = rs.length by omega)];exact h.cell j r' v hj hv i f hf
 ·rcases at1 a1 with ⟨e1,rfl⟩ | ⟨e1,a4⟩ <;> rcases at1 b1 with ⟨e2,rfl⟩ | ⟨e2,b4⟩
  ·exact ⟨by omega,h1 _ _ _ _ a2 a3 b2 b3⟩
  ·simp only [e1,if_true,if_neg (show ¬ j' = rs.length by omega)] at e;exact absurd e.symm (hn i zs a2 a3 j' r2 i' zs' b4 b2 b3)
  ·simp only [e2,if_true,if_neg (show ¬ j = rs.length by omega)] at e;exact absurd e (hn i' zs' b2 b3 j r1 i zs a4 a2 a3)
  ·simp only [if_neg (show ¬ j = rs.length by omega),if_neg (show ¬ j' = rs.length by omega)] at e;exact h.inj j r1 i zs j' r2 i' zs' a4 a2 a3 b4 b2 b3 e
end

theorem flat_at {α : Type} {m : Nat} : ∀ {vss : List (List α)},(∀ (j : Nat) vs,vss[j]? = some vs → vs.length = m) → ∀ {j : Nat} {vs : List α} {i : Nat} {u : α},vss[j]? = some vs → vs[i]? = some u → vss.flatten[j * m + i]? = some u
 | [],_,j,vs,i,u,h,_ => by simp at h
 | x :: vss,hl,0,vs,i,u,h,hu => by
  obtain rfl : x = vs:=by simpa using h
  have hx:=hl 0 x rfl;have hi:=(List.getElem?_eq_some_iff.1 hu).1;rw [List.flatten_cons,List.getElem?_append_left (by omega),Nat.zero_mul,Nat.zero_add];exact hu
 | x :: vss,hl,j + 1,vs,i,u,h,hu => by
  have hx:=hl 0 x rfl;rw [List.flatten_cons,List.getElem?_append_right (by rw [hx,Nat.succ_mul];omega),hx,show (j + 1) * m + i - m = j * m + i by rw [Nat.succ_mul];omega];exact flat_at (fun j' vs' h' => hl (j' + 1) vs' (by simpa using h')) (by simpa using h) hu
theorem flat_inv {α : Type} {m : Nat} : ∀ {vss : List (List α)},(∀ (j : Nat) vs,vss[j]? = some vs → vs.length = m) → ∀ {k : Nat} {u : α},vss.flatten[k]? = some u → ∃ (j i : Nat) (vs : List α),vss[j]? = some vs ∧ vs[i]? = some u ∧ k = j * m + i
 | [],_,k,u,h => by simp at h
 | x :: vss,hl,k,u,h => by
  have hx:=hl 0 x rfl;rw [List.flatten_cons] at h
  by_cases e : k < m
  ·rw [List.getElem?_append_left (by omega)] at h;exact ⟨0,k,x,rfl,h,by omega⟩
  ·rw [List.getElem?_append_right (by omega),hx] at h;obtain ⟨j,i,vs,h1,h2,h3⟩:=flat_inv (fun j' vs' h' => hl (j' + 1) vs' (by simpa using h')) h;exact ⟨j + 1,i,vs,by simpa using h1,h2,by rw [Nat.succ_mul];omega⟩
theorem flat_len {α : Type} {m : Nat} : ∀ {vss : List (List α)},(∀ (j : Nat) vs,vss[j]? = some vs → vs.length = m) → vss.flatten.length = vss.length * m
 | [],_ => by simp
 | x :: vss,hl => by
  have hx:=hl 0 x rfl;rw [List.flatten_cons,List.length_append,flat_len (fun j' vs' h' => hl (j' + 1) vs' (by simpa using h')),hx,List.length_cons,Nat.succ_mul]
  omega
theorem VRecs.one {w : World} {S : Nat → Prop} {m : Nat} {rs : List (List Fv)} {vss : List (List Value)} {H : Nat → Nat → Nat} (h : VRecs w S m rs vss H) : ∀ u ∈ vss.flatten,u.oneCell' = true:=by
 intro u hu;obtain ⟨k,hk,rfl⟩:=List.mem_iff_getElem.1 hu;obtain ⟨j,i,vs,h1,h2,_⟩:=flat_inv h.all (List.getElem?_eq_getElem hk)
 have hj : j < rs.length:=by rw [← h.len];exact (List.getElem?_eq_some_iff.1 h1).1
 have hr:=List.getElem?_eq_getElem hj
 have hi : i < (rs[j]).length:=by rw [h.rl j _ hr,← h.all j vs h1];exact (List.getElem?_eq_some_iff.1 h2).1
 obtain ⟨v,h3,h4⟩:=h.cell j _ vs hr h1 i _ (List.getElem?_eq_getElem hi);rw [h2] at h3
 cases h3
 exact h4.one

theorem VRecs.own {w : World} {S : Nat → Prop} {m : Nat} {T : TypeId} {rs : List (List Fv)} {vss : List (List Value)} {H : Nat → Nat → Nat} (h : VRecs w S m rs vss H) {base n : Nat} {v : Value} (ho : w.ownsRow base T m v n vss.flatten) (hn : n = rs.length) (hT : ¬ T = 9) (hS : ∀ g,v.ownBlock = some g → S g) :
  ∃ a cap,v = .slice a rs.length cap ∧ ROwn w a rs.length cap m T rs S:=by
 subst hn
 rcases ho.2 with ⟨rfl,h0⟩ | ⟨g,cap,cur,rfl,_,hgg,h1,h2,h3,h4⟩
 ·obtain rfl : rs = []:=List.eq_nil_of_length_eq_zero h0;exact ⟨none,0,rfl,ROwn.nil _ _ _ _ _ (by omega)⟩
 ·refine ⟨_,cap,rfl,rfl,h1,by unfold maxLen at h2;omega,.inr ⟨g,cur,H,rfl,hgg,hS g rfl,h.rl,fun j r hj i f hi => ?_,h.inj⟩⟩
  have hjl : j < vss.length:=by rw [h.len];exact (List.getElem?_eq_some_iff.1 hj).1
  have hv:=List.getElem?_eq_getElem hjl;obtain ⟨u,h5,h6⟩:=h.cell j r _ hj hv i f hi;have h7:=flat_at h.all hv h5;rw [← h4,List.getElem?_take] at h7
  split at h7
  ·exact ⟨u,by simpa using h7,h6.own hgg hT⟩
  ·cases h7
theorem ROwn.recs {w : World} {S : Nat → Prop} {m : Nat} {T : TypeId} {a : Option Addr} {len cap : Nat} {rs : List (List Fv)} (h : ROwn w a len cap m T rs S) :
  ∃ vss H,VRecs w S m rs vss H ∧ ∀ (k : Nat) u,vss.flatten[k]? = some u → ∃ g,a = some ⟨g,0,none⟩ ∧ S g ∧ w.cell? ⟨g,k,none⟩ = some u:=by
 obtain ⟨h1,h2,h3,h4⟩:=h
 rcases h4 with rfl | ⟨g,cur,H,rfl,h5⟩
 ·exact ⟨[],fun _ _ => 0,VRecs.nil _ _ _ _,fun k u hu => by simp at hu⟩
 ·have hget : ∀ (j i : Nat),((List.range rs.length).map fun j => (List.range m).map fun i => cur.getD (j * m + i) undef)[j]? = if j < rs.length then some ((List.range m).map fun i => cur.getD (j * m + i) undef) else none:=by
   intro j _;rw [List.getElem?_map]
   split
   ·next e => rw [List.getElem?_range e];rfl
   ·next e => rw [List.getElem?_eq_none (by simpa using e)];rfl
  have hval : ∀ (j : Nat) r,rs[j]? = some r → ∀ (i : Nat),i < m → ∃ f v,r[i]? = some f ∧ cur[j * m + i]? = some v ∧ f.Own w (H j i) S g v ∧ ((List.range m).map fun i => cur.getD (j * m + i) undef)[i]? = some v:=by
   intro j r hr i hi;have hl:=h5.len j r hr;have hf:=List.getElem?_eq_getElem (l:=r) (i:=i) (by omega);obtain ⟨v,q1,q2⟩:=h5.cell j r hr i _ hf;refine ⟨_,v,hf,q1,q2,?_⟩;rw [List.getElem?_map,List.getElem?_range hi]
   simp [Array.getD_eq_getD_getElem?,q1]
  have hvrecs : VRecs w S m rs ((List.range rs.length).map fun j => (List.range m).map fun i => cur.getD (j * m + i) undef) H:=by
   refine ⟨by simp,fun j vs hv => ?_,h5.len,fun j r vs hr hv i f hf => ?_,h5.inj⟩
   ·rw [hget j 0] at hv
    split at hv
    ·cases hv;simp
    ·cases hv
   ·rw [hget j 0,if_pos (List.getElem?_eq_some_iff.1 hr).1] at hv
    cases hv
    have hi : i < m:=by rw [← h5.len j r hr];exact (List.getElem?_eq_some_iff.1 hf).1
    obtain ⟨f',v,q1,q2,q3,q4⟩:=hval j r hr i hi;rw [hf] at q1
    cases q1
    exact ⟨v,q4,q3.fr⟩
  refine ⟨_,H,hvrecs,fun k u hu => ⟨g,rfl,h5.inS,?_⟩⟩;obtain ⟨j,i,vs,e1,e2,rfl⟩:=flat_inv hvrecs.all hu;rw [hget j 0] at e1
  split at e1
  ·next e =>
   cases e1
   have hi : i < m:=by have:=(List.getElem?_eq_some_iff.1 e2).1;simpa using this
   obtain ⟨f',v,q1,q2,q3,q4⟩:=hval j _ (List.getElem?_eq_getElem e) i hi;rw [e2] at q4
   cases q4
   exact (cellK h5.blk _).trans q2
  ·cases e1

end Rc
end Go.Proofs.YtcogpoamhflgjaaGreatDoor

namespace Go.Proofs.YtcogpoamhflgjaaGreatDoor
open Go.RowKit
namespace Rc

theorem less_irr : ∀ x : List UInt8,Op.bytesLess x x = false
 | [] => rfl
 | a :: x => by simp [Op.bytesLess,less_irr x]
theorem less_trans : ∀ x y z : List UInt8,Op.bytesLess x y = true → Op.bytesLess y z = true → Op.bytesLess x z = true
 | _,[],_,h,_ => by cases ‹List UInt8› <;> simp [Op.bytesLess] at h
 | _,_ :: _,[],_,h => by simp [Op.bytesLess] at h
 | [],_ :: _,_ :: _,_,_ => rfl
 | a :: x,b :: y,c :: z,h,k => by
  simp only [Op.bytesLess,Bool.or_eq_true,decide_eq_true_eq,Bool.and_eq_true,beq_iff_eq] at h k ⊢
  rcases h with h | ⟨rfl,h⟩
  ·rcases k with k | ⟨rfl,k⟩
   ·exact .inl (UInt8.lt_trans h k)
   ·exact .inl h
  ·rcases k with k | ⟨rfl,k⟩
   ·exact .inl k
   ·exact .inr ⟨rfl,less_trans x y z h k⟩
section
variable {α : Type} {nm : α → ByteArray} {xs : List α} {t : ByteArray}
def RisBy (nm : α → ByteArray) (xs : List α) : Prop:=∀ (j : Nat) x y,xs[j + 1]? = some x → xs[j]? = some y → Op.bytesLess (nm y).toList (nm x).toList = true
theorem RisBy.lt (h : RisBy nm xs) {i j : Nat} {x y : α} (hij : i < j) (hi : xs[i]? = some x) (hj : xs[j]? = some y) : Op.bytesLess (nm x).toList (nm y).toList = true:=by
 induction j generalizing y with
 | zero => omega
 | succ j ih =>
  by_cases e : i = j
  ·subst e;exact h i y x hj hi
  ·have hl : j < xs.length:=by have:=(List.getElem?_eq_some_iff.1 hj).1;omega
   have hz : xs[j]? = some (xs[j]'hl):=List.getElem?_eq_getElem _;exact less_trans _ _ _ (ih (by omega) hz) (h j y _ hj hz)
theorem RisBy.inj (h : RisBy nm xs) {i j : Nat} {x y : α} (hi : xs[i]? = some x) (hj : xs[j]? = some y) (e : nm x = nm y) : i = j ∧ x = y:=by
 have hij : i = j:=by
  rcases Nat.lt_trichotomy i j with k | k | k
  ·have:=h.lt k hi hj;rw [e,less_irr] at this;cases this
  ·exact k
  ·have:=h.lt k hj hi;rw [e,less_irr] at this;cases this
 subst hij;rw [hi] at hj;exact ⟨rfl,Option.some.inj hj⟩
def pl (nm : α → ByteArray) (xs : List α) (t : ByteArray) : Nat:=xs.findIdx (fun x => !Op.bytesLess (nm x).toList t.toList)
def hit (nm : α → ByteArray) (xs : List α) (t : ByteArray) : Bool:=match xs[pl nm xs t]? with | some x => (nm x).toList == t.toList | none => false
theorem pl_at {k : Nat} {x : α} (h : ∀ (j : Nat) y,j < k → xs[j]? = some y → Op.bytesLess (nm y).toList t.toList = true) (hx : xs[k]? = some x) (hl : Op.bytesLess (nm x).toList t.toList = false) : pl nm xs t = k:=by
 have hk : k < xs.length:=(List.getElem?_eq_some_iff.1 hx).1;have hxe : xs[k] = x:=(List.getElem?_eq_some_iff.1 hx).2;unfold pl;rw [List.findIdx_eq hk];refine ⟨by rw [hxe,hl];rfl,fun j hj => ?_⟩;rw [h j _ hj (List.getElem?_eq_getElem (by omega))]
 rfl
theorem pl_end (h : ∀ (j : Nat) y,xs[j]? = some y → Op.bytesLess (nm y).toList t.toList = true) : pl nm xs t = xs.length:=by
 unfold pl;rw [List.findIdx_eq_length];intro x hx;obtain ⟨j,hj,rfl⟩:=List.mem_iff_getElem.1 hx;rw [h j _ (List.getElem?_eq_getElem hj)]
 rfl
theorem tl_inj {a b : ByteArray} (h : (a.toList == b.toList) = true) : a = b:=by
 by_cases e : a = b
 ·exact e
 ·rw [tl_no e] at h;cases h
theorem hit_at (hr : RisBy nm xs) {j : Nat} {x : α} (hx : xs[j]? = some x) (hn : nm x = t) : pl nm xs t = j ∧ hit nm xs t = true:=by
 have h : pl nm xs t = j:=pl_at (fun i y hi hy => by rw [← hn];exact hr.lt hi hy hx) hx (by rw [hn];exact less_irr _);refine ⟨h,?_⟩;unfold hit;rw [h,hx];exact tl_yes hn
theorem hit_yes (h : hit nm xs t = true) : ∃ x,xs[pl nm xs t]? = some x ∧ nm x = t:=by
 unfold hit at h
 split at h
 ·next x hx => exact ⟨x,hx,tl_inj h⟩
 ·cases h
def RowOk (ok : α → Prop) (nm : α → ByteArray) (xs : List α) (most : Int) : Prop:=(xs.length : Int) ≤ most ∧ (∀ (j : Nat) x,xs[j]? = some x → ok x) ∧ RisBy nm xs
end
theorem BoolB.yes {p : Prop} {w w' : World} {e : Ending} (h : BoolB p w e w') (hp : p) : e = .returned (.bool true) ∧ Below w.heap.size w w':=by
 obtain ⟨r,rfl,hr,hb⟩:=h;exact ⟨by rw [hr.2 hp],hb⟩
theorem BoolB.no {p : Prop} {w w' : World} {e : Ending} (h : BoolB p w e w') (hp : ¬ p) : e = .returned (.bool false) ∧ Below w.heap.size w w':=by
 obtain ⟨r,rfl,hr,hb⟩:=h
 cases r
 ·exact ⟨rfl,hb⟩
 ·exact absurd (hr.1 rfl) hp
theorem BoolB.t {p : Prop} {w w' : World} (hp : p) (hb : Below w.heap.size w w') : BoolB p w (.returned (.bool true)) w':=⟨true,rfl,⟨fun _ => hp,fun _ => rfl⟩,hb⟩
theorem BoolB.f {p : Prop} {w w' : World} (hp : ¬ p) (hb : Below w.heap.size w w') : BoolB p w (.returned (.bool false)) w':=⟨false,rfl,⟨fun h => (by cases h),fun h => absurd h hp⟩,hb⟩
def ndOk (x : Nd) : Prop:=NodeOk x.n x.z x.c x.s x.u x.zs
def kdOk (x : Kd) : Prop:=ClassOk x.n x.z
def vdOk (v : Vd) : Prop:=VolOk v.n v.c v.z v.k v.x v.m v.y v.zs
def xdOk (x : Xd) : Prop:=ClaimOk x.n x.z x.k x.v
def pdOk (x : Pd) : Prop:=PodOk x.n x.c x.z x.zs x.d x.p

end Rc
end Go.Proofs.YtcogpoamhflgjaaGreatDoor

namespace Go.Proofs.YtcogpoamhflgjaaGreatDoor
open Go.RowKit
namespace Rc
open Mk

def Bw (y W : World) : Prop:=Below y.heap.size y W
theorem Bw.refl (y : World) : Bw y y:=Below.refl _ _
theorem Bw.below {y W W' : World} (h : Bw y W) (hb : Below W.heap.size W W') : Bw y W':=Below.trans h (hb.mono (Below.size h))
theorem Bw.kept {y W W' : World} {S : Nat → Prop} (h : Bw y W) (hk : KeptS S W W') (hs : ∀ k,S k → y.heap.size ≤ k) : Bw y W':=Below.trans h (hk.low (Below.size h) hs)
theorem Bw.out {y W : World} (h : Bw y W) : Below y.heap.size y W:=h
theorem Bw.le {y W : World} (h : Bw y W) : y.heap.size ≤ W.heap.size:=Below.size h

def TOwn (w : World) (a : Option Addr) (l c : Nat) (zs : List ByteArray) (S : Nat → Prop) : Prop :=
 TxRow w a l c zs ∧ (zs = [] ∨ ∃ g cur,a = some ⟨g,0,none⟩ ∧ S g ∧ w.heap[g]? = some (.cells cur 9 (0,0)))
theorem TOwn.keep {w w' : World} {a : Option Addr} {l c : Nat} {zs : List ByteArray} {S S' : Nat → Prop} (h : TOwn w a l c zs S) (hk : ∀ k,k < w.heap.size → S k → w'.heap[k]? = w.heap[k]?) (hs : ∀ k,k < w.heap.size → S k → S' k) : TOwn w' a l c zs S':=by
 obtain ⟨⟨h1,h2,h3,h4,h5⟩,h6⟩:=h
 rcases h6 with rfl | ⟨g,cur,rfl,hS,hg⟩
 ·exact ⟨⟨h1,h2,h3,h4,.inl rfl⟩,.inl rfl⟩
 ·have hg':=(hk g (lt_of_some hg) hS).trans hg;refine ⟨⟨h1,h2,h3,h4,h5.imp id ?_⟩,.inr ⟨g,cur,rfl,hs g (lt_of_some hg) hS,hg'⟩⟩;rintro ⟨b,o,e,hlt,hc⟩
  cases e
  exact ⟨g,0,rfl,lt_of_some hg',fun j x hx => by have:=hc j x hx;rw [cellK hg] at this;rw [cellK hg'];exact this⟩
theorem TOwn.below {w w' : World} {a : Option Addr} {l c : Nat} {zs : List ByteArray} {S : Nat → Prop} (h : TOwn w a l c zs S) (hb : Below w.heap.size w w') : TOwn w' a l c zs S:=h.keep (fun k hk _ => hb.block k hk) (fun _ _ s => s)
theorem TOwn.into {w : World} {a : Option Addr} {l c : Nat} {zs : List ByteArray} {S S' : Nat → Prop} (h : TOwn w a l c zs S) (hs : ∀ k,k < w.heap.size → S k → S' k) : TOwn w a l c zs S':=h.keep (fun _ _ _ => rfl) hs
theorem TOwn.of_row {w : World} {base n : Nat} {v : Value} {zs : List ByteArray} (h : w.ownsRow base 9 1 v n (zs.map Value.string)) (hs : ∀ (j : Nat) x,zs[j]? = some x → x.size ≤ 9223372036854775807) : ∃ a c,v = .slice a n c ∧ TOwn w a n c zs (fun k => base ≤ k):=by
 obtain ⟨hl,h⟩:=h
 have hl' : zs.length = n:=by simpa using hl
 rcases h with ⟨rfl,rfl⟩ | ⟨g,cap,cur,rfl,hbg,hg,hnc,hcm,hsz,htk⟩
 ·obtain rfl : zs = []:=List.eq_nil_of_length_eq_zero hl';exact ⟨none,0,rfl,⟨rfl,Nat.le_refl _,by omega,fun j x hx => by simp at hx,.inl rfl⟩,.inl rfl⟩
 ·refine ⟨some ⟨g,0,none⟩,cap,rfl,⟨hl',hnc,by unfold maxLen at hcm;omega,hs,.inr ⟨g,0,rfl,lt_of_some hg,fun j x hx => ?_⟩⟩,.inr ⟨g,cur,rfl,hbg,hg⟩⟩;rw [Nat.zero_add,cellK hg]
  have hj : j < n:=by have:=(List.getElem?_eq_some_iff.1 hx).1;omega
  have e1 : (cur.toList.take (n * 1))[j]? = some (.string x):=by rw [htk];simp [hx]
  rw [List.getElem?_take,if_pos (by omega)] at e1
  simpa using e1
theorem owns_below {w w' : World} {base n m : Nat} {T : TypeId} {v : Value} {xs : List Value} (h : w.ownsRow base T m v n xs) (hb : Below w.heap.size w w') : w'.ownsRow base T m v n xs:=by
 refine ⟨h.1,h.2.imp id ?_⟩;rintro ⟨g,cap,cur,h1,h2,h3,h4⟩;exact ⟨g,cap,cur,h1,h2,(hb.block _ (lt_of_some h3)).trans h3,h4⟩

theorem mkN_up : ∀ (r : List Fv) (k : Int),(∀ (i : Nat) zs,r[i]? = some (.l zs) → zs.length ≤ 1048576) → mkN k r ≤ k + r.length * 1048577
 | [],k,_ => by simp [mkN]
 | f :: r,k,h => by
  have h1:=mkN_up r (mkN1 k f) (fun i zs hi => h (i + 1) zs (by simpa using hi))
  have h2 : mkN1 k f ≤ k + 1048577:=by
   cases f with
   | l zs => have:=h 0 zs rfl;simp only [mkN1];omega
   | _ => simp only [mkN1];omega
  simp only [mkN,List.length_cons]
  omega
theorem mkNs_up {m : Nat} : ∀ (rs : List (List Fv)) (k : Int),(∀ (j : Nat) r,rs[j]? = some r → r.length ≤ m ∧ ∀ (i : Nat) zs,r[i]? = some (.l zs) → zs.length ≤ 1048576) → mkNs k rs ≤ k + rs.length * (m * 1048577)
 | [],k,_ => by simp [mkNs]
 | r :: rs,k,h => by
  have h1:=mkNs_up rs (mkN k r) (fun j r' hj => h (j + 1) r' (by simpa using hj));obtain ⟨h2,h3⟩:=h 0 r rfl;have h4:=mkN_up r k h3;have h5 : r.length * 1048577 ≤ m * 1048577:=Nat.mul_le_mul_right _ h2
  have h6 : ((rs.length + 1 : Nat) : Int) * (m * 1048577) = rs.length * (m * 1048577) + m * 1048577:=by
   rw [Int.natCast_add]
   simp [Int.add_mul]
  simp only [mkNs,List.length_cons];rw [h6]
  omega
theorem flat_fit {α : Type} {F : α → List Fv} {xs : List α} {m : Nat} (hm : ∀ x,(F x).length ≤ m) (hl : ∀ (j : Nat) x,xs[j]? = some x → ∀ (i : Nat) zs,(F x)[i]? = some (.l zs) → zs.length ≤ 1048576) (hx : xs.length ≤ 1048576) (hm8 : m ≤ 8) (k : Int) : mkNs k (xs.map F) ≤ k + 8796101410816:=by
 have h:=mkNs_up (m:=m) (xs.map F) k (fun j r hj => by
  rw [List.getElem?_map] at hj;obtain ⟨x,h1,rfl⟩:=Option.map_eq_some_iff.1 hj
  exact ⟨hm x,hl j x h1⟩)
 rw [List.length_map] at h;have h2 : xs.length * (m * 1048577) ≤ 1048576 * (8 * 1048577):=Nat.mul_le_mul hx (Nat.mul_le_mul_right _ hm8)
 have h3 : ((xs.length * (m * 1048577) : Nat) : Int) = (xs.length : Int) * ((m : Int) * 1048577):=by rw [Int.natCast_mul,Int.natCast_mul];rfl
 rw [← h3] at h
 omega
theorem ClFit.marks2 {c : Cl} (h : ClFit c) : mkCn 1 c.raw ≤ 1000000000000000:=by
 have one : ∀ {zs zs' : List ByteArray},zs.length ≤ 1048576 → some (Fv.l zs) = some (.l zs') → zs'.length ≤ 1048576:=fun h e => by cases e;exact h
 have a1:=fun k => flat_fit (F:=ndF) (m:=7) (xs:=c.ns) (fun _ => Nat.le_refl _) (fun j x hx i zs hi => by
  rcases i with _ | _ | _ | _ | _ | _ | _ | i <;> first | (simp [ndF] at hi;done) | exact one (h.f1 j x hx) hi) h.l1 (by decide) k
 have a2:=fun k => flat_fit (F:=kdF) (m:=4) (xs:=c.ks) (fun _ => Nat.le_refl _) (fun j x hx i zs hi => by
  rcases i with _ | _ | _ | _ | i <;> (simp [kdF] at hi)) h.l2 (by decide) k
 have a3:=fun k => flat_fit (F:=vdF) (m:=8) (xs:=c.vs) (fun _ => Nat.le_refl _) (fun j x hx i zs hi => by
  rcases i with _ | _ | _ | _ | _ | _ | _ | _ | i <;> first | (simp [vdF] at hi;done) | exact one (h.f3 j x hx) hi) h.l3 (by decide) k
 have a4:=fun k => flat_fit (F:=xdF) (m:=5) (xs:=c.xs) (fun _ => Nat.le_refl _) (fun j x hx i zs hi => by
  rcases i with _ | _ | _ | _ | _ | i <;> (simp [xdF] at hi)) h.l4 (by decide) k
 have a5:=fun k => flat_fit (F:=pdF) (m:=6) (xs:=c.ps) (fun _ => Nat.le_refl _) (fun j x hx i zs hi => by
  rcases i with _ | _ | _ | _ | _ | _ | i <;> first | (simp [pdF] at hi;done) | exact one (h.f5 j x hx) hi) h.l5 (by decide) k
 unfold mkCn Cl.raw;have b1:=a1 1;have b2:=a2 (mkNs 1 (c.ns.map ndF));have b3:=a3 (mkNs (mkNs 1 (c.ns.map ndF)) (c.ks.map kdF));have b4:=a4 (mkNs (mkNs (mkNs 1 (c.ns.map ndF)) (c.ks.map kdF)) (c.vs.map vdF));have b5:=a5 (mkNs (mkNs (mkNs (mkNs 1 (c.ns.map ndF)) (c.ks.map kdF)) (c.vs.map vdF)) (c.xs.map xdF));simp only []
 omega
theorem ClFit.marks {c : Cl} (h : ClFit c) : mkCn 1 c.raw ≤ 1152921504606846976:=Int.le_trans h.marks2 (by decide)

end Rc
end Go.Proofs.YtcogpoamhflgjaaGreatDoor

namespace Go.Proofs.YtcogpoamhflgjaaGreatDoor
open Go.RowKit
namespace Ap

def OwnAns (zs : List ByteArray) (w : World) (a : Option Addr) (len cap : Nat) (w' : World) : Prop :=
 TxRow w' a len cap zs ∧ (zs = [] ∨ ∃ g cur,a = some ⟨g,0,none⟩ ∧ w.heap.size ≤ g ∧ w'.heap[g]? = some (.cells cur 9 (0,0))) ∧ Below w.heap.size w w'
theorem own_of {w w0 : World} {base n : Nat} {v : Value} {zs : List ByteArray} (h : w.ownsRow base 9 1 v n (zs.map Value.string)) (hb : Below base w0 w) (hB : base = w0.heap.size) (hs : ∀ (j : Nat) x,zs[j]? = some x → x.size ≤ 9223372036854775807) :
  ∃ a l c,v = .slice a l c ∧ OwnAns zs w0 a l c w:=by
 subst hB;obtain ⟨hl,h⟩:=h
 have hl' : zs.length = n:=by simpa using hl
 rcases h with ⟨rfl,rfl⟩ | ⟨g,cap,cur,rfl,hbg,hg,hnc,hcm,hsz,htk⟩
 ·obtain rfl : zs = []:=List.eq_nil_of_length_eq_zero hl';exact ⟨none,0,0,rfl,⟨rfl,Nat.le_refl _,by omega,fun j x hx => by simp at hx,.inl rfl⟩,.inl rfl,hb⟩
 ·refine ⟨some ⟨g,0,none⟩,n,cap,rfl,⟨hl',hnc,by unfold maxLen at hcm;omega,hs,.inr ⟨g,0,rfl,lt_of_some hg,fun j x hx => ?_⟩⟩,.inr ⟨g,cur,rfl,hbg,hg⟩,hb⟩;rw [Nat.zero_add,cellK hg]
  have hj : j < n:=by have:=(List.getElem?_eq_some_iff.1 hx).1;omega
  have e1 : (cur.toList.take (n * 1))[j]? = some (.string x):=by rw [htk];simp [hx]
  rw [List.getElem?_take,if_pos (by omega)] at e1
  simpa using e1
theorem news_of {w : World} {ad : Addr} {len cap : Nat} {zs : List ByteArray} (h : TxRow w (some ad) len cap zs) : ∀ j u,(zs.map Value.string)[j]? = some u → w.cell? (ad.add j) = some u:=by
 intro j u hu;rw [List.getElem?_map] at hu;obtain ⟨x,hx,rfl⟩:=Option.map_eq_some_iff.1 hu
 rcases h.2.2.2.2 with h | ⟨b,o,e,_,hc⟩
 ·subst h;simp at hx
 ·cases e
  rw [Addr.add_lit];exact hc j x hx

theorem ownNames_any (a : Option Addr) (len cap : Nat) (zs : List ByteArray) (w : World) (hr : TxRow w a len cap zs) (hl : len ≤ 8001) :
  Calls Tryz.prog 110 #[.slice a len cap] w fun e w' => ∃ a' l c,e = .returned (.slice a' l c) ∧ OwnAns zs w a' l c w':=by
 cases a with
 | none =>
  obtain rfl : zs = []:=by
   rcases hr.2.2.2.2 with h | ⟨b,o,e,_⟩
   ·exact h
   ·cases e
  obtain rfl : len = 0:=by have:=hr.1;simpa using this.symm
  clear hr
  go_enter Tryz.func110,Tryz.ntmps110
  go_wp2
  go_ret;exact ⟨_,_,_,rfl,⟨rfl,Nat.le_refl _,by omega,fun j x hx => by simp at hx,.inl rfl⟩,.inl rfl,Below.refl _ _⟩
 | some ad =>
  have HN:=hidK (news_of hr);have HZ:=hidK hr.2.2.2.1;have hzl : zs.length = len:=hr.1;clear hr;obtain ⟨i0,hi,hz0,hz1,hz2⟩:=info_parts infoStr
  go_enter Tryz.func110,Tryz.ntmps110
  go_wp2_with (first | (at_builtin;refine wpList_append_own _ rfl _ _ 29 rfl w.heap.size 9 i0 (.string ⟨#[]⟩) 1 16 Tryz.underlying29 hi hz0 hz1 hz2 rfl (by decide) _ 0 _ rfl (World.ownsRow_nil w w.heap.size 9 1) ad len cap (zs.map Value.string) rfl ?c1 HN.out ?c3 ?c4 ?c5 (Nat.le_refl _) ?_))
  case c1 => simpa using hzl
  case c3 => intro u hu;obtain ⟨x,_,rfl⟩:=List.mem_map.1 hu;rfl
  case c4 => unfold maxLen;omega
  case c5 => omega
  intro v' w3 hown3 hgrow hv;have HB3:=hidK ((Below.refl w.heap.size w).grown hgrow (Nat.le_refl _) (fun k hk => by cases hk));have HO:=hidK hown3;clear hown3 hgrow hv
  go_wp2
  go_ret;obtain ⟨a',l,c,rfl,h2⟩:=own_of HO.out HB3.out rfl HZ.out;exact ⟨a',l,c,rfl,h2⟩

theorem OwnAns.set {zs : List ByteArray} {w w' : World} {a : Option Addr} {l p b i X : Nat} {v : Value} (h : TxRow w' a l p zs ∧ (zs = [] ∨ ∃ g cur,a = some ⟨g,0,none⟩ ∧ X ≤ g ∧ w'.heap[g]? = some (.cells cur 9 (0,0))) ∧ Below w.heap.size w w') (hb : w.heap.size ≤ b) (hX : b < X) :
  TxRow (w'.setCell ⟨b,i,none⟩ v) a l p zs ∧ (zs = [] ∨ ∃ g cur,a = some ⟨g,0,none⟩ ∧ X ≤ g ∧ (w'.setCell ⟨b,i,none⟩ v).heap[g]? = some (.cells cur 9 (0,0))) ∧ Below w.heap.size w (w'.setCell ⟨b,i,none⟩ v):=by
 obtain ⟨⟨h1,h2,h3,h4,h5⟩,h6,h7⟩:=h;refine ⟨⟨h1,h2,h3,h4,?_⟩,?_,h7.setCell hb v⟩
 ·rcases h6 with h6 | ⟨g,cur,rfl,hg,hh⟩
  ·exact .inl h6
  ·rcases h5 with h5 | ⟨g',o,e,hl,hc⟩
   ·exact .inl h5
   ·cases e
    have hs : (w'.setCell ⟨b,i,none⟩ v).heap[g]? = w'.heap[g]?:=Below.heap_setCell _ _ _ _ (show g ≠ b by omega);exact .inr ⟨g,0,rfl,by simpa [World.setCell] using hl,fun j x hx => by have:=hc j x hx;simp only [World.cell?,hs] at this ⊢;exact this⟩
 ·rcases h6 with h6 | ⟨g,cur,rfl,hg,hh⟩
  ·exact .inl h6
  ·exact .inr ⟨g,cur,rfl,hg,(Below.heap_setCell _ _ _ _ (show g ≠ b by omega)).trans hh⟩

theorem scopy_any (n : ByteArray) (c : Int) (z : ByteArray) (k : ByteArray) (x : Bool) (m : ByteArray) (y : Bool) (a : Option Addr) (len cap : Nat) (zs : List ByteArray) (w : World) (hr : TxRow w a len cap zs) (hl : len ≤ 8001) :
  Calls Tryz.prog 38 #[.agg #[.string n,.int .i64 c,.string z,.string k,.bool x,.string m,.bool y,.slice a len cap]] w fun e w' => ∃ a' l p,e = .returned (.agg #[.string n,.int .i64 c,.string z,.string k,.bool x,.string m,.bool y,.slice a' l p]) ∧ OwnAns zs w a' l p w':=by
 have hown : (((w.alloc (.cells #[.string n,.int .i64 c,.string z,.string k,.bool x,.string m,.bool y,.slice a len cap] 45)).alloc (.cells #[.string ⟨#[]⟩,.int .i64 0,.string ⟨#[]⟩,.string ⟨#[]⟩,.bool false,.string ⟨#[]⟩,.bool false,.slice none 0 0] 45)).alloc (.cells #[] 9)).ownsRow (w.heap.size + 1 + 1) 9 1 (.slice (some ⟨w.heap.size + 1 + 1,0,none⟩) 0 0) 0 []:=⟨rfl,.inr ⟨w.heap.size + 1 + 1,0,#[],rfl,Nat.le_refl _,heap3_2 _ _ _ _,Nat.le_refl _,by unfold maxLen;omega,rfl,rfl⟩⟩;have HOW:=hidK hown;have hr3:=hr.below (below3 w (.cells #[.string n,.int .i64 c,.string z,.string k,.bool x,.string m,.bool y,.slice a len cap] 45) (.cells #[.string ⟨#[]⟩,.int .i64 0,.string ⟨#[]⟩,.string ⟨#[]⟩,.bool false,.string ⟨#[]⟩,.bool false,.slice none 0 0] 45) (.cells #[] 9));have HZ:=hidK hr.2.2.2.1;have hzl : zs.length = len:=hr.1;have HR3:=hidK hr3;clear hown hr3;obtain ⟨i0,hi,hz0,hz1,hz2⟩:=info_parts infoStr
 cases a with
 | none =>
  obtain rfl : zs = []:=by
   rcases hr.2.2.2.2 with h | ⟨b,o,e,_⟩
   ·exact h
   ·cases e
  obtain rfl : len = 0:=by simpa using hzl.symm
  clear hr HOW HR3 hi hz0 hz1 hz2
  go_enter Tryz.func38,Tryz.ntmps38
  go_wp2
  exact bodyPost_ret (v:=.agg #[.string n,.int .i64 c,.string z,.string k,.bool x,.string m,.bool y,.slice (some ⟨w.heap.size + 1 + 1,0,none⟩) 0 0]) (by simp [results,Tryz.results38,go_sem]) rfl ⟨_,_,_,rfl,⟨rfl,Nat.le_refl _,by omega,fun j x hx => by simp at hx,.inl rfl⟩,.inl rfl,below3 _ _ _ _⟩
 | some ad =>
  have HN:=hidK (news_of HR3.out);clear hr
  go_enter Tryz.func38,Tryz.ntmps38
  go_wp2_with (first | (at_builtin;refine wpList_append_own _ rfl _ _ 29 rfl (w.heap.size + 1 + 1) 9 i0 (.string ⟨#[]⟩) 1 16 Tryz.underlying29 hi hz0 hz1 hz2 rfl (by decide) _ 0 _ rfl HOW.out ad len cap (zs.map Value.string) rfl ?c1 HN.out ?c3 ?c4 ?c5 (by simp) ?_))
  case c1 => simpa using hzl
  case c3 => intro u hu;obtain ⟨x,_,rfl⟩:=List.mem_map.1 hu;rfl
  case c4 => unfold maxLen;omega
  case c5 => omega
  intro v' w3 hown3 hgrow hv;have hb3:=(Below.refl (w.heap.size + 1 + 1) _).grown hgrow (by simp) (fun k hk => by simp [Value.ownBlock] at hk;omega);have g0:=(hb3.block w.heap.size (by omega)).trans (heap3_0 _ _ _ _);have g1:=(hb3.block (w.heap.size + 1) (by omega)).trans (heap3_1 _ _ _ _)
  obtain ⟨a',l,p,rfl,hq⟩ : ∃ a' l p,v' = .slice a' l p ∧ (TxRow w3 a' l p zs ∧ (zs = [] ∨ ∃ g cur,a' = some ⟨g,0,none⟩ ∧ w.heap.size + 1 + 1 ≤ g ∧ w3.heap[g]? = some (.cells cur 9 (0,0))) ∧ Below w.heap.size w w3):=by
   have hbw : Below w.heap.size w w3:=(below3 w _ _ _).trans (hb3.mono (by omega));have ho:=hown3;obtain ⟨hl1,h⟩:=ho;have hl' : zs.length = len:=hzl
   rcases h with ⟨rfl,h0⟩ | ⟨g,cp,cur,rfl,hbg,hg,hnc,hcm,hsz,htk⟩
   ·obtain rfl : zs = []:=List.eq_nil_of_length_eq_zero (by omega);exact ⟨none,0,0,rfl,⟨rfl,Nat.le_refl _,by omega,fun j x hx => by simp at hx,.inl rfl⟩,.inl rfl,hbw⟩
   ·refine ⟨some ⟨g,0,none⟩,len,cp,rfl,⟨hl',hnc,by unfold maxLen at hcm;omega,HZ.out,.inr ⟨g,0,rfl,lt_of_some hg,fun j x hx => ?_⟩⟩,.inr ⟨g,cur,rfl,hbg,hg⟩,hbw⟩;rw [Nat.zero_add,cellK hg]
    have hj : j < len:=by have:=(List.getElem?_eq_some_iff.1 hx).1;omega
    have e1 : (cur.toList.take (len * 1))[j]? = some (.string x):=by rw [htk];simp [hx]
    rw [List.getElem?_take,if_pos (by omega)] at e1
    simpa using e1
  have HQ:=hidK hq;have d0 : w3.cell? ⟨w.heap.size,0,none⟩ = some (.string n):=cellK g0 0;have df0:=froK g0 0;have d1 : w3.cell? ⟨w.heap.size,1,none⟩ = some (.int .i64 c):=cellK g0 1;have df1:=froK g0 1;have d2 : w3.cell? ⟨w.heap.size,2,none⟩ = some (.string z):=cellK g0 2;have df2:=froK g0 2;have d3 : w3.cell? ⟨w.heap.size,3,none⟩ = some (.string k):=cellK g0 3;have df3:=froK g0 3;have d4 : w3.cell? ⟨w.heap.size,4,none⟩ = some (.bool x):=cellK g0 4;have df4:=froK g0 4;have d5 : w3.cell? ⟨w.heap.size,5,none⟩ = some (.string m):=cellK g0 5;have df5:=froK g0 5;have d6 : w3.cell? ⟨w.heap.size,6,none⟩ = some (.bool y):=cellK g0 6;have df6:=froK g0 6;have d7 : w3.cell? ⟨w.heap.size,7,none⟩ = some (.slice (some ad) len cap):=cellK g0 7;have df7:=froK g0 7;have e0 : w3.cell? ⟨w.heap.size + 1,0,none⟩ = some (.string ⟨#[]⟩):=cellK g1 0;have ef0:=froK g1 0;have e1 : w3.cell? ⟨w.heap.size + 1,1,none⟩ = some (.int .i64 0):=cellK g1 1;have ef1:=froK g1 1;have e2 : w3.cell? ⟨w.heap.size + 1,2,none⟩ = some (.string ⟨#[]⟩):=cellK g1 2;have ef2:=froK g1 2;have e3 : w3.cell? ⟨w.heap.size + 1,3,none⟩ = some (.string ⟨#[]⟩):=cellK g1 3;have ef3:=froK g1 3;have e4 : w3.cell? ⟨w.heap.size + 1,4,none⟩ = some (.bool false):=cellK g1 4;have ef4:=froK g1 4;have e5 : w3.cell? ⟨w.heap.size + 1,5,none⟩ = some (.string ⟨#[]⟩):=cellK g1 5;have ef5:=froK g1 5;have e6 : w3.cell? ⟨w.heap.size + 1,6,none⟩ = some (.bool false):=cellK g1 6;have ef6:=froK g1 6;have e7 : w3.cell? ⟨w.heap.size + 1,7,none⟩ = some (.slice none 0 0):=cellK g1 7;have ef7:=froK g1 7
  have HQ2:=hidK (OwnAns.set (OwnAns.set (OwnAns.set (OwnAns.set (OwnAns.set (OwnAns.set (OwnAns.set (OwnAns.set (OwnAns.set HQ.out (b:=w.heap.size) (i:=7) (by omega) (by omega) (v:=.slice a' l p)) (b:=w.heap.size + 1) (i:=0) (by omega) (by omega) (v:=(.string n))) (b:=w.heap.size + 1) (i:=1) (by omega) (by omega) (v:=(.int .i64 c))) (b:=w.heap.size + 1) (i:=2) (by omega) (by omega) (v:=(.string z))) (b:=w.heap.size + 1) (i:=3) (by omega) (by omega) (v:=(.string k))) (b:=w.heap.size + 1) (i:=4) (by omega) (by omega) (v:=(.bool x))) (b:=w.heap.size + 1) (i:=5) (by omega) (by omega) (v:=(.string m))) (b:=w.heap.size + 1) (i:=6) (by omega) (by omega) (v:=(.bool y))) (b:=w.heap.size + 1) (i:=7) (by omega) (by omega) (v:=(.slice a' l p)));clear hown3 hgrow hv hb3 g0 g1 hq;go_wp2_with fail;refine bodyPost_ret (v:=.agg #[.string n,.int .i64 c,.string z,.string k,.bool x,.string m,.bool y,.slice a' l p]) (by simp [results,Tryz.results38,go_sem, *]) rfl ⟨a',l,p,rfl,HQ2.out.1,?_,HQ2.out.2.2⟩
  rcases HQ2.out.2.1 with h | ⟨g,cur,h1,h2,h3⟩
  ·exact .inl h
  ·exact .inr ⟨g,cur,h1,by omega,h3⟩

theorem iown_any (n : ByteArray) (c : Int) (z : ByteArray) (k : ByteArray) (x : Bool) (m : ByteArray) (y : Bool) (a : Option Addr) (len cap : Nat) (zs : List ByteArray) (w : World) (hr : TxRow w a len cap zs) (hl : len ≤ 8001) :
  Calls Tryz.prog 53 #[.agg #[.string n,.int .i64 c,.string z,.string k,.bool x,.string m,.bool y,.slice a len cap]] w fun e w' => ∃ a' l p,e = .returned (.agg #[.string n,.int .i64 c,.string z,.string k,.bool x,.string m,.bool y,.slice a' l p]) ∧ OwnAns zs w a' l p w':=by
 have HR:=hidK (hr.below (below2 w (.cells #[.string n,.int .i64 c,.string z,.string k,.bool x,.string m,.bool y,.slice a len cap] 45) (.cells #[.string ⟨#[]⟩,.int .i64 0,.string ⟨#[]⟩,.string ⟨#[]⟩,.bool false,.string ⟨#[]⟩,.bool false,.slice none 0 0] 45)));clear hr
 go_enter Tryz.func53,Tryz.ntmps53
 go_wp2_with fail;refine (ownNames_any a len cap zs _ HR.out hl).mono ?_;rintro e w3 ⟨a',l,p,rfl,h1,h2,hb⟩;have g0:=(hb.block w.heap.size (by simp;omega)).trans (heap2_0 _ _ _);have g1:=(hb.block (w.heap.size + 1) (by simp)).trans (heap2_1 _ _ _);have HQ : Hid (TxRow w3 a' l p zs ∧ (zs = [] ∨ ∃ g cur,a' = some ⟨g,0,none⟩ ∧ w.heap.size + 1 + 1 ≤ g ∧ w3.heap[g]? = some (.cells cur 9 (0,0))) ∧ Below w.heap.size w w3):=⟨h1,by simpa using h2,(below2 w _ _).trans (hb.mono (by simp;omega))⟩;have d0 : w3.cell? ⟨w.heap.size,0,none⟩ = some (.string n):=cellK g0 0;have df0:=froK g0 0;have d1 : w3.cell? ⟨w.heap.size,1,none⟩ = some (.int .i64 c):=cellK g0 1;have df1:=froK g0 1;have d2 : w3.cell? ⟨w.heap.size,2,none⟩ = some (.string z):=cellK g0 2;have df2:=froK g0 2;have d3 : w3.cell? ⟨w.heap.size,3,none⟩ = some (.string k):=cellK g0 3;have df3:=froK g0 3;have d4 : w3.cell? ⟨w.heap.size,4,none⟩ = some (.bool x):=cellK g0 4;have df4:=froK g0 4;have d5 : w3.cell? ⟨w.heap.size,5,none⟩ = some (.string m):=cellK g0 5;have df5:=froK g0 5;have d6 : w3.cell? ⟨w.heap.size,6,none⟩ = some (.bool y):=cellK g0 6;have df6:=froK g0 6;have d7 : w3.cell? ⟨w.heap.size,7,none⟩ = some (.slice a len cap):=cellK g0 7;have df7:=froK g0 7;have e0 : w3.cell? ⟨w.heap.size + 1,0,none⟩ = some (.string ⟨#[]⟩):=cellK g1 0;have ef0:=froK g1 0;have e1 : w3.cell? ⟨w.heap.size + 1,1,none⟩ = some (.int .i64 0):=cellK g1 1;have ef1:=froK g1 1;have e2 : w3.cell? ⟨w.heap.size + 1,2,none⟩ = some (.string ⟨#[]⟩):=cellK g1 2;have ef2:=froK g1 2;have e3 : w3.cell? ⟨w.heap.size + 1,3,none⟩ = some (.string ⟨#[]⟩):=cellK g1 3;have ef3:=froK g1 3;have e4 : w3.cell? ⟨w.heap.size + 1,4,none⟩ = some (.bool false):=cellK g1 4;have ef4:=froK g1 4;have e5 : w3.cell? ⟨w.heap.size + 1,5,none⟩ = some (.string ⟨#[]⟩):=cellK g1 5;have ef5:=froK g1 5
 have e6 : w3.cell? ⟨w.heap.size + 1,6,none⟩ = some (.bool false):=cellK g1 6;have ef6:=froK g1 6;have e7 : w3.cell? ⟨w.heap.size + 1,7,none⟩ = some (.slice none 0 0):=cellK g1 7;have ef7:=froK g1 7;have HQ2:=hidK (OwnAns.set (OwnAns.set (OwnAns.set (OwnAns.set (OwnAns.set (OwnAns.set (OwnAns.set (OwnAns.set (OwnAns.set HQ.out (b:=w.heap.size) (i:=7) (by omega) (by omega) (v:=.slice a' l p)) (b:=w.heap.size + 1) (i:=0) (by omega) (by omega) (v:=.string n)) (b:=w.heap.size + 1) (i:=1) (by omega) (by omega) (v:=.int .i64 c)) (b:=w.heap.size + 1) (i:=2) (by omega) (by omega) (v:=.string z)) (b:=w.heap.size + 1) (i:=3) (by omega) (by omega) (v:=.string k)) (b:=w.heap.size + 1) (i:=4) (by omega) (by omega) (v:=.bool x)) (b:=w.heap.size + 1) (i:=5) (by omega) (by omega) (v:=.string m)) (b:=w.heap.size + 1) (i:=6) (by omega) (by omega) (v:=.bool y)) (b:=w.heap.size + 1) (i:=7) (by omega) (by omega) (v:=.slice a' l p));clear h1 h2 hb g0 g1;go_wp2_with fail;refine bodyPost_ret (v:=.agg #[.string n,.int .i64 c,.string z,.string k,.bool x,.string m,.bool y,.slice a' l p]) (by simp [results,Tryz.results53,go_sem, *]) rfl ⟨a',l,p,rfl,HQ2.out.1,?_,HQ2.out.2.2⟩
 rcases HQ2.out.2.1 with h | ⟨g,cur,h1,h2,h3⟩
 ·exact .inl h
 ·exact .inr ⟨g,cur,h1,by omega,h3⟩

end Ap
end Go.Proofs.YtcogpoamhflgjaaGreatDoor

namespace Go.Proofs.YtcogpoamhflgjaaGreatDoor
open Go.RowKit
namespace Rc
open Mk

theorem TOwn.fr {w : World} {a : Option Addr} {l c : Nat} {zs : List ByteArray} {S : Nat → Prop} (h : TOwn w a l c zs S) : ∃ g,LFr w g S zs (.slice a l c):=by
 obtain ⟨⟨h1,h2,h3,h4,h5⟩,h6⟩:=h
 rcases h6 with rfl | ⟨g,cur,rfl,hS,hg⟩
 ·exact ⟨0,_,_,_,rfl,h1,h2,h3,h4,.inl rfl⟩
 ·refine ⟨g,_,_,_,rfl,h1,h2,h3,h4,h5.imp id ?_⟩;rintro ⟨b,o,e,hlt,hc⟩
  cases e
  exact ⟨rfl,hS,cur,hg,fun j x hx => by have:=hc j x hx;rw [cellK hg,Nat.zero_add] at this;exact this⟩
theorem LFr.lt {w : World} {h : Nat} {S : Nat → Prop} {zs : List ByteArray} {v : Value} (k : LFr w h S zs v) (hz : zs ≠ []) : S h ∧ h < w.heap.size:=by
 obtain ⟨a',l',c',h1,h2,h3,h4,h5,h6⟩:=k
 rcases h6 with h6 | ⟨_,q2,cu,q4,_⟩
 ·exact absurd h6 hz
 ·exact ⟨q2,lt_of_some q4⟩
theorem news_alloc (w : World) (vs : List Value) (T : TypeId) : ∀ (j : Nat) u,vs[j]? = some u → (w.alloc (.cells vs.toArray T)).cell? ((⟨w.heap.size,0,none⟩ : Addr).add j) = some u:=by
 intro j u hu;rw [Addr.add_lit,cellK (heap_alloc_new w _),Nat.zero_add]
 simpa using hu
theorem VRecs.app {w W w' : World} {S : Nat → Prop} {m : Nat} {rs : List (List Fv)} {vss : List (List Value)} {H : Nat → Nat → Nat} {base n : Nat} {T : TypeId} {v : Value} {xs : List Value} (h : VRecs w S m rs vss H) (hb : Below w.heap.size w W) (ho : W.ownsRow base T m v n xs) (hT : ¬ T = 9) (hg : W.grownBy w' v.ownBlock)
  {r : List Fv} {vs : List Value} {hh : Nat} (hr : r.length = m) (hvs : vs.length = m) (hc : ∀ (i : Nat) f,r[i]? = some f → ∃ v,vs[i]? = some v ∧ f.Fr W hh S v) (hfr : ∀ (i : Nat) zs,r[i]? = some (.l zs) → zs ≠ [] → w.heap.size ≤ hh)
  (h1 : ∀ (i i' : Nat) zs zs',r[i]? = some (.l zs) → zs ≠ [] → r[i']? = some (.l zs') → zs' ≠ [] → i = i') : VRecs w' S m (rs ++ [r]) (vss ++ [vs]) (fun j => if j = rs.length then fun _ => hh else H j) :=
 ((h.below hb).push hr hvs hc (fun i zs a b j r' i' zs' c d e q => by have q1:=h.lt c d e;have q2:=hfr i zs a b;omega) h1).grown ho hT hg

theorem nd_l {x : Nd} {i : Nat} {zs : List ByteArray} (h : (ndF x)[i]? = some (.l zs)) : i = 6 ∧ zs = x.zs:=by
 rcases i with _ | _ | _ | _ | _ | _ | _ | i
 ·cases h
 ·cases h
 ·cases h
 ·cases h
 ·cases h
 ·cases h
 ·cases h;exact ⟨rfl,rfl⟩
 ·simp [ndF] at h
theorem nd_fr {w : World} {x : Nd} {g : Nat} {Q : Nat → Prop} {a : Option Addr} {l c : Nat} (hn : x.n.size ≤ 9223372036854775807) (hz : x.z.size ≤ 9223372036854775807) (hl : LFr w g Q x.zs (.slice a l c)) : ∀ (i : Nat) f,(ndF x)[i]? = some f → ∃ v,[.string x.n,.string x.z,.int .i64 x.c,.int .i64 x.s,.int .i64 x.u,.bool x.d,.slice a l c][i]? = some v ∧ f.Fr w g Q v:=by
 intro i f h
 rcases i with _ | _ | _ | _ | _ | _ | _ | i
 ·cases h;exact ⟨_,rfl,rfl,hn⟩
 ·cases h;exact ⟨_,rfl,rfl,hz⟩
 ·cases h;exact ⟨_,rfl,rfl⟩
 ·cases h;exact ⟨_,rfl,rfl⟩
 ·cases h;exact ⟨_,rfl,rfl⟩
 ·cases h;exact ⟨_,rfl,rfl⟩
 ·cases h;exact ⟨_,rfl,hl⟩
 ·simp [ndF] at h

theorem iownnd_any (x : Nd) (va : Option Addr) (vl vc : Nat) (w : World) (hr : TxRow w va vl vc x.zs) (hl : vl ≤ 8001) :
  Calls Tryz.prog 105 #[.agg #[.string x.n,.string x.z,.int .i64 x.c,.int .i64 x.s,.int .i64 x.u,.bool x.d,.slice va vl vc]] w fun e w' => ∃ a' l' c',e = .returned (.agg #[.string x.n,.string x.z,.int .i64 x.c,.int .i64 x.s,.int .i64 x.u,.bool x.d,.slice a' l' c']) ∧ TOwn w' a' l' c' x.zs (fun k => w.heap.size ≤ k) ∧ Below w.heap.size w w':=by
 have HR:=hidK hr;have HB:=hidK (Below.refl w.heap.size w);clear hr
 go_enter Tryz.func105,Tryz.ntmps105
 go_wp2_with fail;refine (Ap.ownNames_any va vl vc x.zs _ (HR.out.below (HB.out.trans ((below2 _ _ _).mono HB.out.size))) hl).mono ?_;rintro e w1 ⟨a',l',c',rfl,h1,h2,hb⟩;obtain ⟨HA0,HA1,hbx⟩:=slots2 hb;have Bp:=hidK HA0;have Br:=hidK HA1;replace HB:=upB HB hbx;clear hb hbx HA0 HA1;have HO : Hid (TOwn w1 a' l' c' x.zs (fun k => w.heap.size + 1 + 1 ≤ k)):=⟨h1,h2.imp id fun ⟨g,cur,e1,e2,e3⟩ => ⟨g,cur,e1,by simpa using e2,e3⟩⟩;clear h1 h2;obtain ⟨p0,p1,p2,p3,p4,p5,p6⟩:=cs7 Bp.out;have ltp_1:=lt_of_some Bp.out;obtain ⟨r0,r1,r2,r3,r4,r5,r6⟩:=cs7 Br.out;have ltr_1:=lt_of_some Br.out;have fp0:=froK Bp.out 0;have fr0:=froK Br.out 0;have fp1:=froK Bp.out 1;have fr1:=froK Br.out 1;have fp2:=froK Bp.out 2;have fr2:=froK Br.out 2;have fp3:=froK Bp.out 3;have fr3:=froK Br.out 3;have fp4:=froK Bp.out 4;have fr4:=froK Br.out 4;have fp5:=froK Bp.out 5;have fr5:=froK Br.out 5;have fp6:=froK Bp.out 6;have fr6:=froK Br.out 6;go_wp2_with fail;refine bodyPost_ret (v:=.agg #[.string x.n,.string x.z,.int .i64 x.c,.int .i64 x.s,.int .i64 x.u,.bool x.d,.slice a' l' c']) (by simp [results,Tryz.results105,go_sem, *]) rfl ⟨a',l',c',rfl,HO.out.keep (fun k _ s => by have s1 : w.heap.size + 1 + 1 ≤ k:=s;rw [Below.heap_setCell _ _ _ _ (show k ≠ w.heap.size + 1 by omega),Below.heap_setCell _ _ _ _ (show k ≠ w.heap.size + 1 by omega),Below.heap_setCell _ _ _ _ (show k ≠ w.heap.size + 1 by omega),Below.heap_setCell _ _ _ _ (show k ≠ w.heap.size + 1 by omega),Below.heap_setCell _ _ _ _ (show k ≠ w.heap.size + 1 by omega),Below.heap_setCell _ _ _ _ (show k ≠ w.heap.size + 1 by omega),Below.heap_setCell _ _ _ _ (show k ≠ w.heap.size + 1 by omega),Below.heap_setCell _ _ _ _ (show k ≠ w.heap.size by omega)]) (fun k _ s => by have s1 : w.heap.size + 1 + 1 ≤ k:=s;show w.heap.size ≤ k;omega),sb1 (sb1 (sb1 (sb1 (sb1 (sb1 (sb1 (set_below (Nat.le_refl _) (HB.out))))))))⟩

theorem iownednd_any (a : Option Addr) (len cap : Nat) (xs : List Nd) (w : World) (hr : RRow w a len cap 7 (xs.map ndF)) (hl : len ≤ 8) (hs : ∀ (j : Nat) x,xs[j]? = some x → x.zs.length ≤ 8001) :
  Calls Tryz.prog 104 #[.slice a len cap,.func (.func 105) #[] #[]] w fun e w' => ∃ a' c',e = .returned (.slice a' len c') ∧ ROwn w' a' len c' 7 120 (xs.map ndF) (fun k => w.heap.size ≤ k) ∧ Below w.heap.size w w':=by
 have HR:=hidK hr;have HS:=hidK hs
 have hxl : xs.length = len:=by simpa using hr.1
 clear hr hs;obtain ⟨i0,hi,hz0,hz1,hz2⟩:=info_parts infond;have HI0:=hidK (And.intro hi (And.intro hz0 (And.intro hz1 hz2)));clear hi hz0 hz1 hz2
 go_enter Tryz.func104,Tryz.ntmps104
 go_wp2
 go_loopw [5,10] (fun vo vi wr => ∃ (k : Nat) (vss : List (List Value)) (H : Nat → Nat → Nat),k ≤ len ∧ vi = .int .i64 k ∧ Hid (wr.ownsRow w.heap.size 120 7 vo k vss.flatten) ∧ Hid (VRecs wr (fun k => w.heap.size ≤ k) 7 ((xs.take k).map ndF) vss H) ∧ Hid (Below w.heap.size w wr)) (fun _ vi _ => len - (intOf vi).toNat)
 case atStart => exact ⟨0,[],fun _ _ => 0,by omega,rfl,World.ownsRow_nil _ _ _ _,VRecs.nil _ _ _ _,Below.refl _ _⟩
 case round =>
  obtain ⟨k,vss,H,hk,rfl,HO,HV,HB⟩:=hrel;have hBs:=HB.out.size
  by_cases hlt : k < len
  ·obtain ⟨b,o,x,rfl,hb,hx,hat⟩:=nd_at (HR.out.below HB.out) hlt;obtain ⟨va,vl,vc,hvr,z0,z1,c0,c1,c2,c3,c4,c5,c6⟩:=nd_cells hat
   have hz8 : vl ≤ 8001:=by have h1:=hvr.1;have h2:=HS.out k x hx;omega
   have HX:=hidK hx;have HT:=hidK hvr;have HZz0:=hidK z0;have HZz1:=hidK z1;clear hat hx hvr z0 z1;go_wp2_with fail;refine (iownnd_any x va vl vc _ (HT.out.below (below1 _ _)) hz8).mono ?_;rintro e w2 ⟨a',l',c',rfl,ho,hb2⟩;obtain ⟨-,hbx⟩:=slots1 hb2;rw [size1] at ho;obtain ⟨g,hg⟩:=ho.fr;have HG:=hidK hg;have HX2:=hidK hbx;have HO2:=hidK (owns_below HO.out hbx)
   have hs2 : wr.heap.size < w2.heap.size:=by have:=hb2.size;rw [size1] at this;omega
   clear ho hb2 hbx hg hb c0 c1 c2 c3 c4 c5 c6
   go_wp2_with (first | (at_builtin;refine wpList_append_own _ rfl _ _ 34 rfl w.heap.size 120 i0 (.agg #[.string ⟨#[]⟩,.string ⟨#[]⟩,.int .i64 0,.int .i64 0,.int .i64 0,.bool false,.slice none 0 0]) 7 88 Tryz.underlying34 HI0.out.1 HI0.out.2.1 HI0.out.2.2.1 HI0.out.2.2.2 rfl (by decide) _ _ _ rfl (HO2.out.alloc _) ⟨w2.heap.size,0,none⟩ 1 1 [.string x.n,.string x.z,.int .i64 x.c,.int .i64 x.s,.int .i64 x.u,.bool x.d,.slice a' l' c'] rfl rfl ?c1 ?c2 ?c3 ?c4 ?c5 ?_))
   case c1 => exact news_alloc _ _ _
   case c2 => intro u hu;simp only [List.mem_cons,List.not_mem_nil,or_false] at hu;rcases hu with rfl | rfl | rfl | rfl | rfl | rfl | rfl <;> rfl
   case c3 => unfold maxLen;omega
   case c4 => omega
   case c5 => simp;omega
   rintro v' w3 hown3 hgrow -
   have HO3 : Hid (w3.ownsRow w.heap.size 120 7 v' (k + 1) (vss ++ ([[.string x.n,.string x.z,.int .i64 x.c,.int .i64 x.s,.int .i64 x.u,.bool x.d,.slice a' l' c']] : List (List Value))).flatten):=by
    show World.ownsRow _ _ _ _ _ _ _
    rw [List.flatten_append]
    simpa using hown3
   have hb23 : Below wr.heap.size wr (w2.alloc (.cells #[.string x.n,.string x.z,.int .i64 x.c,.int .i64 x.s,.int .i64 x.u,.bool x.d,.slice a' l' c'] 120)):=HX2.out.trans ((below1 _ _).mono (Nat.le_of_lt hs2))
   have hV:=HV.out.app (r:=ndF x) (vs:=[.string x.n,.string x.z,.int .i64 x.c,.int .i64 x.s,.int .i64 x.u,.bool x.d,.slice a' l' c']) (hh:=g) hb23 (HO2.out.alloc _) (by decide) hgrow rfl rfl
    (nd_fr HZz0.out HZz1.out (HG.out.keep (S':=fun k => w.heap.size ≤ k) (fun cu _ q => Below.heap_alloc _ _ _ (lt_of_some q)) (fun _ s => by have s1 : wr.heap.size + 1 ≤ g:=s;show w.heap.size ≤ g;omega)))
    (fun i zs hi hz => by obtain ⟨_,rfl⟩:=nd_l hi;have s1 : wr.heap.size + 1 ≤ g:=(HG.out.lt hz).1;omega) (fun i i' zs zs' h1 _ h2 _ => (nd_l h1).1.trans (nd_l h2).1.symm)
   have e1 : (xs.take (k + 1)).map ndF = (xs.take k).map ndF ++ [ndF x]:=by rw [List.take_add_one,HX.out];simp
   rw [← e1] at hV;have HV3:=hidK hV;have HB3:=hidK ((HB.out.trans (hb23.mono hBs)).grown hgrow (by simp;omega) (fun g hg => (HO2.out.lt g hg).1));clear hown3 hgrow hb23 hV e1
   go_wp2
   exact ⟨⟨k + 1,_,_,by omega,by go_num,HO3,HV3,HB3⟩,by simp [intOf];omega⟩
  ·obtain rfl : len = k:=by omega
   have h5:=HV.out;rw [List.take_of_length_le (by omega)] at h5;obtain ⟨a',c',rfl,hR⟩:=h5.own HO.out (by simp [hxl]) (by decide) (fun g hg => (HO.out.lt g hg).1);have HR5:=hidK hR
   have hl5 : (xs.map ndF).length = len:=by simpa using hxl
   rw [hl5] at HR5;rw [hl5];clear h5 hR HV HO
   go_wp2
   go_ret;exact ⟨a',c',rfl,HR5.out,HB.out⟩

theorem vd_l {x : Vd} {i : Nat} {zs : List ByteArray} (h : (vdF x)[i]? = some (.l zs)) : i = 7 ∧ zs = x.zs:=by
 rcases i with _ | _ | _ | _ | _ | _ | _ | _ | i
 ·cases h
 ·cases h
 ·cases h
 ·cases h
 ·cases h
 ·cases h
 ·cases h
 ·cases h;exact ⟨rfl,rfl⟩
 ·simp [vdF] at h
theorem vd_fr {w : World} {x : Vd} {g : Nat} {Q : Nat → Prop} {a : Option Addr} {l c : Nat} (hn : x.n.size ≤ 9223372036854775807) (hz : x.z.size ≤ 9223372036854775807) (hk : x.k.size ≤ 9223372036854775807) (hm : x.m.size ≤ 9223372036854775807) (hl : LFr w g Q x.zs (.slice a l c)) : ∀ (i : Nat) f,(vdF x)[i]? = some f → ∃ v,[.string x.n,.int .i64 x.c,.string x.z,.string x.k,.bool x.x,.string x.m,.bool x.y,.slice a l c][i]? = some v ∧ f.Fr w g Q v:=by
 intro i f h
 rcases i with _ | _ | _ | _ | _ | _ | _ | _ | i
 ·cases h;exact ⟨_,rfl,rfl,hn⟩
 ·cases h;exact ⟨_,rfl,rfl⟩
 ·cases h;exact ⟨_,rfl,rfl,hz⟩
 ·cases h;exact ⟨_,rfl,rfl,hk⟩
 ·cases h;exact ⟨_,rfl,rfl⟩
 ·cases h;exact ⟨_,rfl,rfl,hm⟩
 ·cases h;exact ⟨_,rfl,rfl⟩
 ·cases h;exact ⟨_,rfl,hl⟩
 ·simp [vdF] at h

theorem iownvd_any (x : Vd) (va : Option Addr) (vl vc : Nat) (w : World) (hr : TxRow w va vl vc x.zs) (hl : vl ≤ 8001) :
  Calls Tryz.prog 53 #[.agg #[.string x.n,.int .i64 x.c,.string x.z,.string x.k,.bool x.x,.string x.m,.bool x.y,.slice va vl vc]] w fun e w' => ∃ a' l' c',e = .returned (.agg #[.string x.n,.int .i64 x.c,.string x.z,.string x.k,.bool x.x,.string x.m,.bool x.y,.slice a' l' c']) ∧ TOwn w' a' l' c' x.zs (fun k => w.heap.size ≤ k) ∧ Below w.heap.size w w':=by
 refine (Ap.iown_any x.n x.c x.z x.k x.x x.m x.y va vl vc x.zs w hr hl).mono ?_;rintro e w' ⟨a',l',c',rfl,h1,h2,hb⟩;exact ⟨a',l',c',rfl,⟨h1,h2⟩,hb⟩

theorem iownedvd_any (a : Option Addr) (len cap : Nat) (xs : List Vd) (w : World) (hr : RRow w a len cap 8 (xs.map vdF)) (hl : len ≤ 8) (hs : ∀ (j : Nat) x,xs[j]? = some x → x.zs.length ≤ 8001) :
  Calls Tryz.prog 106 #[.slice a len cap,.func (.func 53) #[] #[]] w fun e w' => ∃ a' c',e = .returned (.slice a' len c') ∧ ROwn w' a' len c' 8 45 (xs.map vdF) (fun k => w.heap.size ≤ k) ∧ Below w.heap.size w w':=by
 have HR:=hidK hr;have HS:=hidK hs
 have hxl : xs.length = len:=by simpa using hr.1
 clear hr hs;obtain ⟨i0,hi,hz0,hz1,hz2⟩:=info_parts infovd;have HI0:=hidK (And.intro hi (And.intro hz0 (And.intro hz1 hz2)));clear hi hz0 hz1 hz2
 go_enter Tryz.func106,Tryz.ntmps106
 go_wp2
 go_loopw [5,10] (fun vo vi wr => ∃ (k : Nat) (vss : List (List Value)) (H : Nat → Nat → Nat),k ≤ len ∧ vi = .int .i64 k ∧ Hid (wr.ownsRow w.heap.size 45 8 vo k vss.flatten) ∧ Hid (VRecs wr (fun k => w.heap.size ≤ k) 8 ((xs.take k).map vdF) vss H) ∧ Hid (Below w.heap.size w wr)) (fun _ vi _ => len - (intOf vi).toNat)
 case atStart => exact ⟨0,[],fun _ _ => 0,by omega,rfl,World.ownsRow_nil _ _ _ _,VRecs.nil _ _ _ _,Below.refl _ _⟩
 case round =>
  obtain ⟨k,vss,H,hk,rfl,HO,HV,HB⟩:=hrel;have hBs:=HB.out.size
  by_cases hlt : k < len
  ·obtain ⟨b,o,x,rfl,hb,hx,hat⟩:=vd_at (HR.out.below HB.out) hlt;obtain ⟨va,vl,vc,hvr,z0,z2,z3,z5,c0,c1,c2,c3,c4,c5,c6,c7⟩:=vd_cells hat
   have hz8 : vl ≤ 8001:=by have h1:=hvr.1;have h2:=HS.out k x hx;omega
   have HX:=hidK hx;have HT:=hidK hvr;have HZz0:=hidK z0;have HZz2:=hidK z2;have HZz3:=hidK z3;have HZz5:=hidK z5;clear hat hx hvr z0 z2 z3 z5;go_wp2_with fail;refine (iownvd_any x va vl vc _ (HT.out.below (below1 _ _)) hz8).mono ?_;rintro e w2 ⟨a',l',c',rfl,ho,hb2⟩;obtain ⟨-,hbx⟩:=slots1 hb2;rw [size1] at ho;obtain ⟨g,hg⟩:=ho.fr;have HG:=hidK hg;have HX2:=hidK hbx;have HO2:=hidK (owns_below HO.out hbx)
   have hs2 : wr.heap.size < w2.heap.size:=by have:=hb2.size;rw [size1] at this;omega
   clear ho hb2 hbx hg hb c0 c1 c2 c3 c4 c5 c6 c7
   go_wp2_with (first | (at_builtin;refine wpList_append_own _ rfl _ _ 36 rfl w.heap.size 45 i0 (.agg #[.string ⟨#[]⟩,.int .i64 0,.string ⟨#[]⟩,.string ⟨#[]⟩,.bool false,.string ⟨#[]⟩,.bool false,.slice none 0 0]) 8 112 Tryz.underlying36 HI0.out.1 HI0.out.2.1 HI0.out.2.2.1 HI0.out.2.2.2 rfl (by decide) _ _ _ rfl (HO2.out.alloc _) ⟨w2.heap.size,0,none⟩ 1 1 [.string x.n,.int .i64 x.c,.string x.z,.string x.k,.bool x.x,.string x.m,.bool x.y,.slice a' l' c'] rfl rfl ?c1 ?c2 ?c3 ?c4 ?c5 ?_))
   case c1 => exact news_alloc _ _ _
   case c2 => intro u hu;simp only [List.mem_cons,List.not_mem_nil,or_false] at hu;rcases hu with rfl | rfl | rfl | rfl | rfl | rfl | rfl | rfl <;> rfl
   case c3 => unfold maxLen;omega
   case c4 => omega
   case c5 => simp;omega
   rintro v' w3 hown3 hgrow -
   have HO3 : Hid (w3.ownsRow w.heap.size 45 8 v' (k + 1) (vss ++ ([[.string x.n,.int .i64 x.c,.string x.z,.string x.k,.bool x.x,.string x.m,.bool x.y,.slice a' l' c']] : List (List Value))).flatten):=by
    show World.ownsRow _ _ _ _ _ _ _
    rw [List.flatten_append]
    simpa using hown3
   have hb23 : Below wr.heap.size wr (w2.alloc (.cells #[.string x.n,.int .i64 x.c,.string x.z,.string x.k,.bool x.x,.string x.m,.bool x.y,.slice a' l' c'] 45)):=HX2.out.trans ((below1 _ _).mono (Nat.le_of_lt hs2))
   have hV:=HV.out.app (r:=vdF x) (vs:=[.string x.n,.int .i64 x.c,.string x.z,.string x.k,.bool x.x,.string x.m,.bool x.y,.slice a' l' c']) (hh:=g) hb23 (HO2.out.alloc _) (by decide) hgrow rfl rfl
    (vd_fr HZz0.out HZz2.out HZz3.out HZz5.out (HG.out.keep (S':=fun k => w.heap.size ≤ k) (fun cu _ q => Below.heap_alloc _ _ _ (lt_of_some q)) (fun _ s => by have s1 : wr.heap.size + 1 ≤ g:=s;show w.heap.size ≤ g;omega)))
    (fun i zs hi hz => by obtain ⟨_,rfl⟩:=vd_l hi;have s1 : wr.heap.size + 1 ≤ g:=(HG.out.lt hz).1;omega) (fun i i' zs zs' h1 _ h2 _ => (vd_l h1).1.trans (vd_l h2).1.symm)
   have e1 : (xs.take (k + 1)).map vdF = (xs.take k).map vdF ++ [vdF x]:=by rw [List.take_add_one,HX.out];simp
   rw [← e1] at hV;have HV3:=hidK hV;have HB3:=hidK ((HB.out.trans (hb23.mono hBs)).grown hgrow (by simp;omega) (fun g hg => (HO2.out.lt g hg).1));clear hown3 hgrow hb23 hV e1
   go_wp2
   exact ⟨⟨k + 1,_,_,by omega,by go_num,HO3,HV3,HB3⟩,by simp [intOf];omega⟩
  ·obtain rfl : len = k:=by omega
   have h5:=HV.out;rw [List.take_of_length_le (by omega)] at h5;obtain ⟨a',c',rfl,hR⟩:=h5.own HO.out (by simp [hxl]) (by decide) (fun g hg => (HO.out.lt g hg).1);have HR5:=hidK hR
   have hl5 : (xs.map vdF).length = len:=by simpa using hxl
   rw [hl5] at HR5;rw [hl5];clear h5 hR HV HO
   go_wp2
   go_ret;exact ⟨a',c',rfl,HR5.out,HB.out⟩

theorem pd_l {x : Pd} {i : Nat} {zs : List ByteArray} (h : (pdF x)[i]? = some (.l zs)) : i = 3 ∧ zs = x.zs:=by
 rcases i with _ | _ | _ | _ | _ | _ | i
 ·cases h
 ·cases h
 ·cases h
 ·cases h;exact ⟨rfl,rfl⟩
 ·cases h
 ·cases h
 ·simp [pdF] at h
theorem pd_fr {w : World} {x : Pd} {g : Nat} {Q : Nat → Prop} {a : Option Addr} {l c : Nat} (hn : x.n.size ≤ 9223372036854775807) (hz : x.z.size ≤ 9223372036854775807) (hd : x.d.size ≤ 9223372036854775807) (hl : LFr w g Q x.zs (.slice a l c)) : ∀ (i : Nat) f,(pdF x)[i]? = some f → ∃ v,[.string x.n,.int .i64 x.c,.string x.z,.slice a l c,.string x.d,.int .i64 x.p][i]? = some v ∧ f.Fr w g Q v:=by
 intro i f h
 rcases i with _ | _ | _ | _ | _ | _ | i
 ·cases h;exact ⟨_,rfl,rfl,hn⟩
 ·cases h;exact ⟨_,rfl,rfl⟩
 ·cases h;exact ⟨_,rfl,rfl,hz⟩
 ·cases h;exact ⟨_,rfl,hl⟩
 ·cases h;exact ⟨_,rfl,rfl,hd⟩
 ·cases h;exact ⟨_,rfl,rfl⟩
 ·simp [pdF] at h

theorem iownpd_any (x : Pd) (va : Option Addr) (vl vc : Nat) (w : World) (hr : TxRow w va vl vc x.zs) (hl : vl ≤ 8001) :
  Calls Tryz.prog 74 #[.agg #[.string x.n,.int .i64 x.c,.string x.z,.slice va vl vc,.string x.d,.int .i64 x.p]] w fun e w' => ∃ a' l' c',e = .returned (.agg #[.string x.n,.int .i64 x.c,.string x.z,.slice a' l' c',.string x.d,.int .i64 x.p]) ∧ TOwn w' a' l' c' x.zs (fun k => w.heap.size ≤ k) ∧ Below w.heap.size w w':=by
 have HR:=hidK hr;have HB:=hidK (Below.refl w.heap.size w);clear hr
 go_enter Tryz.func74,Tryz.ntmps74
 go_wp2_with fail;refine (Ap.ownNames_any va vl vc x.zs _ (HR.out.below (HB.out.trans ((below2 _ _ _).mono HB.out.size))) hl).mono ?_;rintro e w1 ⟨a',l',c',rfl,h1,h2,hb⟩;obtain ⟨HA0,HA1,hbx⟩:=slots2 hb;have Bp:=hidK HA0;have Br:=hidK HA1;replace HB:=upB HB hbx;clear hb hbx HA0 HA1;have HO : Hid (TOwn w1 a' l' c' x.zs (fun k => w.heap.size + 1 + 1 ≤ k)):=⟨h1,h2.imp id fun ⟨g,cur,e1,e2,e3⟩ => ⟨g,cur,e1,by simpa using e2,e3⟩⟩;clear h1 h2;obtain ⟨p0,p1,p2,p3,p4,p5⟩:=cs6 Bp.out;have ltp_1:=lt_of_some Bp.out;obtain ⟨r0,r1,r2,r3,r4,r5⟩:=cs6 Br.out;have ltr_1:=lt_of_some Br.out;have fp0:=froK Bp.out 0;have fr0:=froK Br.out 0;have fp1:=froK Bp.out 1;have fr1:=froK Br.out 1;have fp2:=froK Bp.out 2;have fr2:=froK Br.out 2;have fp3:=froK Bp.out 3;have fr3:=froK Br.out 3;have fp4:=froK Bp.out 4;have fr4:=froK Br.out 4;have fp5:=froK Bp.out 5;have fr5:=froK Br.out 5;go_wp2_with fail;refine bodyPost_ret (v:=.agg #[.string x.n,.int .i64 x.c,.string x.z,.slice a' l' c',.string x.d,.int .i64 x.p]) (by simp [results,Tryz.results74,go_sem, *]) rfl ⟨a',l',c',rfl,HO.out.keep (fun k _ s => by have s1 : w.heap.size + 1 + 1 ≤ k:=s;rw [Below.heap_setCell _ _ _ _ (show k ≠ w.heap.size + 1 by omega),Below.heap_setCell _ _ _ _ (show k ≠ w.heap.size + 1 by omega),Below.heap_setCell _ _ _ _ (show k ≠ w.heap.size + 1 by omega),Below.heap_setCell _ _ _ _ (show k ≠ w.heap.size + 1 by omega),Below.heap_setCell _ _ _ _ (show k ≠ w.heap.size + 1 by omega),Below.heap_setCell _ _ _ _ (show k ≠ w.heap.size + 1 by omega),Below.heap_setCell _ _ _ _ (show k ≠ w.heap.size by omega)]) (fun k _ s => by have s1 : w.heap.size + 1 + 1 ≤ k:=s;show w.heap.size ≤ k;omega),sb1 (sb1 (sb1 (sb1 (sb1 (sb1 (set_below (Nat.le_refl _) (HB.out)))))))⟩

theorem iownedpd_any (a : Option Addr) (len cap : Nat) (xs : List Pd) (w : World) (hr : RRow w a len cap 6 (xs.map pdF)) (hl : len ≤ 8) (hs : ∀ (j : Nat) x,xs[j]? = some x → x.zs.length ≤ 8001) :
  Calls Tryz.prog 107 #[.slice a len cap,.func (.func 74) #[] #[]] w fun e w' => ∃ a' c',e = .returned (.slice a' len c') ∧ ROwn w' a' len c' 6 58 (xs.map pdF) (fun k => w.heap.size ≤ k) ∧ Below w.heap.size w w':=by
 have HR:=hidK hr;have HS:=hidK hs
 have hxl : xs.length = len:=by simpa using hr.1
 clear hr hs;obtain ⟨i0,hi,hz0,hz1,hz2⟩:=info_parts infopd;have HI0:=hidK (And.intro hi (And.intro hz0 (And.intro hz1 hz2)));clear hi hz0 hz1 hz2
 go_enter Tryz.func107,Tryz.ntmps107
 go_wp2
 go_loopw [5,10] (fun vo vi wr => ∃ (k : Nat) (vss : List (List Value)) (H : Nat → Nat → Nat),k ≤ len ∧ vi = .int .i64 k ∧ Hid (wr.ownsRow w.heap.size 58 6 vo k vss.flatten) ∧ Hid (VRecs wr (fun k => w.heap.size ≤ k) 6 ((xs.take k).map pdF) vss H) ∧ Hid (Below w.heap.size w wr)) (fun _ vi _ => len - (intOf vi).toNat)
 case atStart => exact ⟨0,[],fun _ _ => 0,by omega,rfl,World.ownsRow_nil _ _ _ _,VRecs.nil _ _ _ _,Below.refl _ _⟩
 case round =>
  obtain ⟨k,vss,H,hk,rfl,HO,HV,HB⟩:=hrel;have hBs:=HB.out.size
  by_cases hlt : k < len
  ·obtain ⟨b,o,x,rfl,hb,hx,hat⟩:=pd_at (HR.out.below HB.out) hlt;obtain ⟨va,vl,vc,hvr,z0,z2,z4,c0,c1,c2,c3,c4,c5⟩:=pd_cells hat
   have hz8 : vl ≤ 8001:=by have h1:=hvr.1;have h2:=HS.out k x hx;omega
   have HX:=hidK hx;have HT:=hidK hvr;have HZz0:=hidK z0;have HZz2:=hidK z2;have HZz4:=hidK z4;clear hat hx hvr z0 z2 z4;go_wp2_with fail;refine (iownpd_any x va vl vc _ (HT.out.below (below1 _ _)) hz8).mono ?_;rintro e w2 ⟨a',l',c',rfl,ho,hb2⟩;obtain ⟨-,hbx⟩:=slots1 hb2;rw [size1] at ho;obtain ⟨g,hg⟩:=ho.fr;have HG:=hidK hg;have HX2:=hidK hbx;have HO2:=hidK (owns_below HO.out hbx)
   have hs2 : wr.heap.size < w2.heap.size:=by have:=hb2.size;rw [size1] at this;omega
   clear ho hb2 hbx hg hb c0 c1 c2 c3 c4 c5
   go_wp2_with (first | (at_builtin;refine wpList_append_own _ rfl _ _ 38 rfl w.heap.size 58 i0 (.agg #[.string ⟨#[]⟩,.int .i64 0,.string ⟨#[]⟩,.slice none 0 0,.string ⟨#[]⟩,.int .i64 0]) 6 88 Tryz.underlying38 HI0.out.1 HI0.out.2.1 HI0.out.2.2.1 HI0.out.2.2.2 rfl (by decide) _ _ _ rfl (HO2.out.alloc _) ⟨w2.heap.size,0,none⟩ 1 1 [.string x.n,.int .i64 x.c,.string x.z,.slice a' l' c',.string x.d,.int .i64 x.p] rfl rfl ?c1 ?c2 ?c3 ?c4 ?c5 ?_))
   case c1 => exact news_alloc _ _ _
   case c2 => intro u hu;simp only [List.mem_cons,List.not_mem_nil,or_false] at hu;rcases hu with rfl | rfl | rfl | rfl | rfl | rfl <;> rfl
   case c3 => unfold maxLen;omega
   case c4 => omega
   case c5 => simp;omega
   rintro v' w3 hown3 hgrow -
   have HO3 : Hid (w3.ownsRow w.heap.size 58 6 v' (k + 1) (vss ++ ([[.string x.n,.int .i64 x.c,.string x.z,.slice a' l' c',.string x.d,.int .i64 x.p]] : List (List Value))).flatten):=by
    show World.ownsRow _ _ _ _ _ _ _
    rw [List.flatten_append]
    simpa using hown3
   have hb23 : Below wr.heap.size wr (w2.alloc (.cells #[.string x.n,.int .i64 x.c,.string x.z,.slice a' l' c',.string x.d,.int .i64 x.p] 58)):=HX2.out.trans ((below1 _ _).mono (Nat.le_of_lt hs2))
   have hV:=HV.out.app (r:=pdF x) (vs:=[.string x.n,.int .i64 x.c,.string x.z,.slice a' l' c',.string x.d,.int .i64 x.p]) (hh:=g) hb23 (HO2.out.alloc _) (by decide) hgrow rfl rfl
    (pd_fr HZz0.out HZz2.out HZz4.out (HG.out.keep (S':=fun k => w.heap.size ≤ k) (fun cu _ q => Below.heap_alloc _ _ _ (lt_of_some q)) (fun _ s => by have s1 : wr.heap.size + 1 ≤ g:=s;show w.heap.size ≤ g;omega)))
    (fun i zs hi hz => by obtain ⟨_,rfl⟩:=pd_l hi;have s1 : wr.heap.size + 1 ≤ g:=(HG.out.lt hz).1;omega) (fun i i' zs zs' h1 _ h2 _ => (pd_l h1).1.trans (pd_l h2).1.symm)
   have e1 : (xs.take (k + 1)).map pdF = (xs.take k).map pdF ++ [pdF x]:=by rw [List.take_add_one,HX.out];simp
   rw [← e1] at hV;have HV3:=hidK hV;have HB3:=hidK ((HB.out.trans (hb23.mono hBs)).grown hgrow (by simp;omega) (fun g hg => (HO2.out.lt g hg).1));clear hown3 hgrow hb23 hV e1
   go_wp2
   exact ⟨⟨k + 1,_,_,by omega,by go_num,HO3,HV3,HB3⟩,by simp [intOf];omega⟩
  ·obtain rfl : len = k:=by omega
   have h5:=HV.out;rw [List.take_of_length_le (by omega)] at h5;obtain ⟨a',c',rfl,hR⟩:=h5.own HO.out (by simp [hxl]) (by decide) (fun g hg => (HO.out.lt g hg).1);have HR5:=hidK hR
   have hl5 : (xs.map pdF).length = len:=by simpa using hxl
   rw [hl5] at HR5;rw [hl5];clear h5 hR HV HO
   go_wp2
   go_ret;exact ⟨a',c',rfl,HR5.out,HB.out⟩

end Rc
end Go.Proofs.YtcogpoamhflgjaaGreatDoor

namespace Go.Proofs.YtcogpoamhflgjaaGreatDoor
open Go.RowKit

theorem ivol_any (n : ByteArray) (c : Int) (z k : ByteArray) (x : Bool) (m : ByteArray) (y : Bool) (a : Option Addr) (len cap : Nat) (zs : List ByteArray) (w : World) (hn : n.size ≤ 9223372036854775807) (hz : z.size ≤ 9223372036854775807) (hk : k.size ≤ 9223372036854775807) (hm : m.size ≤ 9223372036854775807) (hr : TxRow w a len cap zs) :
  Calls Tryz.prog 46 #[.agg #[.string n,.int .i64 c,.string z,.string k,.bool x,.string m,.bool y,.slice a len cap]] w (BoolB (VolOk n c z k x m y zs) w):=by
 have HR : Hid (TxRow w a len cap zs):=hr;have hzl : zs.length = len:=hr.1;have hlc : len ≤ 9223372036854775807:=Nat.le_trans hr.2.1 hr.2.2.1;clear hr
 cases y
 ·have HY : Hid (false = true → m = ⟨#[]⟩):=fun h => (by cases h)
  by_cases p0 : NameOk n
  case neg =>
   have F0 : Hid (∀ w,Calls Tryz.prog 97 #[.string n] w fun e w' => e = .returned (.bool false) ∧ w' = w):=fun w => (iname_any n w hn).mono fun _ _ h => h.no p0;have HP:=hidK p0;clear p0
   go_enter Tryz.func46,Tryz.ntmps46
   go_wp2_with fail
   go_quiet ((first | (go_at_call_of 97 (Value.string n);exact Calls.quiet_of_same (F0.out _))))
   go_wp2_with fail;go_ret;exact ⟨false,rfl,⟨fun h => (by cases h),fun h => (HP.out (h.1)).elim⟩,below_drewN (below1 _ _) _⟩
  have F0 : Hid (∀ w,Calls Tryz.prog 97 #[.string n] w fun e w' => e = .returned (.bool true) ∧ w' = w):=fun w => (iname_any n w hn).mono fun _ _ h => h.yes p0
  by_cases p1 : Inn c 1 1048576
  case neg =>
   have F1 : Hid (∀ w,Calls Tryz.prog 91 #[.int .i64 c,.int .i64 1,.int .i64 1048576] w fun e w' => e = .returned (.bool false) ∧ w' = w):=fun w => (kwithin_any c 1 1048576 w).mono fun _ _ h => h.no p1;have HP:=hidK p1;clear p1
   go_enter Tryz.func46,Tryz.ntmps46
   go_wp2_with fail
   go_quiet ((first | (go_at_call_of 97 (Value.string n);exact Calls.quiet_of_same (F0.out _)) | (go_at_call_of 91 (Value.int .i64 c);exact Calls.quiet_of_same (F1.out _))))
   go_wp2_with fail;go_ret;exact ⟨false,rfl,⟨fun h => (by cases h),fun h => (HP.out (h.2.1)).elim⟩,below_drewN (below1 _ _) _⟩
  have F1 : Hid (∀ w,Calls Tryz.prog 91 #[.int .i64 c,.int .i64 1,.int .i64 1048576] w fun e w' => e = .returned (.bool true) ∧ w' = w):=fun w => (kwithin_any c 1 1048576 w).mono fun _ _ h => h.yes p1
  by_cases p2 : NameOk z
  case neg =>
   have F2 : Hid (∀ w,Calls Tryz.prog 97 #[.string z] w fun e w' => e = .returned (.bool false) ∧ w' = w):=fun w => (iname_any z w hz).mono fun _ _ h => h.no p2;have HP:=hidK p2;clear p2
   go_enter Tryz.func46,Tryz.ntmps46
   go_wp2_with fail
   go_quiet ((first | (go_at_call_of 97 (Value.string n);exact Calls.quiet_of_same (F0.out _)) | (go_at_call_of 91 (Value.int .i64 c);exact Calls.quiet_of_same (F1.out _)) | (go_at_call_of 97 (Value.string z);exact Calls.quiet_of_same (F2.out _))))
   go_wp2_with fail;go_ret;exact ⟨false,rfl,⟨fun h => (by cases h),fun h => (HP.out (h.2.2.1)).elim⟩,below_drewN (below1 _ _) _⟩
  have F2 : Hid (∀ w,Calls Tryz.prog 97 #[.string z] w fun e w' => e = .returned (.bool true) ∧ w' = w):=fun w => (iname_any z w hz).mono fun _ _ h => h.yes p2
  by_cases p3 : NameOk k
  case neg =>
   have F3 : Hid (∀ w,Calls Tryz.prog 97 #[.string k] w fun e w' => e = .returned (.bool false) ∧ w' = w):=fun w => (iname_any k w hk).mono fun _ _ h => h.no p3;have HP:=hidK p3;clear p3
   go_enter Tryz.func46,Tryz.ntmps46
   go_wp2_with fail
   go_quiet ((first | (go_at_call_of 97 (Value.string n);exact Calls.quiet_of_same (F0.out _)) | (go_at_call_of 91 (Value.int .i64 c);exact Calls.quiet_of_same (F1.out _)) | (go_at_call_of 97 (Value.string z);exact Calls.quiet_of_same (F2.out _)) | (go_at_call_of 97 (Value.string k);exact Calls.quiet_of_same (F3.out _))))
   go_wp2_with fail;go_ret;exact ⟨false,rfl,⟨fun h => (by cases h),fun h => (HP.out (h.2.2.2.1)).elim⟩,below_drewN (below1 _ _) _⟩
  have F3 : Hid (∀ w,Calls Tryz.prog 97 #[.string k] w fun e w' => e = .returned (.bool true) ∧ w' = w):=fun w => (iname_any k w hk).mono fun _ _ h => h.yes p3
  by_cases p4 : ZoneOk m
  case neg =>
   have F4 : Hid (∀ w,Calls Tryz.prog 98 #[.string m] w fun e w' => e = .returned (.bool false) ∧ w' = w):=fun w => (izone_any m w hm).mono fun _ _ h => h.no p4;have HP:=hidK p4;clear p4
   go_enter Tryz.func46,Tryz.ntmps46
   go_wp2_with fail
   go_quiet ((first | (go_at_call_of 97 (Value.string n);exact Calls.quiet_of_same (F0.out _)) | (go_at_call_of 91 (Value.int .i64 c);exact Calls.quiet_of_same (F1.out _)) | (go_at_call_of 97 (Value.string z);exact Calls.quiet_of_same (F2.out _)) | (go_at_call_of 97 (Value.string k);exact Calls.quiet_of_same (F3.out _)) | (go_at_call_of 98 (Value.string m);exact Calls.quiet_of_same (F4.out _))))
   go_wp2_with fail;go_ret;exact ⟨false,rfl,⟨fun h => (by cases h),fun h => (HP.out (h.2.2.2.2.1)).elim⟩,below_drewN (below1 _ _) _⟩
  have F4 : Hid (∀ w,Calls Tryz.prog 98 #[.string m] w fun e w' => e = .returned (.bool true) ∧ w' = w):=fun w => (izone_any m w hm).mono fun _ _ h => h.yes p4;obtain ⟨q,hq⟩ : ∃ q : Int,q = if x = true then 1 else 6:=⟨_,rfl⟩
  have HM : Hid (∀ w,Calls Tryz.prog 100 #[.agg #[.string n,.int .i64 c,.string z,.string k,.bool x,.string m,.bool false,.slice a len cap]] w fun e w' => e = .returned (.int .i64 q) ∧ Below w.heap.size w w'):=fun w => by rw [hq];exact mostOn_any n c z k x m false a len cap w
  have HQ : Hid (q = if x = true then 1 else 6):=hq;clear hq
  go_enter Tryz.func46,Tryz.ntmps46
  go_wp2_with fail
  go_region_with (first | (go_at_call_of 97 (Value.string n);refine (F0.out _).mono ?_;rintro e w1 ⟨rfl,rfl⟩) | (go_at_call_of 91 (Value.int .i64 c);refine (F1.out _).mono ?_;rintro e w1 ⟨rfl,rfl⟩) | (go_at_call_of 97 (Value.string z);refine (F2.out _).mono ?_;rintro e w1 ⟨rfl,rfl⟩) | (go_at_call_of 97 (Value.string k);refine (F3.out _).mono ?_;rintro e w1 ⟨rfl,rfl⟩) | (go_at_call_of 98 (Value.string m);refine (F4.out _).mono ?_;rintro e w1 ⟨rfl,rfl⟩) | (go_at_call 100;refine (HM.out _).mono ?_;rintro e w1 ⟨rfl,hb⟩;have hc7:=cellK (slotKd hb).1 7;simp only [List.getElem?_toArray,List.getElem?_cons_succ,List.getElem?_cons_zero] at hc7) | (go_at_call 99;refine (inames_any a len cap zs _ _ (HR.out.below (slotKd hb).2.1)).mono ?_;rintro e w2 ⟨r,rfl,hr,rfl⟩))
  all_goals (
   go_wp2_with fail;go_ret
   exact ⟨r,rfl,⟨fun h => ⟨p0,p1,p2,p3,p4,HY.out,HQ.out ▸ hr.1 h⟩,fun h => hr.2 (HQ.out ▸ h.2.2.2.2.2.2)⟩,(slotKd hb).2.1⟩)
 by_cases hm0 : m = ⟨#[]⟩
 ·subst hm0;have HY : Hid True:=trivial
  by_cases p0 : NameOk n
  case neg =>
   have F0 : Hid (∀ w,Calls Tryz.prog 97 #[.string n] w fun e w' => e = .returned (.bool false) ∧ w' = w):=fun w => (iname_any n w hn).mono fun _ _ h => h.no p0;have HP:=hidK p0;clear p0
   go_enter Tryz.func46,Tryz.ntmps46
   go_wp2_with fail
   go_quiet ((first | (go_at_call_of 97 (Value.string n);exact Calls.quiet_of_same (F0.out _))))
   go_wp2_with fail;go_ret;exact ⟨false,rfl,⟨fun h => (by cases h),fun h => (HP.out (h.1)).elim⟩,below_drewN (below1 _ _) _⟩
  have F0 : Hid (∀ w,Calls Tryz.prog 97 #[.string n] w fun e w' => e = .returned (.bool true) ∧ w' = w):=fun w => (iname_any n w hn).mono fun _ _ h => h.yes p0
  by_cases p1 : Inn c 1 1048576
  case neg =>
   have F1 : Hid (∀ w,Calls Tryz.prog 91 #[.int .i64 c,.int .i64 1,.int .i64 1048576] w fun e w' => e = .returned (.bool false) ∧ w' = w):=fun w => (kwithin_any c 1 1048576 w).mono fun _ _ h => h.no p1;have HP:=hidK p1;clear p1
   go_enter Tryz.func46,Tryz.ntmps46
   go_wp2_with fail
   go_quiet ((first | (go_at_call_of 97 (Value.string n);exact Calls.quiet_of_same (F0.out _)) | (go_at_call_of 91 (Value.int .i64 c);exact Calls.quiet_of_same (F1.out _))))
   go_wp2_with fail;go_ret;exact ⟨false,rfl,⟨fun h => (by cases h),fun h => (HP.out (h.2.1)).elim⟩,below_drewN (below1 _ _) _⟩
  have F1 : Hid (∀ w,Calls Tryz.prog 91 #[.int .i64 c,.int .i64 1,.int .i64 1048576] w fun e w' => e = .returned (.bool true) ∧ w' = w):=fun w => (kwithin_any c 1 1048576 w).mono fun _ _ h => h.yes p1
  by_cases p2 : NameOk z
  case neg =>
   have F2 : Hid (∀ w,Calls Tryz.prog 97 #[.string z] w fun e w' => e = .returned (.bool false) ∧ w' = w):=fun w => (iname_any z w hz).mono fun _ _ h => h.no p2;have HP:=hidK p2;clear p2
   go_enter Tryz.func46,Tryz.ntmps46
   go_wp2_with fail
   go_quiet ((first | (go_at_call_of 97 (Value.string n);exact Calls.quiet_of_same (F0.out _)) | (go_at_call_of 91 (Value.int .i64 c);exact Calls.quiet_of_same (F1.out _)) | (go_at_call_of 97 (Value.string z);exact Calls.quiet_of_same (F2.out _))))
   go_wp2_with fail;go_ret;exact ⟨false,rfl,⟨fun h => (by cases h),fun h => (HP.out (h.2.2.1)).elim⟩,below_drewN (below1 _ _) _⟩
  have F2 : Hid (∀ w,Calls Tryz.prog 97 #[.string z] w fun e w' => e = .returned (.bool true) ∧ w' = w):=fun w => (iname_any z w hz).mono fun _ _ h => h.yes p2
  by_cases p3 : NameOk k
  case neg =>
   have F3 : Hid (∀ w,Calls Tryz.prog 97 #[.string k] w fun e w' => e = .returned (.bool false) ∧ w' = w):=fun w => (iname_any k w hk).mono fun _ _ h => h.no p3;have HP:=hidK p3;clear p3
   go_enter Tryz.func46,Tryz.ntmps46
   go_wp2_with fail
   go_quiet ((first | (go_at_call_of 97 (Value.string n);exact Calls.quiet_of_same (F0.out _)) | (go_at_call_of 91 (Value.int .i64 c);exact Calls.quiet_of_same (F1.out _)) | (go_at_call_of 97 (Value.string z);exact Calls.quiet_of_same (F2.out _)) | (go_at_call_of 97 (Value.string k);exact Calls.quiet_of_same (F3.out _))))
   go_wp2_with fail;go_ret;exact ⟨false,rfl,⟨fun h => (by cases h),fun h => (HP.out (h.2.2.2.1)).elim⟩,below_drewN (below1 _ _) _⟩
  have F3 : Hid (∀ w,Calls Tryz.prog 97 #[.string k] w fun e w' => e = .returned (.bool true) ∧ w' = w):=fun w => (iname_any k w hk).mono fun _ _ h => h.yes p3
  by_cases p4 : ZoneOk (⟨#[]⟩ : ByteArray)
  case neg =>
   have F4 : Hid (∀ w,Calls Tryz.prog 98 #[.string (⟨#[]⟩ : ByteArray)] w fun e w' => e = .returned (.bool false) ∧ w' = w):=fun w => (izone_any (⟨#[]⟩ : ByteArray) w hm).mono fun _ _ h => h.no p4;have HP:=hidK p4;clear p4
   go_enter Tryz.func46,Tryz.ntmps46
   go_wp2_with fail
   go_quiet ((first | (go_at_call_of 97 (Value.string n);exact Calls.quiet_of_same (F0.out _)) | (go_at_call_of 91 (Value.int .i64 c);exact Calls.quiet_of_same (F1.out _)) | (go_at_call_of 97 (Value.string z);exact Calls.quiet_of_same (F2.out _)) | (go_at_call_of 97 (Value.string k);exact Calls.quiet_of_same (F3.out _)) | (go_at_call_of 98 (Value.string (⟨#[]⟩ : ByteArray));exact Calls.quiet_of_same (F4.out _))))
   go_wp2_with fail;go_ret;exact ⟨false,rfl,⟨fun h => (by cases h),fun h => (HP.out (h.2.2.2.2.1)).elim⟩,below_drewN (below1 _ _) _⟩
  have F4 : Hid (∀ w,Calls Tryz.prog 98 #[.string (⟨#[]⟩ : ByteArray)] w fun e w' => e = .returned (.bool true) ∧ w' = w):=fun w => (izone_any (⟨#[]⟩ : ByteArray) w hm).mono fun _ _ h => h.yes p4;obtain ⟨q,hq⟩ : ∃ q : Int,q = if x = true then 1 else 6:=⟨_,rfl⟩
  have HM : Hid (∀ w,Calls Tryz.prog 100 #[.agg #[.string n,.int .i64 c,.string z,.string k,.bool x,.string (⟨#[]⟩ : ByteArray),.bool true,.slice a len cap]] w fun e w' => e = .returned (.int .i64 q) ∧ Below w.heap.size w w'):=fun w => by rw [hq];exact mostOn_any n c z k x (⟨#[]⟩ : ByteArray) true a len cap w
  have HQ : Hid (q = if x = true then 1 else 6):=hq;clear hq
  go_enter Tryz.func46,Tryz.ntmps46
  go_wp2_with fail
  go_region_with (first | (go_at_call_of 97 (Value.string n);refine (F0.out _).mono ?_;rintro e w1 ⟨rfl,rfl⟩) | (go_at_call_of 91 (Value.int .i64 c);refine (F1.out _).mono ?_;rintro e w1 ⟨rfl,rfl⟩) | (go_at_call_of 97 (Value.string z);refine (F2.out _).mono ?_;rintro e w1 ⟨rfl,rfl⟩) | (go_at_call_of 97 (Value.string k);refine (F3.out _).mono ?_;rintro e w1 ⟨rfl,rfl⟩) | (go_at_call_of 98 (Value.string (⟨#[]⟩ : ByteArray));refine (F4.out _).mono ?_;rintro e w1 ⟨rfl,rfl⟩) | (go_at_call 100;refine (HM.out _).mono ?_;rintro e w1 ⟨rfl,hb⟩;have hc7:=cellK (slotKd hb).1 7;simp only [List.getElem?_toArray,List.getElem?_cons_succ,List.getElem?_cons_zero] at hc7) | (go_at_call 99;refine (inames_any a len cap zs _ _ (HR.out.below (slotKd hb).2.1)).mono ?_;rintro e w2 ⟨r,rfl,hr,rfl⟩))
  all_goals (
   go_wp2_with fail;go_ret
   exact ⟨r,rfl,⟨fun h => ⟨p0,p1,p2,p3,p4,(fun _ => rfl),HQ.out ▸ hr.1 h⟩,fun h => hr.2 (HQ.out ▸ h.2.2.2.2.2.2)⟩,(slotKd hb).2.1⟩)
 have hq9 : m.toList.isEmpty = false:=isE_no hm0
 go_enter Tryz.func46,Tryz.ntmps46
 go_wp2
 go_ret;exact ⟨false,rfl,⟨fun h => (by cases h),fun h => absurd (h.2.2.2.2.2.1 rfl) hm0⟩,below1 _ _⟩

end Go.Proofs.YtcogpoamhflgjaaGreatDoor

namespace Go.Proofs.YtcogpoamhflgjaaGreatDoor
open Go.RowKit
namespace Rc
open Mk

theorem callednd_any (x : Nd) (va : Option Addr) (vl vc : Nat) (w : World) :
  Calls Tryz.prog 198 #[.agg #[.string x.n,.string x.z,.int .i64 x.c,.int .i64 x.s,.int .i64 x.u,.bool x.d,.slice va vl vc]] w fun e w' => e = .returned (.string x.n) ∧ Below w.heap.size w w':=by
 go_enter Tryz.func198,Tryz.ntmps198
 go_wp2
 go_ret;exact ⟨rfl,below1 _ _⟩

theorem rightnd_any (x : Nd) (va : Option Addr) (vl vc : Nat) (w : World) (hn : x.n.size ≤ 9223372036854775807) (hz : x.z.size ≤ 9223372036854775807) (hr : TxRow w va vl vc x.zs) :
  Calls Tryz.prog 199 #[.agg #[.string x.n,.string x.z,.int .i64 x.c,.int .i64 x.s,.int .i64 x.u,.bool x.d,.slice va vl vc]] w (BoolB (ndOk x) w):=by
 have HR:=hidK (hr.below (below1 w (.cells #[.string x.n,.string x.z,.int .i64 x.c,.int .i64 x.s,.int .i64 x.u,.bool x.d,.slice va vl vc] 120)));clear hr
 go_enter Tryz.func199,Tryz.ntmps199
 go_wp2_with fail;refine (inode_any x.n x.z x.c x.s x.u x.d va vl vc x.zs _ hn hz HR.out).mono ?_;rintro e w1 ⟨r,rfl,hr1,hb⟩;have HB:=hidK (slotK hb).2.1;have HI:=hidK hr1;clear hb hr1
 go_wp2
 go_ret;exact ⟨r,rfl,HI.out,HB.out⟩

theorem placend_any (a : Option Addr) (len cap : Nat) (xs : List Nd) (t : ByteArray) (w : World) (hr : RRow w a len cap 7 (xs.map ndF)) :
  Calls Tryz.prog 172 #[.slice a len cap,.string t] w fun e w' => e = .returned (.tuple #[.int .i64 (pl Nd.n xs t : Nat),.bool (hit Nd.n xs t)]) ∧ Below w.heap.size w w':=by
 have HR:=hidK hr
 have hxl : xs.length = len:=by simpa using hr.1
 have hlc : len ≤ 9223372036854775807:=Nat.le_trans hr.2.1 hr.2.2.1;clear hr
 have hmcalled : ∀ (v : Value) (w : World),(method 334 120 v "loop.example/g00571/impl.called").run Tryz.prog w = .ok (198,v) w:=fun _ _ => by kernel_rfl
 go_enter Tryz.func172,Tryz.ntmps172
 go_wp2
 go_loopw [10] (fun i wr => ∃ k : Nat,k ≤ len ∧ i = .int .i64 k ∧ Hid (∀ (j : Nat) y,j < k → xs[j]? = some y → Op.bytesLess y.n.toList t.toList = true) ∧ Hid (Below w.heap.size w wr)) (fun i _ => len - (intOf i).toNat)
 case atStart => exact ⟨0,by omega,rfl,fun j y hj => by omega,Below.refl _ _⟩
 case round =>
  obtain ⟨k,hk,rfl,HE,HB⟩:=hrel
  by_cases hlt : k < len
  ·obtain ⟨b,o,x,rfl,hb,hx,hat⟩:=nd_at (HR.out.below HB.out) hlt;obtain ⟨va,vl,vc,hvr,z0,z1,c0,c1,c2,c3,c4,c5,c6⟩:=nd_cells hat;have HX:=hidK hx;clear hat hx z0 z1 hvr;have HC:=hidK (fun v : World => callednd_any x va vl vc v);have HB1:=hidK (HB.out.alloc HB.out.size (.cells #[.string x.n,.string x.z,.int .i64 x.c,.int .i64 x.s,.int .i64 x.u,.bool x.d,.slice va vl vc] 120));go_wp2_with fail;refine (HC.out _).mono ?_;rintro e w1 ⟨rfl,hb1⟩;obtain ⟨g1,-,-⟩:=slotK hb1;have hs1:=hb1.size;rw [show (wr.alloc (.cells #[.string x.n,.string x.z,.int .i64 x.c,.int .i64 x.s,.int .i64 x.u,.bool x.d,.slice va vl vc] 120)).heap.size = wr.heap.size + 1 from by simp] at hs1;have HB2:=upB HB1 hb1;have d0 : w1.cell? ⟨wr.heap.size,0,none⟩ = some (.string x.n):=cellK g1 0;have d1 : w1.cell? ⟨wr.heap.size,1,none⟩ = some (.string x.z):=cellK g1 1;have d2 : w1.cell? ⟨wr.heap.size,2,none⟩ = some (.int .i64 x.c):=cellK g1 2;have d3 : w1.cell? ⟨wr.heap.size,3,none⟩ = some (.int .i64 x.s):=cellK g1 3;have d4 : w1.cell? ⟨wr.heap.size,4,none⟩ = some (.int .i64 x.u):=cellK g1 4;have d5 : w1.cell? ⟨wr.heap.size,5,none⟩ = some (.bool x.d):=cellK g1 5;have d6 : w1.cell? ⟨wr.heap.size,6,none⟩ = some (.slice va vl vc):=cellK g1 6;clear g1 hb1 c0 c1 c2 c3 c4 c5 c6 HB1
   cases hless : Op.bytesLess x.n.toList t.toList
   ·go_wp2_with fail;refine (HC.out _).mono ?_;rintro e w2 ⟨rfl,hb2⟩;have HB3:=hidK (HB2.out.trans (hb2.mono (Nat.le_trans HB.out.size (Nat.le_trans (Nat.le_succ _) hs1))));have hp:=pl_at HE.out HX.out hless;clear hb2;go_wp2_with fail;refine bodyPost_ret (v:=.tuple #[.int .i64 k,.bool (x.n.toList == t.toList)]) (by simp [results,Tryz.results172,go_sem]) rfl ⟨?_,HB3.out⟩;unfold hit;rw [hp,HX.out]
   ·go_wp2_with fail;refine ⟨⟨k + 1,by omega,by go_num,fun j y hj hy => ?_,HB2.out⟩,by simp [intOf];omega⟩
    by_cases e : j = k
    ·subst e;rw [HX.out] at hy;obtain rfl:=Option.some.inj hy;exact hless
    ·exact HE.out j y (by omega) hy
  ·obtain rfl : k = len:=by omega
   have hp : pl Nd.n xs t = xs.length:=pl_end (fun j y hy => HE.out j y (by have:=(List.getElem?_eq_some_iff.1 hy).1;omega) hy)
   have hh : hit Nd.n xs t = false:=by unfold hit;rw [hp,List.getElem?_eq_none (Nat.le_refl _)]
   have HP:=hidK hp;have HH:=hidK hh;clear hp hh
   go_wp2
   exact bodyPost_ret (v:=.tuple #[.int .i64 k,.bool false]) (by simp [results,Tryz.results172,go_sem]) rfl ⟨by rw [HP.out,HH.out,hxl],HB.out⟩

def Fndnd (xs : List Nd) (t : ByteArray) (r w : World) (e : Ending) (w' : World) : Prop :=
 Below w.heap.size w w' ∧ ((hit Nd.n xs t = true ∧ ∃ (x : Nd) (va : Option Addr) (vl vc : Nat),xs[pl Nd.n xs t]? = some x ∧ x.n = t ∧ e = .returned (.tuple #[.agg #[.string x.n,.string x.z,.int .i64 x.c,.int .i64 x.s,.int .i64 x.u,.bool x.d,.slice va vl vc],.bool true]) ∧ x.n.size ≤ 9223372036854775807 ∧ x.z.size ≤ 9223372036854775807 ∧ TxRow r va vl vc x.zs) ∨ (hit Nd.n xs t = false ∧ e = .returned (.tuple #[.agg #[.string ⟨#[]⟩,.string ⟨#[]⟩,.int .i64 0,.int .i64 0,.int .i64 0,.bool false,.slice none 0 0],.bool false])))

theorem findnd_any (a : Option Addr) (len cap : Nat) (xs : List Nd) (t : ByteArray) (r w : World) (hr : RRow r a len cap 7 (xs.map ndF)) (hrw : Below r.heap.size r w) :
  Calls Tryz.prog 163 #[.slice a len cap,.string t] w (Fndnd xs t r w):=by
 have HR:=hidK hr;have HRW:=hidK hrw
 have hxl : xs.length = len:=by simpa using hr.1
 have hlc : len ≤ 9223372036854775807:=Nat.le_trans hr.2.1 hr.2.2.1;have HR1:=hidK ((hr.below hrw).below (below1 w (.cells #[.string ⟨#[]⟩,.string ⟨#[]⟩,.int .i64 0,.int .i64 0,.int .i64 0,.bool false,.slice none 0 0] 120)));have hsr:=hrw.size;clear hr hrw
 go_enter Tryz.func163,Tryz.ntmps163
 go_wp2_with fail;refine (placend_any a len cap xs t _ HR1.out).mono ?_;rintro e w1 ⟨rfl,hb⟩;obtain ⟨g1,hb1,-⟩:=slotK hb;have d0 : w1.cell? ⟨w.heap.size,0,none⟩ = some (.string ⟨#[]⟩):=cellK g1 0;have f0:=froK g1 0;have d1 : w1.cell? ⟨w.heap.size,1,none⟩ = some (.string ⟨#[]⟩):=cellK g1 1;have f1:=froK g1 1;have d2 : w1.cell? ⟨w.heap.size,2,none⟩ = some (.int .i64 0):=cellK g1 2;have f2:=froK g1 2;have d3 : w1.cell? ⟨w.heap.size,3,none⟩ = some (.int .i64 0):=cellK g1 3;have f3:=froK g1 3;have d4 : w1.cell? ⟨w.heap.size,4,none⟩ = some (.int .i64 0):=cellK g1 4;have f4:=froK g1 4;have d5 : w1.cell? ⟨w.heap.size,5,none⟩ = some (.bool false):=cellK g1 5;have f5:=froK g1 5;have d6 : w1.cell? ⟨w.heap.size,6,none⟩ = some (.slice none 0 0):=cellK g1 6;have f6:=froK g1 6;have HB:=hidK hb1;have hs1:=hb.size;rw [show (w.alloc (.cells #[.string ⟨#[]⟩,.string ⟨#[]⟩,.int .i64 0,.int .i64 0,.int .i64 0,.bool false,.slice none 0 0] 120)).heap.size = w.heap.size + 1 from by simp] at hs1
 have hlt1 : w.heap.size < w1.heap.size:=by omega
 clear hb g1 HR1 hs1
 cases hh : hit Nd.n xs t
 ·generalize pl Nd.n xs t = j
  have HH:=hidK hh;clear hh hb1 HR hxl hlc
  go_wp2
  refine bodyPost_ret (v:=.tuple #[.agg #[.string ⟨#[]⟩,.string ⟨#[]⟩,.int .i64 0,.int .i64 0,.int .i64 0,.bool false,.slice none 0 0],.bool false]) (by simp [results,Tryz.results163,go_sem, *]) rfl ⟨?_,.inr ⟨HH.out,rfl⟩⟩;exact Below.alloc (set_below (Nat.le_refl _) (set_below (Nat.le_refl _) (set_below (Nat.le_refl _) (set_below (Nat.le_refl _) (set_below (Nat.le_refl _) (set_below (Nat.le_refl _) (set_below (Nat.le_refl _) (HB.out)))))))) (by simp [World.setCell];omega) _
 ·obtain ⟨x,hx,hn⟩:=hit_yes hh
  have hj : pl Nd.n xs t < len:=by have:=(List.getElem?_eq_some_iff.1 hx).1;omega
  obtain ⟨b,o,y,rfl,hbl,hy,hat⟩:=nd_at HR.out hj;rw [hx] at hy;obtain rfl:=Option.some.inj hy;obtain ⟨va,vl,vc,hvr,z0,z1,c0,c1,c2,c3,c4,c5,c6⟩:=nd_cells hat;have hbw : b < w.heap.size:=Nat.lt_of_lt_of_le hbl HRW.out.size;have e0:=(cell_below hb1 hbw).trans ((cell_below HRW.out hbl).trans c0);have e1:=(cell_below hb1 hbw).trans ((cell_below HRW.out hbl).trans c1);have e2:=(cell_below hb1 hbw).trans ((cell_below HRW.out hbl).trans c2);have e3:=(cell_below hb1 hbw).trans ((cell_below HRW.out hbl).trans c3);have e4:=(cell_below hb1 hbw).trans ((cell_below HRW.out hbl).trans c4);have e5:=(cell_below hb1 hbw).trans ((cell_below HRW.out hbl).trans c5);have e6:=(cell_below hb1 hbw).trans ((cell_below HRW.out hbl).trans c6);have HI : Hid (Fndnd xs t r w (.returned (.tuple #[.agg #[.string x.n,.string x.z,.int .i64 x.c,.int .i64 x.s,.int .i64 x.u,.bool x.d,.slice va vl vc],.bool true])) w):=⟨Below.refl _ _,.inl ⟨hh,x,va,vl,vc,hx,hn,rfl,z0,z1,hvr⟩⟩;clear c0 c1 c2 c3 c4 c5 c6 hat hx hn hy hh z0 z1 hvr HR HRW hb1 hsr
  have hne : ¬ b = w.heap.size:=by omega
  obtain ⟨j,hjj⟩ : ∃ j,pl Nd.n xs t = j:=⟨_,rfl⟩;rw [hjj] at hj;simp only [hjj] at *;clear hjj
  go_wp2
  refine bodyPost_ret (v:=.tuple #[.agg #[.string x.n,.string x.z,.int .i64 x.c,.int .i64 x.s,.int .i64 x.u,.bool x.d,.slice va vl vc],.bool true]) (by simp [results,Tryz.results163,go_sem, *]) rfl ⟨?_,HI.out.2⟩;exact set_below (Nat.le_refl _) (set_below (Nat.le_refl _) (set_below (Nat.le_refl _) (set_below (Nat.le_refl _) (set_below (Nat.le_refl _) (set_below (Nat.le_refl _) (set_below (Nat.le_refl _) (HB.out)))))))

theorem thend_any (d : Ad) (now : Int) (xs : List Nd) (t : ByteArray) (r w : World) (hr : RRow r d.a1 d.l1 d.c1 7 (xs.map ndF)) (hrw : Below r.heap.size r w) :
  Calls Tryz.prog 146 #[.agg #[.slice d.a1 d.l1 d.c1,.slice d.a2 d.l2 d.c2,.slice d.a3 d.l3 d.c3,.slice d.a4 d.l4 d.c4,.slice d.a5 d.l5 d.c5,.int .i64 now],.string t] w (Fndnd xs t r w):=by
 have HR:=hidK hr;have HRW:=hidK (hrw.trans ((below2 w (.cells #[.slice d.a1 d.l1 d.c1,.slice d.a2 d.l2 d.c2,.slice d.a3 d.l3 d.c3,.slice d.a4 d.l4 d.c4,.slice d.a5 d.l5 d.c5,.int .i64 now] 40) (.cells #[.string ⟨#[]⟩,.string ⟨#[]⟩,.int .i64 0,.int .i64 0,.int .i64 0,.bool false,.slice none 0 0] 120)).mono hrw.size));clear hr hrw
 go_enter Tryz.func146,Tryz.ntmps146
 go_wp2_with fail;refine (findnd_any _ _ _ xs t r _ HR.out HRW.out).mono ?_;rintro e w1 ⟨hb,hf⟩;have g1:=(hb.block (w.heap.size + 1) (by simp)).trans (heap2_1 _ _ _);have d0 : w1.cell? ⟨w.heap.size + 1,0,none⟩ = some (.string ⟨#[]⟩):=cellK g1 0;have f0:=froK g1 0;have d1 : w1.cell? ⟨w.heap.size + 1,1,none⟩ = some (.string ⟨#[]⟩):=cellK g1 1;have f1:=froK g1 1;have d2 : w1.cell? ⟨w.heap.size + 1,2,none⟩ = some (.int .i64 0):=cellK g1 2;have f2:=froK g1 2;have d3 : w1.cell? ⟨w.heap.size + 1,3,none⟩ = some (.int .i64 0):=cellK g1 3;have f3:=froK g1 3;have d4 : w1.cell? ⟨w.heap.size + 1,4,none⟩ = some (.int .i64 0):=cellK g1 4;have f4:=froK g1 4;have d5 : w1.cell? ⟨w.heap.size + 1,5,none⟩ = some (.bool false):=cellK g1 5;have f5:=froK g1 5;have d6 : w1.cell? ⟨w.heap.size + 1,6,none⟩ = some (.slice none 0 0):=cellK g1 6;have f6:=froK g1 6;have HB : Hid (Below w.heap.size w w1):=(below2 _ _ _).trans (hb.mono (by simp;omega));clear g1 hb HR HRW
 rcases hf with ⟨hh,x,va,vl,vc,hx,hn,rfl,z0,z1,hvr⟩ | ⟨hh,rfl⟩
 ·have HI : Hid (Fndnd xs t r w (.returned (.tuple #[.agg #[.string x.n,.string x.z,.int .i64 x.c,.int .i64 x.s,.int .i64 x.u,.bool x.d,.slice va vl vc],.bool true])) w):=⟨Below.refl _ _,.inl ⟨hh,x,va,vl,vc,hx,hn,rfl,z0,z1,hvr⟩⟩;clear hx hn hh z0 z1 hvr
  go_wp2
  refine bodyPost_ret (v:=.tuple #[.agg #[.string x.n,.string x.z,.int .i64 x.c,.int .i64 x.s,.int .i64 x.u,.bool x.d,.slice va vl vc],.bool true]) (by simp [results,Tryz.results146,go_sem, *]) rfl ⟨?_,HI.out.2⟩;exact set_below (Nat.le_succ _) (set_below (Nat.le_succ _) (set_below (Nat.le_succ _) (set_below (Nat.le_succ _) (set_below (Nat.le_succ _) (set_below (Nat.le_succ _) (set_below (Nat.le_succ _) (HB.out)))))))
 ·have HH:=hidK hh;clear hh
  go_wp2
  refine bodyPost_ret (v:=.tuple #[.agg #[.string ⟨#[]⟩,.string ⟨#[]⟩,.int .i64 0,.int .i64 0,.int .i64 0,.bool false,.slice none 0 0],.bool false]) (by simp [results,Tryz.results146,go_sem, *]) rfl ⟨?_,.inr ⟨HH.out,rfl⟩⟩;exact set_below (Nat.le_succ _) (set_below (Nat.le_succ _) (set_below (Nat.le_succ _) (set_below (Nat.le_succ _) (set_below (Nat.le_succ _) (set_below (Nat.le_succ _) (set_below (Nat.le_succ _) (HB.out)))))))

theorem rowrnd_any (a : Option Addr) (len cap : Nat) (xs : List Nd) (most : Int) (w : World) (hr : RRow w a len cap 7 (xs.map ndF)) :
  Calls Tryz.prog 137 #[.slice a len cap,.int .i64 most] w (BoolB (RowOk ndOk Nd.n xs most) w):=by
 have HR:=hidK hr
 have hxl : xs.length = len:=by simpa using hr.1
 have hlc : len ≤ 9223372036854775807:=Nat.le_trans hr.2.1 hr.2.2.1;clear hr
 have hmcalled : ∀ (v : Value) (w : World),(method 334 120 v "loop.example/g00571/impl.called").run Tryz.prog w = .ok (198,v) w:=fun _ _ => by kernel_rfl
 have hmright : ∀ (v : Value) (w : World),(method 334 120 v "loop.example/g00571/impl.right").run Tryz.prog w = .ok (199,v) w:=fun _ _ => by kernel_rfl
 by_cases hmo : most < (len : Int)
 ·go_enter Tryz.func137,Tryz.ntmps137
  go_wp2
  go_ret;exact BoolB.f (fun h => by have:=h.1;omega) (Below.refl _ _)
 go_enter Tryz.func137,Tryz.ntmps137
 go_wp2
 go_loopw [5,14] (fun q i wr => ∃ (k : Nat) (y : ByteArray),k ≤ len ∧ q = .string y ∧ i = .int .i64 k ∧ Hid (k = 0 → y = ⟨#[]⟩) ∧ Hid (∀ z,0 < k → xs[k - 1]? = some z → z.n = y) ∧ Hid (∀ (j : Nat) z,j < k → xs[j]? = some z → ndOk z) ∧ Hid (∀ (j : Nat) z u,j + 1 < k → xs[j + 1]? = some z → xs[j]? = some u → Op.bytesLess u.n.toList z.n.toList = true) ∧ Hid (Below w.heap.size w wr)) (fun _ i _ => len - (intOf i).toNat)
 case atStart => exact ⟨0,_,by omega,rfl,rfl,fun _ => rfl,fun _ h => absurd h (by omega),fun _ _ h => absurd h (by omega),fun _ _ _ h => absurd h (by omega),Below.refl _ _⟩
 case round =>
  obtain ⟨k,y,hk,rfl,rfl,H0,H1,HE,HO,HB⟩:=hrel
  by_cases hlt : k < len
  ·obtain ⟨b,o,x,rfl,hb,hx,hat⟩:=nd_at (HR.out.below HB.out) hlt;obtain ⟨va,vl,vc,hvr,z0,z1,c0,c1,c2,c3,c4,c5,c6⟩:=nd_cells hat;have HX:=hidK hx;have HC:=hidK (fun v : World => callednd_any x va vl vc v);have HB1:=hidK (HB.out.alloc HB.out.size (.cells #[.string x.n,.string x.z,.int .i64 x.c,.int .i64 x.s,.int .i64 x.u,.bool x.d,.slice va vl vc] 120));have HRt:=hidK (rightnd_any x va vl vc (wr.alloc (.cells #[.string x.n,.string x.z,.int .i64 x.c,.int .i64 x.s,.int .i64 x.u,.bool x.d,.slice va vl vc] 120)) z0 z1 (hvr.below (below1 _ _)));clear hat hx z0 z1 hvr;go_wp2_with fail;refine HRt.out.mono ?_;rintro e w1 ⟨r,rfl,hrt,hb1⟩;obtain ⟨g1,-,-⟩:=slotK hb1;have hs1:=hb1.size;rw [show (wr.alloc (.cells #[.string x.n,.string x.z,.int .i64 x.c,.int .i64 x.s,.int .i64 x.u,.bool x.d,.slice va vl vc] 120)).heap.size = wr.heap.size + 1 from by simp] at hs1;have HB2:=upB HB1 hb1;have d0 : w1.cell? ⟨wr.heap.size,0,none⟩ = some (.string x.n):=cellK g1 0;have d1 : w1.cell? ⟨wr.heap.size,1,none⟩ = some (.string x.z):=cellK g1 1;have d2 : w1.cell? ⟨wr.heap.size,2,none⟩ = some (.int .i64 x.c):=cellK g1 2;have d3 : w1.cell? ⟨wr.heap.size,3,none⟩ = some (.int .i64 x.s):=cellK g1 3;have d4 : w1.cell? ⟨wr.heap.size,4,none⟩ = some (.int .i64 x.u):=cellK g1 4;have d5 : w1.cell? ⟨wr.heap.size,5,none⟩ = some (.bool x.d):=cellK g1 5;have d6 : w1.cell? ⟨wr.heap.size,6,none⟩ = some (.slice va vl vc):=cellK g1 6;have HG:=hidK g1;have HI:=hidK hrt;clear g1 hb1 HB1 HRt hrt c0 c1 c2 c3 c4 c5 c6
   cases r
   ·go_wp2
    go_ret;exact BoolB.f (fun h => by have:=HI.out.2 (h.2.1 k x HX.out);cases this) HB2.out
   have HOK:=hidK (HI.out.1 rfl);clear HI;go_wp2_with fail;refine (HC.out _).mono ?_;rintro e w2 ⟨rfl,hb2⟩;have HB3:=hidK (HB2.out.trans (hb2.mono (Nat.le_trans HB.out.size (Nat.le_trans (Nat.le_succ _) hs1))));have g2:=(hb2.block wr.heap.size (by omega)).trans HG.out;have hs2:=hb2.size;have htri:=less_tri y.toList x.n.toList;clear HG hb2 HB2 d0 d1 d2 d3 d4 d5 d6;have d0 : w2.cell? ⟨wr.heap.size,0,none⟩ = some (.string x.n):=cellK g2 0;have d1 : w2.cell? ⟨wr.heap.size,1,none⟩ = some (.string x.z):=cellK g2 1;have d2 : w2.cell? ⟨wr.heap.size,2,none⟩ = some (.int .i64 x.c):=cellK g2 2;have d3 : w2.cell? ⟨wr.heap.size,3,none⟩ = some (.int .i64 x.s):=cellK g2 3;have d4 : w2.cell? ⟨wr.heap.size,4,none⟩ = some (.int .i64 x.u):=cellK g2 4;have d5 : w2.cell? ⟨wr.heap.size,5,none⟩ = some (.bool x.d):=cellK g2 5;have d6 : w2.cell? ⟨wr.heap.size,6,none⟩ = some (.slice va vl vc):=cellK g2 6;clear g2
   cases hless : Op.bytesLess y.toList x.n.toList
   ·rw [hless] at htri
    go_wp2
    go_ret;refine BoolB.f (fun h => ?_) HB3.out
    by_cases hk0 : 0 < k
    ·have hz : xs[k - 1]? = some (xs[k - 1]'(by omega)):=List.getElem?_eq_getElem _;have h2:=H1.out _ hk0 hz;have h3:=h.2.2 (k - 1) x _ (by rw [Nat.sub_add_cancel hk0];exact HX.out) hz;rw [h2,hless] at h3
     cases h3
    ·have:=H0.out (by omega);subst this;have hnm : 1 ≤ x.n.size:=HOK.out.1.1;rw [less_nil hnm] at hless
     cases hless
   ·rw [hless] at htri;go_wp2_with fail;refine (HC.out _).mono ?_;rintro e w3 ⟨rfl,hb3⟩;have HB4:=hidK (HB3.out.trans (hb3.mono (Nat.le_trans HB.out.size (by omega))));clear hb3 d0 d1 d2 d3 d4 d5 d6;go_wp2_with fail;refine ⟨⟨k + 1,x.n,by omega,rfl,by go_num,fun h => absurd h (by omega),fun z _ hz => ?_,fun j z hj hz => ?_,fun j z u hj hz hu => ?_,HB4.out⟩,by simp [intOf];omega⟩
    ·rw [Nat.add_sub_cancel,HX.out] at hz;rw [Option.some.inj hz]
    ·by_cases e : j = k
     ·subst e;rw [HX.out] at hz;obtain rfl:=Option.some.inj hz;exact HOK.out
     ·exact HE.out j z (by omega) hz
    ·by_cases e : j + 1 = k
     ·subst e;rw [HX.out] at hz;obtain rfl:=Option.some.inj hz;have:=H1.out u (by omega) (by rw [Nat.add_sub_cancel];exact hu);rw [this];exact hless
     ·exact HO.out j z u (by omega) hz hu
  ·obtain rfl : k = len:=by omega
   go_wp2
   go_ret;refine BoolB.t ⟨by omega,fun j z hz => HE.out j z (by have:=(List.getElem?_eq_some_iff.1 hz).1;omega) hz,fun j z u hz hu => HO.out j z u (by have:=(List.getElem?_eq_some_iff.1 hz).1;omega) hz hu⟩ HB.out

def Sxnd (xs : List Nd) (t : ByteArray) (w : World) (e : Ending) (w' : World) : Prop :=
 Below w.heap.size w w' ∧ ((∃ (j : Nat) (x : Nd),xs[j]? = some x ∧ x.n = t ∧ e = .returned (.int .i64 j)) ∨ ((∀ (j : Nat) x,xs[j]? = some x → ¬ x.n = t) ∧ e = .returned (.int .i64 (-1))))

theorem sxnd_any (d : Ad) (now : Int) (xs : List Nd) (t : ByteArray) (w : World) (hr : RRow w d.a1 d.l1 d.c1 7 (xs.map ndF)) :
  Calls Tryz.prog 130 #[.agg #[.slice d.a1 d.l1 d.c1,.slice d.a2 d.l2 d.c2,.slice d.a3 d.l3 d.c3,.slice d.a4 d.l4 d.c4,.slice d.a5 d.l5 d.c5,.int .i64 now],.string t] w (Sxnd xs t w):=by
 have HR:=hidK hr
 have hxl : xs.length = d.l1:=by simpa using hr.1
 have hlc : d.l1 ≤ 9223372036854775807:=Nat.le_trans hr.2.1 hr.2.2.1;clear hr
 go_enter Tryz.func130,Tryz.ntmps130
 go_wp2
 go_loopw [5] (fun i wr => ∃ k : Nat,k ≤ d.l1 ∧ i = .int .i64 k ∧ wr = w.alloc (.cells #[.slice d.a1 d.l1 d.c1,.slice d.a2 d.l2 d.c2,.slice d.a3 d.l3 d.c3,.slice d.a4 d.l4 d.c4,.slice d.a5 d.l5 d.c5,.int .i64 now] 40) ∧ Hid (∀ (j : Nat) z,j < k → xs[j]? = some z → ¬ z.n = t)) (fun i _ => d.l1 - (intOf i).toNat)
 case atStart => exact ⟨0,by omega,rfl,rfl,fun _ _ h => absurd h (by omega)⟩
 case round =>
  obtain ⟨k,hk,rfl,rfl,HE⟩:=hrel
  by_cases hlt : k < d.l1
  ·obtain ⟨b,o,x,ha,hb,hx,hat⟩:=nd_at HR.out hlt;obtain ⟨va,vl,vc,hvr,-,-,c0,-,-,-,-,-,-⟩:=nd_cells hat;have HX:=hidK hx;clear hat hx hvr
   by_cases hn : x.n = t
   ·have hq:=tl_yes hn;have HN:=hidK hn;clear hn
    go_wp2
    go_ret;exact ⟨below1 _ _,.inl ⟨k,x,HX.out,HN.out,rfl⟩⟩
   ·have hq:=tl_no hn;have HN:=hidK hn;clear hn
    go_wp2
    refine ⟨⟨k + 1,by omega,by go_num,by rw [ha],fun j z hj hz => ?_⟩,by simp [intOf];omega⟩
    by_cases e : j = k
    ·subst e;rw [HX.out] at hz;obtain rfl:=Option.some.inj hz;exact HN.out
    ·exact HE.out j z (by omega) hz
  ·obtain rfl : k = d.l1:=by omega
   go_wp2
   go_ret;exact ⟨below1 _ _,.inr ⟨fun j z hz => HE.out j z (by have:=(List.getElem?_eq_some_iff.1 hz).1;omega) hz,rfl⟩⟩

theorem calledkd_any (x : Kd)  (w : World) :
  Calls Tryz.prog 195 #[.agg #[.string x.n,.bool x.x,.bool x.y,.string x.z]] w fun e w' => e = .returned (.string x.n) ∧ Below w.heap.size w w':=by
 go_enter Tryz.func195,Tryz.ntmps195
 go_wp2
 go_ret;exact ⟨rfl,below1 _ _⟩

theorem rightkd_any (x : Kd)  (w : World) (hn : x.n.size ≤ 9223372036854775807) (hz : x.z.size ≤ 9223372036854775807) :
  Calls Tryz.prog 196 #[.agg #[.string x.n,.bool x.x,.bool x.y,.string x.z]] w (BoolB (kdOk x) w):=by
 skip
 skip
 go_enter Tryz.func196,Tryz.ntmps196
 go_wp2_with fail;refine (iclass_any x.n x.z x.x x.y _ hn hz).mono ?_;rintro e w1 ⟨r,rfl,hr1,hb⟩;have HB:=hidK (slotK hb).2.1;have HI:=hidK hr1;clear hb hr1
 go_wp2
 go_ret;exact ⟨r,rfl,HI.out,HB.out⟩

theorem placekd_any (a : Option Addr) (len cap : Nat) (xs : List Kd) (t : ByteArray) (w : World) (hr : RRow w a len cap 4 (xs.map kdF)) :
  Calls Tryz.prog 166 #[.slice a len cap,.string t] w fun e w' => e = .returned (.tuple #[.int .i64 (pl Kd.n xs t : Nat),.bool (hit Kd.n xs t)]) ∧ Below w.heap.size w w':=by
 have HR:=hidK hr
 have hxl : xs.length = len:=by simpa using hr.1
 have hlc : len ≤ 9223372036854775807:=Nat.le_trans hr.2.1 hr.2.2.1;clear hr
 have hmcalled : ∀ (v : Value) (w : World),(method 334 119 v "loop.example/g00571/impl.called").run Tryz.prog w = .ok (195,v) w:=fun _ _ => by kernel_rfl
 go_enter Tryz.func166,Tryz.ntmps166
 go_wp2
 go_loopw [10] (fun i wr => ∃ k : Nat,k ≤ len ∧ i = .int .i64 k ∧ Hid (∀ (j : Nat) y,j < k → xs[j]? = some y → Op.bytesLess y.n.toList t.toList = true) ∧ Hid (Below w.heap.size w wr)) (fun i _ => len - (intOf i).toNat)
 case atStart => exact ⟨0,by omega,rfl,fun j y hj => by omega,Below.refl _ _⟩
 case round =>
  obtain ⟨k,hk,rfl,HE,HB⟩:=hrel
  by_cases hlt : k < len
  ·obtain ⟨b,o,x,rfl,hb,hx,hat⟩:=kd_at (HR.out.below HB.out) hlt;obtain ⟨z0,z3,c0,c1,c2,c3⟩:=kd_cells hat;have HX:=hidK hx;clear hat hx z0 z3;have HC:=hidK (fun v : World => calledkd_any x v);have HB1:=hidK (HB.out.alloc HB.out.size (.cells #[.string x.n,.bool x.x,.bool x.y,.string x.z] 119));go_wp2_with fail;refine (HC.out _).mono ?_;rintro e w1 ⟨rfl,hb1⟩;obtain ⟨g1,-,-⟩:=slotK hb1;have hs1:=hb1.size;rw [show (wr.alloc (.cells #[.string x.n,.bool x.x,.bool x.y,.string x.z] 119)).heap.size = wr.heap.size + 1 from by simp] at hs1;have HB2:=upB HB1 hb1;have d0 : w1.cell? ⟨wr.heap.size,0,none⟩ = some (.string x.n):=cellK g1 0;have d1 : w1.cell? ⟨wr.heap.size,1,none⟩ = some (.bool x.x):=cellK g1 1;have d2 : w1.cell? ⟨wr.heap.size,2,none⟩ = some (.bool x.y):=cellK g1 2;have d3 : w1.cell? ⟨wr.heap.size,3,none⟩ = some (.string x.z):=cellK g1 3;clear g1 hb1 c0 c1 c2 c3 HB1
   cases hless : Op.bytesLess x.n.toList t.toList
   ·go_wp2_with fail;refine (HC.out _).mono ?_;rintro e w2 ⟨rfl,hb2⟩;have HB3:=hidK (HB2.out.trans (hb2.mono (Nat.le_trans HB.out.size (Nat.le_trans (Nat.le_succ _) hs1))));have hp:=pl_at HE.out HX.out hless;clear hb2;go_wp2_with fail;refine bodyPost_ret (v:=.tuple #[.int .i64 k,.bool (x.n.toList == t.toList)]) (by simp [results,Tryz.results166,go_sem]) rfl ⟨?_,HB3.out⟩;unfold hit;rw [hp,HX.out]
   ·go_wp2_with fail;refine ⟨⟨k + 1,by omega,by go_num,fun j y hj hy => ?_,HB2.out⟩,by simp [intOf];omega⟩
    by_cases e : j = k
    ·subst e;rw [HX.out] at hy;obtain rfl:=Option.some.inj hy;exact hless
    ·exact HE.out j y (by omega) hy
  ·obtain rfl : k = len:=by omega
   have hp : pl Kd.n xs t = xs.length:=pl_end (fun j y hy => HE.out j y (by have:=(List.getElem?_eq_some_iff.1 hy).1;omega) hy)
   have hh : hit Kd.n xs t = false:=by unfold hit;rw [hp,List.getElem?_eq_none (Nat.le_refl _)]
   have HP:=hidK hp;have HH:=hidK hh;clear hp hh
   go_wp2
   exact bodyPost_ret (v:=.tuple #[.int .i64 k,.bool false]) (by simp [results,Tryz.results166,go_sem]) rfl ⟨by rw [HP.out,HH.out,hxl],HB.out⟩

def Fndkd (xs : List Kd) (t : ByteArray) (_r w : World) (e : Ending) (w' : World) : Prop :=
 Below w.heap.size w w' ∧ ((hit Kd.n xs t = true ∧ ∃ (x : Kd),xs[pl Kd.n xs t]? = some x ∧ x.n = t ∧ e = .returned (.tuple #[.agg #[.string x.n,.bool x.x,.bool x.y,.string x.z],.bool true]) ∧ x.n.size ≤ 9223372036854775807 ∧ x.z.size ≤ 9223372036854775807) ∨ (hit Kd.n xs t = false ∧ e = .returned (.tuple #[.agg #[.string ⟨#[]⟩,.bool false,.bool false,.string ⟨#[]⟩],.bool false])))

theorem findkd_any (a : Option Addr) (len cap : Nat) (xs : List Kd) (t : ByteArray) (r w : World) (hr : RRow r a len cap 4 (xs.map kdF)) (hrw : Below r.heap.size r w) :
  Calls Tryz.prog 153 #[.slice a len cap,.string t] w (Fndkd xs t r w):=by
 have HR:=hidK hr;have HRW:=hidK hrw
 have hxl : xs.length = len:=by simpa using hr.1
 have hlc : len ≤ 9223372036854775807:=Nat.le_trans hr.2.1 hr.2.2.1;have HR1:=hidK ((hr.below hrw).below (below1 w (.cells #[.string ⟨#[]⟩,.bool false,.bool false,.string ⟨#[]⟩] 119)));have hsr:=hrw.size;clear hr hrw
 go_enter Tryz.func153,Tryz.ntmps153
 go_wp2_with fail;refine (placekd_any a len cap xs t _ HR1.out).mono ?_;rintro e w1 ⟨rfl,hb⟩;obtain ⟨g1,hb1,-⟩:=slotK hb;have d0 : w1.cell? ⟨w.heap.size,0,none⟩ = some (.string ⟨#[]⟩):=cellK g1 0;have f0:=froK g1 0;have d1 : w1.cell? ⟨w.heap.size,1,none⟩ = some (.bool false):=cellK g1 1;have f1:=froK g1 1;have d2 : w1.cell? ⟨w.heap.size,2,none⟩ = some (.bool false):=cellK g1 2;have f2:=froK g1 2;have d3 : w1.cell? ⟨w.heap.size,3,none⟩ = some (.string ⟨#[]⟩):=cellK g1 3;have f3:=froK g1 3;have HB:=hidK hb1;have hs1:=hb.size;rw [show (w.alloc (.cells #[.string ⟨#[]⟩,.bool false,.bool false,.string ⟨#[]⟩] 119)).heap.size = w.heap.size + 1 from by simp] at hs1
 have hlt1 : w.heap.size < w1.heap.size:=by omega
 clear hb g1 HR1 hs1
 cases hh : hit Kd.n xs t
 ·generalize pl Kd.n xs t = j
  have HH:=hidK hh;clear hh hb1 HR hxl hlc
  go_wp2
  refine bodyPost_ret (v:=.tuple #[.agg #[.string ⟨#[]⟩,.bool false,.bool false,.string ⟨#[]⟩],.bool false]) (by simp [results,Tryz.results153,go_sem, *]) rfl ⟨?_,.inr ⟨HH.out,rfl⟩⟩;exact Below.alloc (set_below (Nat.le_refl _) (set_below (Nat.le_refl _) (set_below (Nat.le_refl _) (set_below (Nat.le_refl _) (HB.out))))) (by simp [World.setCell];omega) _
 ·obtain ⟨x,hx,hn⟩:=hit_yes hh
  have hj : pl Kd.n xs t < len:=by have:=(List.getElem?_eq_some_iff.1 hx).1;omega
  obtain ⟨b,o,y,rfl,hbl,hy,hat⟩:=kd_at HR.out hj;rw [hx] at hy;obtain rfl:=Option.some.inj hy;obtain ⟨z0,z3,c0,c1,c2,c3⟩:=kd_cells hat;have hbw : b < w.heap.size:=Nat.lt_of_lt_of_le hbl HRW.out.size;have e0:=(cell_below hb1 hbw).trans ((cell_below HRW.out hbl).trans c0);have e1:=(cell_below hb1 hbw).trans ((cell_below HRW.out hbl).trans c1);have e2:=(cell_below hb1 hbw).trans ((cell_below HRW.out hbl).trans c2);have e3:=(cell_below hb1 hbw).trans ((cell_below HRW.out hbl).trans c3);have HI : Hid (Fndkd xs t r w (.returned (.tuple #[.agg #[.string x.n,.bool x.x,.bool x.y,.string x.z],.bool true])) w):=⟨Below.refl _ _,.inl ⟨hh,x,hx,hn,rfl,z0,z3⟩⟩;clear c0 c1 c2 c3 hat hx hn hy hh z0 z3 HR HRW hb1 hsr
  have hne : ¬ b = w.heap.size:=by omega
  obtain ⟨j,hjj⟩ : ∃ j,pl Kd.n xs t = j:=⟨_,rfl⟩;rw [hjj] at hj;simp only [hjj] at *;clear hjj
  go_wp2
  refine bodyPost_ret (v:=.tuple #[.agg #[.string x.n,.bool x.x,.bool x.y,.string x.z],.bool true]) (by simp [results,Tryz.results153,go_sem, *]) rfl ⟨?_,HI.out.2⟩;exact set_below (Nat.le_refl _) (set_below (Nat.le_refl _) (set_below (Nat.le_refl _) (set_below (Nat.le_refl _) (HB.out))))

theorem thekd_any (d : Ad) (now : Int) (xs : List Kd) (t : ByteArray) (r w : World) (hr : RRow r d.a2 d.l2 d.c2 4 (xs.map kdF)) (hrw : Below r.heap.size r w) :
  Calls Tryz.prog 103 #[.agg #[.slice d.a1 d.l1 d.c1,.slice d.a2 d.l2 d.c2,.slice d.a3 d.l3 d.c3,.slice d.a4 d.l4 d.c4,.slice d.a5 d.l5 d.c5,.int .i64 now],.string t] w (Fndkd xs t r w):=by
 have HR:=hidK hr;have HRW:=hidK (hrw.trans ((below2 w (.cells #[.slice d.a1 d.l1 d.c1,.slice d.a2 d.l2 d.c2,.slice d.a3 d.l3 d.c3,.slice d.a4 d.l4 d.c4,.slice d.a5 d.l5 d.c5,.int .i64 now] 40) (.cells #[.string ⟨#[]⟩,.bool false,.bool false,.string ⟨#[]⟩] 119)).mono hrw.size));clear hr hrw
 go_enter Tryz.func103,Tryz.ntmps103
 go_wp2_with fail;refine (findkd_any _ _ _ xs t r _ HR.out HRW.out).mono ?_;rintro e w1 ⟨hb,hf⟩;have g1:=(hb.block (w.heap.size + 1) (by simp)).trans (heap2_1 _ _ _);have d0 : w1.cell? ⟨w.heap.size + 1,0,none⟩ = some (.string ⟨#[]⟩):=cellK g1 0;have f0:=froK g1 0;have d1 : w1.cell? ⟨w.heap.size + 1,1,none⟩ = some (.bool false):=cellK g1 1;have f1:=froK g1 1;have d2 : w1.cell? ⟨w.heap.size + 1,2,none⟩ = some (.bool false):=cellK g1 2;have f2:=froK g1 2;have d3 : w1.cell? ⟨w.heap.size + 1,3,none⟩ = some (.string ⟨#[]⟩):=cellK g1 3;have f3:=froK g1 3;have HB : Hid (Below w.heap.size w w1):=(below2 _ _ _).trans (hb.mono (by simp;omega));clear g1 hb HR HRW
 rcases hf with ⟨hh,x,hx,hn,rfl,z0,z3⟩ | ⟨hh,rfl⟩
 ·have HI : Hid (Fndkd xs t r w (.returned (.tuple #[.agg #[.string x.n,.bool x.x,.bool x.y,.string x.z],.bool true])) w):=⟨Below.refl _ _,.inl ⟨hh,x,hx,hn,rfl,z0,z3⟩⟩;clear hx hn hh z0 z3
  go_wp2
  refine bodyPost_ret (v:=.tuple #[.agg #[.string x.n,.bool x.x,.bool x.y,.string x.z],.bool true]) (by simp [results,Tryz.results103,go_sem, *]) rfl ⟨?_,HI.out.2⟩;exact set_below (Nat.le_succ _) (set_below (Nat.le_succ _) (set_below (Nat.le_succ _) (set_below (Nat.le_succ _) (HB.out))))
 ·have HH:=hidK hh;clear hh
  go_wp2
  refine bodyPost_ret (v:=.tuple #[.agg #[.string ⟨#[]⟩,.bool false,.bool false,.string ⟨#[]⟩],.bool false]) (by simp [results,Tryz.results103,go_sem, *]) rfl ⟨?_,.inr ⟨HH.out,rfl⟩⟩;exact set_below (Nat.le_succ _) (set_below (Nat.le_succ _) (set_below (Nat.le_succ _) (set_below (Nat.le_succ _) (HB.out))))

theorem rowrkd_any (a : Option Addr) (len cap : Nat) (xs : List Kd) (most : Int) (w : World) (hr : RRow w a len cap 4 (xs.map kdF)) :
  Calls Tryz.prog 138 #[.slice a len cap,.int .i64 most] w (BoolB (RowOk kdOk Kd.n xs most) w):=by
 have HR:=hidK hr
 have hxl : xs.length = len:=by simpa using hr.1
 have hlc : len ≤ 9223372036854775807:=Nat.le_trans hr.2.1 hr.2.2.1;clear hr
 have hmcalled : ∀ (v : Value) (w : World),(method 334 119 v "loop.example/g00571/impl.called").run Tryz.prog w = .ok (195,v) w:=fun _ _ => by kernel_rfl
 have hmright : ∀ (v : Value) (w : World),(method 334 119 v "loop.example/g00571/impl.right").run Tryz.prog w = .ok (196,v) w:=fun _ _ => by kernel_rfl
 by_cases hmo : most < (len : Int)
 ·go_enter Tryz.func138,Tryz.ntmps138
  go_wp2
  go_ret;exact BoolB.f (fun h => by have:=h.1;omega) (Below.refl _ _)
 go_enter Tryz.func138,Tryz.ntmps138
 go_wp2
 go_loopw [5,14] (fun q i wr => ∃ (k : Nat) (y : ByteArray),k ≤ len ∧ q = .string y ∧ i = .int .i64 k ∧ Hid (k = 0 → y = ⟨#[]⟩) ∧ Hid (∀ z,0 < k → xs[k - 1]? = some z → z.n = y) ∧ Hid (∀ (j : Nat) z,j < k → xs[j]? = some z → kdOk z) ∧ Hid (∀ (j : Nat) z u,j + 1 < k → xs[j + 1]? = some z → xs[j]? = some u → Op.bytesLess u.n.toList z.n.toList = true) ∧ Hid (Below w.heap.size w wr)) (fun _ i _ => len - (intOf i).toNat)
 case atStart => exact ⟨0,_,by omega,rfl,rfl,fun _ => rfl,fun _ h => absurd h (by omega),fun _ _ h => absurd h (by omega),fun _ _ _ h => absurd h (by omega),Below.refl _ _⟩
 case round =>
  obtain ⟨k,y,hk,rfl,rfl,H0,H1,HE,HO,HB⟩:=hrel
  by_cases hlt : k < len
  ·obtain ⟨b,o,x,rfl,hb,hx,hat⟩:=kd_at (HR.out.below HB.out) hlt;obtain ⟨z0,z3,c0,c1,c2,c3⟩:=kd_cells hat;have HX:=hidK hx;have HC:=hidK (fun v : World => calledkd_any x v);have HB1:=hidK (HB.out.alloc HB.out.size (.cells #[.string x.n,.bool x.x,.bool x.y,.string x.z] 119));have HRt:=hidK (rightkd_any x (wr.alloc (.cells #[.string x.n,.bool x.x,.bool x.y,.string x.z] 119)) z0 z3);clear hat hx z0 z3;go_wp2_with fail;refine HRt.out.mono ?_;rintro e w1 ⟨r,rfl,hrt,hb1⟩;obtain ⟨g1,-,-⟩:=slotK hb1;have hs1:=hb1.size;rw [show (wr.alloc (.cells #[.string x.n,.bool x.x,.bool x.y,.string x.z] 119)).heap.size = wr.heap.size + 1 from by simp] at hs1;have HB2:=upB HB1 hb1;have d0 : w1.cell? ⟨wr.heap.size,0,none⟩ = some (.string x.n):=cellK g1 0;have d1 : w1.cell? ⟨wr.heap.size,1,none⟩ = some (.bool x.x):=cellK g1 1;have d2 : w1.cell? ⟨wr.heap.size,2,none⟩ = some (.bool x.y):=cellK g1 2;have d3 : w1.cell? ⟨wr.heap.size,3,none⟩ = some (.string x.z):=cellK g1 3;have HG:=hidK g1;have HI:=hidK hrt;clear g1 hb1 HB1 HRt hrt c0 c1 c2 c3
   cases r
   ·go_wp2
    go_ret;exact BoolB.f (fun h => by have:=HI.out.2 (h.2.1 k x HX.out);cases this) HB2.out
   have HOK:=hidK (HI.out.1 rfl);clear HI;go_wp2_with fail;refine (HC.out _).mono ?_;rintro e w2 ⟨rfl,hb2⟩;have HB3:=hidK (HB2.out.trans (hb2.mono (Nat.le_trans HB.out.size (Nat.le_trans (Nat.le_succ _) hs1))));have g2:=(hb2.block wr.heap.size (by omega)).trans HG.out;have hs2:=hb2.size;have htri:=less_tri y.toList x.n.toList;clear HG hb2 HB2 d0 d1 d2 d3;have d0 : w2.cell? ⟨wr.heap.size,0,none⟩ = some (.string x.n):=cellK g2 0;have d1 : w2.cell? ⟨wr.heap.size,1,none⟩ = some (.bool x.x):=cellK g2 1;have d2 : w2.cell? ⟨wr.heap.size,2,none⟩ = some (.bool x.y):=cellK g2 2;have d3 : w2.cell? ⟨wr.heap.size,3,none⟩ = some (.string x.z):=cellK g2 3;clear g2
   cases hless : Op.bytesLess y.toList x.n.toList
   ·rw [hless] at htri
    go_wp2
    go_ret;refine BoolB.f (fun h => ?_) HB3.out
    by_cases hk0 : 0 < k
    ·have hz : xs[k - 1]? = some (xs[k - 1]'(by omega)):=List.getElem?_eq_getElem _;have h2:=H1.out _ hk0 hz;have h3:=h.2.2 (k - 1) x _ (by rw [Nat.sub_add_cancel hk0];exact HX.out) hz;rw [h2,hless] at h3
     cases h3
    ·have:=H0.out (by omega);subst this;have hnm : 1 ≤ x.n.size:=HOK.out.1.1;rw [less_nil hnm] at hless
     cases hless
   ·rw [hless] at htri;go_wp2_with fail;refine (HC.out _).mono ?_;rintro e w3 ⟨rfl,hb3⟩;have HB4:=hidK (HB3.out.trans (hb3.mono (Nat.le_trans HB.out.size (by omega))));clear hb3 d0 d1 d2 d3;go_wp2_with fail;refine ⟨⟨k + 1,x.n,by omega,rfl,by go_num,fun h => absurd h (by omega),fun z _ hz => ?_,fun j z hj hz => ?_,fun j z u hj hz hu => ?_,HB4.out⟩,by simp [intOf];omega⟩
    ·rw [Nat.add_sub_cancel,HX.out] at hz;rw [Option.some.inj hz]
    ·by_cases e : j = k
     ·subst e;rw [HX.out] at hz;obtain rfl:=Option.some.inj hz;exact HOK.out
     ·exact HE.out j z (by omega) hz
    ·by_cases e : j + 1 = k
     ·subst e;rw [HX.out] at hz;obtain rfl:=Option.some.inj hz;have:=H1.out u (by omega) (by rw [Nat.add_sub_cancel];exact hu);rw [this];exact hless
     ·exact HO.out j z u (by omega) hz hu
  ·obtain rfl : k = len:=by omega
   go_wp2
   go_ret;refine BoolB.t ⟨by omega,fun j z hz => HE.out j z (by have:=(List.getElem?_eq_some_iff.1 hz).1;omega) hz,fun j z u hz hu => HO.out j z u (by have:=(List.getElem?_eq_some_iff.1 hz).1;omega) hz hu⟩ HB.out

def Sxkd (xs : List Kd) (t : ByteArray) (w : World) (e : Ending) (w' : World) : Prop :=
 Below w.heap.size w w' ∧ ((∃ (j : Nat) (x : Kd),xs[j]? = some x ∧ x.n = t ∧ e = .returned (.int .i64 j)) ∨ ((∀ (j : Nat) x,xs[j]? = some x → ¬ x.n = t) ∧ e = .returned (.int .i64 (-1))))

theorem sxkd_any (d : Ad) (now : Int) (xs : List Kd) (t : ByteArray) (w : World) (hr : RRow w d.a2 d.l2 d.c2 4 (xs.map kdF)) :
  Calls Tryz.prog 35 #[.agg #[.slice d.a1 d.l1 d.c1,.slice d.a2 d.l2 d.c2,.slice d.a3 d.l3 d.c3,.slice d.a4 d.l4 d.c4,.slice d.a5 d.l5 d.c5,.int .i64 now],.string t] w (Sxkd xs t w):=by
 have HR:=hidK hr
 have hxl : xs.length = d.l2:=by simpa using hr.1
 have hlc : d.l2 ≤ 9223372036854775807:=Nat.le_trans hr.2.1 hr.2.2.1;clear hr
 go_enter Tryz.func35,Tryz.ntmps35
 go_wp2
 go_loopw [5] (fun i wr => ∃ k : Nat,k ≤ d.l2 ∧ i = .int .i64 k ∧ wr = w.alloc (.cells #[.slice d.a1 d.l1 d.c1,.slice d.a2 d.l2 d.c2,.slice d.a3 d.l3 d.c3,.slice d.a4 d.l4 d.c4,.slice d.a5 d.l5 d.c5,.int .i64 now] 40) ∧ Hid (∀ (j : Nat) z,j < k → xs[j]? = some z → ¬ z.n = t)) (fun i _ => d.l2 - (intOf i).toNat)
 case atStart => exact ⟨0,by omega,rfl,rfl,fun _ _ h => absurd h (by omega)⟩
 case round =>
  obtain ⟨k,hk,rfl,rfl,HE⟩:=hrel
  by_cases hlt : k < d.l2
  ·obtain ⟨b,o,x,ha,hb,hx,hat⟩:=kd_at HR.out hlt;obtain ⟨-,-,c0,-,-,-⟩:=kd_cells hat;have HX:=hidK hx;clear hat hx
   by_cases hn : x.n = t
   ·have hq:=tl_yes hn;have HN:=hidK hn;clear hn
    go_wp2
    go_ret;exact ⟨below1 _ _,.inl ⟨k,x,HX.out,HN.out,rfl⟩⟩
   ·have hq:=tl_no hn;have HN:=hidK hn;clear hn
    go_wp2
    refine ⟨⟨k + 1,by omega,by go_num,by rw [ha],fun j z hj hz => ?_⟩,by simp [intOf];omega⟩
    by_cases e : j = k
    ·subst e;rw [HX.out] at hz;obtain rfl:=Option.some.inj hz;exact HN.out
    ·exact HE.out j z (by omega) hz
  ·obtain rfl : k = d.l2:=by omega
   go_wp2
   go_ret;exact ⟨below1 _ _,.inr ⟨fun j z hz => HE.out j z (by have:=(List.getElem?_eq_some_iff.1 hz).1;omega) hz,rfl⟩⟩

theorem calledvd_any (x : Vd) (va : Option Addr) (vl vc : Nat) (w : World) :
  Calls Tryz.prog 190 #[.agg #[.string x.n,.int .i64 x.c,.string x.z,.string x.k,.bool x.x,.string x.m,.bool x.y,.slice va vl vc]] w fun e w' => e = .returned (.string x.n) ∧ Below w.heap.size w w':=by
 go_enter Tryz.func190,Tryz.ntmps190
 go_wp2
 go_ret;exact ⟨rfl,below1 _ _⟩

theorem rightvd_any (x : Vd) (va : Option Addr) (vl vc : Nat) (w : World) (hn : x.n.size ≤ 9223372036854775807) (hz : x.z.size ≤ 9223372036854775807) (hk : x.k.size ≤ 9223372036854775807) (hm : x.m.size ≤ 9223372036854775807) (hr : TxRow w va vl vc x.zs) :
  Calls Tryz.prog 191 #[.agg #[.string x.n,.int .i64 x.c,.string x.z,.string x.k,.bool x.x,.string x.m,.bool x.y,.slice va vl vc]] w (BoolB (vdOk x) w):=by
 have HR:=hidK (hr.below (below1 w (.cells #[.string x.n,.int .i64 x.c,.string x.z,.string x.k,.bool x.x,.string x.m,.bool x.y,.slice va vl vc] 45)));clear hr
 go_enter Tryz.func191,Tryz.ntmps191
 go_wp2_with fail;refine (ivol_any x.n x.c x.z x.k x.x x.m x.y va vl vc x.zs _ hn hz hk hm HR.out).mono ?_;rintro e w1 ⟨r,rfl,hr1,hb⟩;have HB:=hidK (slotK hb).2.1;have HI:=hidK hr1;clear hb hr1
 go_wp2
 go_ret;exact ⟨r,rfl,HI.out,HB.out⟩

theorem placevd_any (a : Option Addr) (len cap : Nat) (xs : List Vd) (t : ByteArray) (w : World) (hr : RRow w a len cap 8 (xs.map vdF)) :
  Calls Tryz.prog 102 #[.slice a len cap,.string t] w fun e w' => e = .returned (.tuple #[.int .i64 (pl Vd.n xs t : Nat),.bool (hit Vd.n xs t)]) ∧ Below w.heap.size w w':=by
 have HR:=hidK hr
 have hxl : xs.length = len:=by simpa using hr.1
 have hlc : len ≤ 9223372036854775807:=Nat.le_trans hr.2.1 hr.2.2.1;clear hr
 have hmcalled : ∀ (v : Value) (w : World),(method 334 45 v "loop.example/g00571/impl.called").run Tryz.prog w = .ok (190,v) w:=fun _ _ => by kernel_rfl
 go_enter Tryz.func102,Tryz.ntmps102
 go_wp2
 go_loopw [10] (fun i wr => ∃ k : Nat,k ≤ len ∧ i = .int .i64 k ∧ Hid (∀ (j : Nat) y,j < k → xs[j]? = some y → Op.bytesLess y.n.toList t.toList = true) ∧ Hid (Below w.heap.size w wr)) (fun i _ => len - (intOf i).toNat)
 case atStart => exact ⟨0,by omega,rfl,fun j y hj => by omega,Below.refl _ _⟩
 case round =>
  obtain ⟨k,hk,rfl,HE,HB⟩:=hrel
  by_cases hlt : k < len
  ·obtain ⟨b,o,x,rfl,hb,hx,hat⟩:=vd_at (HR.out.below HB.out) hlt;obtain ⟨va,vl,vc,hvr,z0,z2,z3,z5,c0,c1,c2,c3,c4,c5,c6,c7⟩:=vd_cells hat;have HX:=hidK hx;clear hat hx z0 z2 z3 z5 hvr;have HC:=hidK (fun v : World => calledvd_any x va vl vc v);have HB1:=hidK (HB.out.alloc HB.out.size (.cells #[.string x.n,.int .i64 x.c,.string x.z,.string x.k,.bool x.x,.string x.m,.bool x.y,.slice va vl vc] 45));go_wp2_with fail;refine (HC.out _).mono ?_;rintro e w1 ⟨rfl,hb1⟩;obtain ⟨g1,-,-⟩:=slotK hb1;have hs1:=hb1.size;rw [show (wr.alloc (.cells #[.string x.n,.int .i64 x.c,.string x.z,.string x.k,.bool x.x,.string x.m,.bool x.y,.slice va vl vc] 45)).heap.size = wr.heap.size + 1 from by simp] at hs1;have HB2:=upB HB1 hb1;have d0 : w1.cell? ⟨wr.heap.size,0,none⟩ = some (.string x.n):=cellK g1 0;have d1 : w1.cell? ⟨wr.heap.size,1,none⟩ = some (.int .i64 x.c):=cellK g1 1;have d2 : w1.cell? ⟨wr.heap.size,2,none⟩ = some (.string x.z):=cellK g1 2;have d3 : w1.cell? ⟨wr.heap.size,3,none⟩ = some (.string x.k):=cellK g1 3;have d4 : w1.cell? ⟨wr.heap.size,4,none⟩ = some (.bool x.x):=cellK g1 4;have d5 : w1.cell? ⟨wr.heap.size,5,none⟩ = some (.string x.m):=cellK g1 5;have d6 : w1.cell? ⟨wr.heap.size,6,none⟩ = some (.bool x.y):=cellK g1 6;have d7 : w1.cell? ⟨wr.heap.size,7,none⟩ = some (.slice va vl vc):=cellK g1 7;clear g1 hb1 c0 c1 c2 c3 c4 c5 c6 c7 HB1
   cases hless : Op.bytesLess x.n.toList t.toList
   ·go_wp2_with fail;refine (HC.out _).mono ?_;rintro e w2 ⟨rfl,hb2⟩;have HB3:=hidK (HB2.out.trans (hb2.mono (Nat.le_trans HB.out.size (Nat.le_trans (Nat.le_succ _) hs1))));have hp:=pl_at HE.out HX.out hless;clear hb2;go_wp2_with fail;refine bodyPost_ret (v:=.tuple #[.int .i64 k,.bool (x.n.toList == t.toList)]) (by simp [results,Tryz.results102,go_sem]) rfl ⟨?_,HB3.out⟩;unfold hit;rw [hp,HX.out]
   ·go_wp2_with fail;refine ⟨⟨k + 1,by omega,by go_num,fun j y hj hy => ?_,HB2.out⟩,by simp [intOf];omega⟩
    by_cases e : j = k
    ·subst e;rw [HX.out] at hy;obtain rfl:=Option.some.inj hy;exact hless
    ·exact HE.out j y (by omega) hy
  ·obtain rfl : k = len:=by omega
   have hp : pl Vd.n xs t = xs.length:=pl_end (fun j y hy => HE.out j y (by have:=(List.getElem?_eq_some_iff.1 hy).1;omega) hy)
   have hh : hit Vd.n xs t = false:=by unfold hit;rw [hp,List.getElem?_eq_none (Nat.le_refl _)]
   have HP:=hidK hp;have HH:=hidK hh;clear hp hh
   go_wp2
   exact bodyPost_ret (v:=.tuple #[.int .i64 k,.bool false]) (by simp [results,Tryz.results102,go_sem]) rfl ⟨by rw [HP.out,HH.out,hxl],HB.out⟩

def Fndvd (xs : List Vd) (t : ByteArray) (r w : World) (e : Ending) (w' : World) : Prop :=
 Below w.heap.size w w' ∧ ((hit Vd.n xs t = true ∧ ∃ (x : Vd) (va : Option Addr) (vl vc : Nat),xs[pl Vd.n xs t]? = some x ∧ x.n = t ∧ e = .returned (.tuple #[.agg #[.string x.n,.int .i64 x.c,.string x.z,.string x.k,.bool x.x,.string x.m,.bool x.y,.slice va vl vc],.bool true]) ∧ x.n.size ≤ 9223372036854775807 ∧ x.z.size ≤ 9223372036854775807 ∧ x.k.size ≤ 9223372036854775807 ∧ x.m.size ≤ 9223372036854775807 ∧ TxRow r va vl vc x.zs) ∨ (hit Vd.n xs t = false ∧ e = .returned (.tuple #[.agg #[.string ⟨#[]⟩,.int .i64 0,.string ⟨#[]⟩,.string ⟨#[]⟩,.bool false,.string ⟨#[]⟩,.bool false,.slice none 0 0],.bool false])))

theorem findvd_any (a : Option Addr) (len cap : Nat) (xs : List Vd) (t : ByteArray) (r w : World) (hr : RRow r a len cap 8 (xs.map vdF)) (hrw : Below r.heap.size r w) :
  Calls Tryz.prog 170 #[.slice a len cap,.string t] w (Fndvd xs t r w):=by
 have HR:=hidK hr;have HRW:=hidK hrw
 have hxl : xs.length = len:=by simpa using hr.1
 have hlc : len ≤ 9223372036854775807:=Nat.le_trans hr.2.1 hr.2.2.1;have HR1:=hidK ((hr.below hrw).below (below1 w (.cells #[.string ⟨#[]⟩,.int .i64 0,.string ⟨#[]⟩,.string ⟨#[]⟩,.bool false,.string ⟨#[]⟩,.bool false,.slice none 0 0] 45)));have hsr:=hrw.size;clear hr hrw
 go_enter Tryz.func170,Tryz.ntmps170
 go_wp2_with fail;refine (placevd_any a len cap xs t _ HR1.out).mono ?_;rintro e w1 ⟨rfl,hb⟩;obtain ⟨g1,hb1,-⟩:=slotK hb;have d0 : w1.cell? ⟨w.heap.size,0,none⟩ = some (.string ⟨#[]⟩):=cellK g1 0;have f0:=froK g1 0;have d1 : w1.cell? ⟨w.heap.size,1,none⟩ = some (.int .i64 0):=cellK g1 1;have f1:=froK g1 1;have d2 : w1.cell? ⟨w.heap.size,2,none⟩ = some (.string ⟨#[]⟩):=cellK g1 2;have f2:=froK g1 2;have d3 : w1.cell? ⟨w.heap.size,3,none⟩ = some (.string ⟨#[]⟩):=cellK g1 3;have f3:=froK g1 3;have d4 : w1.cell? ⟨w.heap.size,4,none⟩ = some (.bool false):=cellK g1 4;have f4:=froK g1 4;have d5 : w1.cell? ⟨w.heap.size,5,none⟩ = some (.string ⟨#[]⟩):=cellK g1 5;have f5:=froK g1 5;have d6 : w1.cell? ⟨w.heap.size,6,none⟩ = some (.bool false):=cellK g1 6;have f6:=froK g1 6;have d7 : w1.cell? ⟨w.heap.size,7,none⟩ = some (.slice none 0 0):=cellK g1 7;have f7:=froK g1 7;have HB:=hidK hb1;have hs1:=hb.size;rw [show (w.alloc (.cells #[.string ⟨#[]⟩,.int .i64 0,.string ⟨#[]⟩,.string ⟨#[]⟩,.bool false,.string ⟨#[]⟩,.bool false,.slice none 0 0] 45)).heap.size = w.heap.size + 1 from by simp] at hs1
 have hlt1 : w.heap.size < w1.heap.size:=by omega
 clear hb g1 HR1 hs1
 cases hh : hit Vd.n xs t
 ·generalize pl Vd.n xs t = j
  have HH:=hidK hh;clear hh hb1 HR hxl hlc
  go_wp2
  refine bodyPost_ret (v:=.tuple #[.agg #[.string ⟨#[]⟩,.int .i64 0,.string ⟨#[]⟩,.string ⟨#[]⟩,.bool false,.string ⟨#[]⟩,.bool false,.slice none 0 0],.bool false]) (by simp [results,Tryz.results170,go_sem, *]) rfl ⟨?_,.inr ⟨HH.out,rfl⟩⟩;exact Below.alloc (set_below (Nat.le_refl _) (set_below (Nat.le_refl _) (set_below (Nat.le_refl _) (set_below (Nat.le_refl _) (set_below (Nat.le_refl _) (set_below (Nat.le_refl _) (set_below (Nat.le_refl _) (set_below (Nat.le_refl _) (HB.out))))))))) (by simp [World.setCell];omega) _
 ·obtain ⟨x,hx,hn⟩:=hit_yes hh
  have hj : pl Vd.n xs t < len:=by have:=(List.getElem?_eq_some_iff.1 hx).1;omega
  obtain ⟨b,o,y,rfl,hbl,hy,hat⟩:=vd_at HR.out hj;rw [hx] at hy;obtain rfl:=Option.some.inj hy;obtain ⟨va,vl,vc,hvr,z0,z2,z3,z5,c0,c1,c2,c3,c4,c5,c6,c7⟩:=vd_cells hat;have hbw : b < w.heap.size:=Nat.lt_of_lt_of_le hbl HRW.out.size;have e0:=(cell_below hb1 hbw).trans ((cell_below HRW.out hbl).trans c0);have e1:=(cell_below hb1 hbw).trans ((cell_below HRW.out hbl).trans c1);have e2:=(cell_below hb1 hbw).trans ((cell_below HRW.out hbl).trans c2);have e3:=(cell_below hb1 hbw).trans ((cell_below HRW.out hbl).trans c3);have e4:=(cell_below hb1 hbw).trans ((cell_below HRW.out hbl).trans c4);have e5:=(cell_below hb1 hbw).trans ((cell_below HRW.out hbl).trans c5);have e6:=(cell_below hb1 hbw).trans ((cell_below HRW.out hbl).trans c6);have e7:=(cell_below hb1 hbw).trans ((cell_below HRW.out hbl).trans c7);have HI : Hid (Fndvd xs t r w (.returned (.tuple #[.agg #[.string x.n,.int .i64 x.c,.string x.z,.string x.k,.bool x.x,.string x.m,.bool x.y,.slice va vl vc],.bool true])) w):=⟨Below.refl _ _,.inl ⟨hh,x,va,vl,vc,hx,hn,rfl,z0,z2,z3,z5,hvr⟩⟩;clear c0 c1 c2 c3 c4 c5 c6 c7 hat hx hn hy hh z0 z2 z3 z5 hvr HR HRW hb1 hsr
  have hne : ¬ b = w.heap.size:=by omega
  obtain ⟨j,hjj⟩ : ∃ j,pl Vd.n xs t = j:=⟨_,rfl⟩;rw [hjj] at hj;simp only [hjj] at *;clear hjj
  go_wp2
  refine bodyPost_ret (v:=.tuple #[.agg #[.string x.n,.int .i64 x.c,.string x.z,.string x.k,.bool x.x,.string x.m,.bool x.y,.slice va vl vc],.bool true]) (by simp [results,Tryz.results170,go_sem, *]) rfl ⟨?_,HI.out.2⟩;exact set_below (Nat.le_refl _) (set_below (Nat.le_refl _) (set_below (Nat.le_refl _) (set_below (Nat.le_refl _) (set_below (Nat.le_refl _) (set_below (Nat.le_refl _) (set_below (Nat.le_refl _) (set_below (Nat.le_refl _) (HB.out))))))))

theorem thevd_any (d : Ad) (now : Int) (xs : List Vd) (t : ByteArray) (r w : World) (hr : RRow r d.a3 d.l3 d.c3 8 (xs.map vdF)) (hrw : Below r.heap.size r w) :
  Calls Tryz.prog 160 #[.agg #[.slice d.a1 d.l1 d.c1,.slice d.a2 d.l2 d.c2,.slice d.a3 d.l3 d.c3,.slice d.a4 d.l4 d.c4,.slice d.a5 d.l5 d.c5,.int .i64 now],.string t] w (Fndvd xs t r w):=by
 have HR:=hidK hr;have HRW:=hidK (hrw.trans ((below2 w (.cells #[.slice d.a1 d.l1 d.c1,.slice d.a2 d.l2 d.c2,.slice d.a3 d.l3 d.c3,.slice d.a4 d.l4 d.c4,.slice d.a5 d.l5 d.c5,.int .i64 now] 40) (.cells #[.string ⟨#[]⟩,.int .i64 0,.string ⟨#[]⟩,.string ⟨#[]⟩,.bool false,.string ⟨#[]⟩,.bool false,.slice none 0 0] 45)).mono hrw.size));clear hr hrw
 go_enter Tryz.func160,Tryz.ntmps160
 go_wp2_with fail;refine (findvd_any _ _ _ xs t r _ HR.out HRW.out).mono ?_;rintro e w1 ⟨hb,hf⟩;have g1:=(hb.block (w.heap.size + 1) (by simp)).trans (heap2_1 _ _ _);have d0 : w1.cell? ⟨w.heap.size + 1,0,none⟩ = some (.string ⟨#[]⟩):=cellK g1 0;have f0:=froK g1 0;have d1 : w1.cell? ⟨w.heap.size + 1,1,none⟩ = some (.int .i64 0):=cellK g1 1;have f1:=froK g1 1;have d2 : w1.cell? ⟨w.heap.size + 1,2,none⟩ = some (.string ⟨#[]⟩):=cellK g1 2;have f2:=froK g1 2;have d3 : w1.cell? ⟨w.heap.size + 1,3,none⟩ = some (.string ⟨#[]⟩):=cellK g1 3;have f3:=froK g1 3;have d4 : w1.cell? ⟨w.heap.size + 1,4,none⟩ = some (.bool false):=cellK g1 4;have f4:=froK g1 4;have d5 : w1.cell? ⟨w.heap.size + 1,5,none⟩ = some (.string ⟨#[]⟩):=cellK g1 5;have f5:=froK g1 5;have d6 : w1.cell? ⟨w.heap.size + 1,6,none⟩ = some (.bool false):=cellK g1 6;have f6:=froK g1 6;have d7 : w1.cell? ⟨w.heap.size + 1,7,none⟩ = some (.slice none 0 0):=cellK g1 7;have f7:=froK g1 7;have HB : Hid (Below w.heap.size w w1):=(below2 _ _ _).trans (hb.mono (by simp;omega));clear g1 hb HR HRW
 rcases hf with ⟨hh,x,va,vl,vc,hx,hn,rfl,z0,z2,z3,z5,hvr⟩ | ⟨hh,rfl⟩
 ·have HI : Hid (Fndvd xs t r w (.returned (.tuple #[.agg #[.string x.n,.int .i64 x.c,.string x.z,.string x.k,.bool x.x,.string x.m,.bool x.y,.slice va vl vc],.bool true])) w):=⟨Below.refl _ _,.inl ⟨hh,x,va,vl,vc,hx,hn,rfl,z0,z2,z3,z5,hvr⟩⟩;clear hx hn hh z0 z2 z3 z5 hvr
  go_wp2
  refine bodyPost_ret (v:=.tuple #[.agg #[.string x.n,.int .i64 x.c,.string x.z,.string x.k,.bool x.x,.string x.m,.bool x.y,.slice va vl vc],.bool true]) (by simp [results,Tryz.results160,go_sem, *]) rfl ⟨?_,HI.out.2⟩;exact set_below (Nat.le_succ _) (set_below (Nat.le_succ _) (set_below (Nat.le_succ _) (set_below (Nat.le_succ _) (set_below (Nat.le_succ _) (set_below (Nat.le_succ _) (set_below (Nat.le_succ _) (set_below (Nat.le_succ _) (HB.out))))))))
 ·have HH:=hidK hh;clear hh
  go_wp2
  refine bodyPost_ret (v:=.tuple #[.agg #[.string ⟨#[]⟩,.int .i64 0,.string ⟨#[]⟩,.string ⟨#[]⟩,.bool false,.string ⟨#[]⟩,.bool false,.slice none 0 0],.bool false]) (by simp [results,Tryz.results160,go_sem, *]) rfl ⟨?_,.inr ⟨HH.out,rfl⟩⟩;exact set_below (Nat.le_succ _) (set_below (Nat.le_succ _) (set_below (Nat.le_succ _) (set_below (Nat.le_succ _) (set_below (Nat.le_succ _) (set_below (Nat.le_succ _) (set_below (Nat.le_succ _) (set_below (Nat.le_succ _) (HB.out))))))))

theorem rowrvd_any (a : Option Addr) (len cap : Nat) (xs : List Vd) (most : Int) (w : World) (hr : RRow w a len cap 8 (xs.map vdF)) :
  Calls Tryz.prog 139 #[.slice a len cap,.int .i64 most] w (BoolB (RowOk vdOk Vd.n xs most) w):=by
 have HR:=hidK hr
 have hxl : xs.length = len:=by simpa using hr.1
 have hlc : len ≤ 9223372036854775807:=Nat.le_trans hr.2.1 hr.2.2.1;clear hr
 have hmcalled : ∀ (v : Value) (w : World),(method 334 45 v "loop.example/g00571/impl.called").run Tryz.prog w = .ok (190,v) w:=fun _ _ => by kernel_rfl
 have hmright : ∀ (v : Value) (w : World),(method 334 45 v "loop.example/g00571/impl.right").run Tryz.prog w = .ok (191,v) w:=fun _ _ => by kernel_rfl
 by_cases hmo : most < (len : Int)
 ·go_enter Tryz.func139,Tryz.ntmps139
  go_wp2
  go_ret;exact BoolB.f (fun h => by have:=h.1;omega) (Below.refl _ _)
 go_enter Tryz.func139,Tryz.ntmps139
 go_wp2
 go_loopw [5,14] (fun q i wr => ∃ (k : Nat) (y : ByteArray),k ≤ len ∧ q = .string y ∧ i = .int .i64 k ∧ Hid (k = 0 → y = ⟨#[]⟩) ∧ Hid (∀ z,0 < k → xs[k - 1]? = some z → z.n = y) ∧ Hid (∀ (j : Nat) z,j < k → xs[j]? = some z → vdOk z) ∧ Hid (∀ (j : Nat) z u,j + 1 < k → xs[j + 1]? = some z → xs[j]? = some u → Op.bytesLess u.n.toList z.n.toList = true) ∧ Hid (Below w.heap.size w wr)) (fun _ i _ => len - (intOf i).toNat)
 case atStart => exact ⟨0,_,by omega,rfl,rfl,fun _ => rfl,fun _ h => absurd h (by omega),fun _ _ h => absurd h (by omega),fun _ _ _ h => absurd h (by omega),Below.refl _ _⟩
 case round =>
  obtain ⟨k,y,hk,rfl,rfl,H0,H1,HE,HO,HB⟩:=hrel
  by_cases hlt : k < len
  ·obtain ⟨b,o,x,rfl,hb,hx,hat⟩:=vd_at (HR.out.below HB.out) hlt;obtain ⟨va,vl,vc,hvr,z0,z2,z3,z5,c0,c1,c2,c3,c4,c5,c6,c7⟩:=vd_cells hat;have HX:=hidK hx;have HC:=hidK (fun v : World => calledvd_any x va vl vc v);have HB1:=hidK (HB.out.alloc HB.out.size (.cells #[.string x.n,.int .i64 x.c,.string x.z,.string x.k,.bool x.x,.string x.m,.bool x.y,.slice va vl vc] 45));have HRt:=hidK (rightvd_any x va vl vc (wr.alloc (.cells #[.string x.n,.int .i64 x.c,.string x.z,.string x.k,.bool x.x,.string x.m,.bool x.y,.slice va vl vc] 45)) z0 z2 z3 z5 (hvr.below (below1 _ _)));clear hat hx z0 z2 z3 z5 hvr;go_wp2_with fail;refine HRt.out.mono ?_;rintro e w1 ⟨r,rfl,hrt,hb1⟩;obtain ⟨g1,-,-⟩:=slotK hb1;have hs1:=hb1.size;rw [show (wr.alloc (.cells #[.string x.n,.int .i64 x.c,.string x.z,.string x.k,.bool x.x,.string x.m,.bool x.y,.slice va vl vc] 45)).heap.size = wr.heap.size + 1 from by simp] at hs1;have HB2:=upB HB1 hb1;have d0 : w1.cell? ⟨wr.heap.size,0,none⟩ = some (.string x.n):=cellK g1 0;have d1 : w1.cell? ⟨wr.heap.size,1,none⟩ = some (.int .i64 x.c):=cellK g1 1;have d2 : w1.cell? ⟨wr.heap.size,2,none⟩ = some (.string x.z):=cellK g1 2;have d3 : w1.cell? ⟨wr.heap.size,3,none⟩ = some (.string x.k):=cellK g1 3;have d4 : w1.cell? ⟨wr.heap.size,4,none⟩ = some (.bool x.x):=cellK g1 4;have d5 : w1.cell? ⟨wr.heap.size,5,none⟩ = some (.string x.m):=cellK g1 5;have d6 : w1.cell? ⟨wr.heap.size,6,none⟩ = some (.bool x.y):=cellK g1 6;have d7 : w1.cell? ⟨wr.heap.size,7,none⟩ = some (.slice va vl vc):=cellK g1 7;have HG:=hidK g1;have HI:=hidK hrt;clear g1 hb1 HB1 HRt hrt c0 c1 c2 c3 c4 c5 c6 c7
   cases r
   ·go_wp2
    go_ret;exact BoolB.f (fun h => by have:=HI.out.2 (h.2.1 k x HX.out);cases this) HB2.out
   have HOK:=hidK (HI.out.1 rfl);clear HI;go_wp2_with fail;refine (HC.out _).mono ?_;rintro e w2 ⟨rfl,hb2⟩;have HB3:=hidK (HB2.out.trans (hb2.mono (Nat.le_trans HB.out.size (Nat.le_trans (Nat.le_succ _) hs1))));have g2:=(hb2.block wr.heap.size (by omega)).trans HG.out;have hs2:=hb2.size;have htri:=less_tri y.toList x.n.toList;clear HG hb2 HB2 d0 d1 d2 d3 d4 d5 d6 d7;have d0 : w2.cell? ⟨wr.heap.size,0,none⟩ = some (.string x.n):=cellK g2 0;have d1 : w2.cell? ⟨wr.heap.size,1,none⟩ = some (.int .i64 x.c):=cellK g2 1;have d2 : w2.cell? ⟨wr.heap.size,2,none⟩ = some (.string x.z):=cellK g2 2;have d3 : w2.cell? ⟨wr.heap.size,3,none⟩ = some (.string x.k):=cellK g2 3;have d4 : w2.cell? ⟨wr.heap.size,4,none⟩ = some (.bool x.x):=cellK g2 4;have d5 : w2.cell? ⟨wr.heap.size,5,none⟩ = some (.string x.m):=cellK g2 5;have d6 : w2.cell? ⟨wr.heap.size,6,none⟩ = some (.bool x.y):=cellK g2 6;have d7 : w2.cell? ⟨wr.heap.size,7,none⟩ = some (.slice va vl vc):=cellK g2 7;clear g2
   cases hless : Op.bytesLess y.toList x.n.toList
   ·rw [hless] at htri
    go_wp2
    go_ret;refine BoolB.f (fun h => ?_) HB3.out
    by_cases hk0 : 0 < k
    ·have hz : xs[k - 1]? = some (xs[k - 1]'(by omega)):=List.getElem?_eq_getElem _;have h2:=H1.out _ hk0 hz;have h3:=h.2.2 (k - 1) x _ (by rw [Nat.sub_add_cancel hk0];exact HX.out) hz;rw [h2,hless] at h3
     cases h3
    ·have:=H0.out (by omega);subst this;have hnm : 1 ≤ x.n.size:=HOK.out.1.1;rw [less_nil hnm] at hless
     cases hless
   ·rw [hless] at htri;go_wp2_with fail;refine (HC.out _).mono ?_;rintro e w3 ⟨rfl,hb3⟩;have HB4:=hidK (HB3.out.trans (hb3.mono (Nat.le_trans HB.out.size (by omega))));clear hb3 d0 d1 d2 d3 d4 d5 d6 d7;go_wp2_with fail;refine ⟨⟨k + 1,x.n,by omega,rfl,by go_num,fun h => absurd h (by omega),fun z _ hz => ?_,fun j z hj hz => ?_,fun j z u hj hz hu => ?_,HB4.out⟩,by simp [intOf];omega⟩
    ·rw [Nat.add_sub_cancel,HX.out] at hz;rw [Option.some.inj hz]
    ·by_cases e : j = k
     ·subst e;rw [HX.out] at hz;obtain rfl:=Option.some.inj hz;exact HOK.out
     ·exact HE.out j z (by omega) hz
    ·by_cases e : j + 1 = k
     ·subst e;rw [HX.out] at hz;obtain rfl:=Option.some.inj hz;have:=H1.out u (by omega) (by rw [Nat.add_sub_cancel];exact hu);rw [this];exact hless
     ·exact HO.out j z u (by omega) hz hu
  ·obtain rfl : k = len:=by omega
   go_wp2
   go_ret;refine BoolB.t ⟨by omega,fun j z hz => HE.out j z (by have:=(List.getElem?_eq_some_iff.1 hz).1;omega) hz,fun j z u hz hu => HO.out j z u (by have:=(List.getElem?_eq_some_iff.1 hz).1;omega) hz hu⟩ HB.out

def Sxvd (xs : List Vd) (t : ByteArray) (w : World) (e : Ending) (w' : World) : Prop :=
 Below w.heap.size w w' ∧ ((∃ (j : Nat) (x : Vd),xs[j]? = some x ∧ x.n = t ∧ e = .returned (.int .i64 j)) ∨ ((∀ (j : Nat) x,xs[j]? = some x → ¬ x.n = t) ∧ e = .returned (.int .i64 (-1))))

theorem sxvd_any (d : Ad) (now : Int) (xs : List Vd) (t : ByteArray) (w : World) (hr : RRow w d.a3 d.l3 d.c3 8 (xs.map vdF)) :
  Calls Tryz.prog 34 #[.agg #[.slice d.a1 d.l1 d.c1,.slice d.a2 d.l2 d.c2,.slice d.a3 d.l3 d.c3,.slice d.a4 d.l4 d.c4,.slice d.a5 d.l5 d.c5,.int .i64 now],.string t] w (Sxvd xs t w):=by
 have HR:=hidK hr
 have hxl : xs.length = d.l3:=by simpa using hr.1
 have hlc : d.l3 ≤ 9223372036854775807:=Nat.le_trans hr.2.1 hr.2.2.1;clear hr
 go_enter Tryz.func34,Tryz.ntmps34
 go_wp2
 go_loopw [5] (fun i wr => ∃ k : Nat,k ≤ d.l3 ∧ i = .int .i64 k ∧ wr = w.alloc (.cells #[.slice d.a1 d.l1 d.c1,.slice d.a2 d.l2 d.c2,.slice d.a3 d.l3 d.c3,.slice d.a4 d.l4 d.c4,.slice d.a5 d.l5 d.c5,.int .i64 now] 40) ∧ Hid (∀ (j : Nat) z,j < k → xs[j]? = some z → ¬ z.n = t)) (fun i _ => d.l3 - (intOf i).toNat)
 case atStart => exact ⟨0,by omega,rfl,rfl,fun _ _ h => absurd h (by omega)⟩
 case round =>
  obtain ⟨k,hk,rfl,rfl,HE⟩:=hrel
  by_cases hlt : k < d.l3
  ·obtain ⟨b,o,x,ha,hb,hx,hat⟩:=vd_at HR.out hlt;obtain ⟨va,vl,vc,hvr,-,-,-,-,c0,-,-,-,-,-,-,-⟩:=vd_cells hat;have HX:=hidK hx;clear hat hx hvr
   by_cases hn : x.n = t
   ·have hq:=tl_yes hn;have HN:=hidK hn;clear hn
    go_wp2
    go_ret;exact ⟨below1 _ _,.inl ⟨k,x,HX.out,HN.out,rfl⟩⟩
   ·have hq:=tl_no hn;have HN:=hidK hn;clear hn
    go_wp2
    refine ⟨⟨k + 1,by omega,by go_num,by rw [ha],fun j z hj hz => ?_⟩,by simp [intOf];omega⟩
    by_cases e : j = k
    ·subst e;rw [HX.out] at hz;obtain rfl:=Option.some.inj hz;exact HN.out
    ·exact HE.out j z (by omega) hz
  ·obtain rfl : k = d.l3:=by omega
   go_wp2
   go_ret;exact ⟨below1 _ _,.inr ⟨fun j z hz => HE.out j z (by have:=(List.getElem?_eq_some_iff.1 hz).1;omega) hz,rfl⟩⟩

theorem calledxd_any (x : Xd)  (w : World) :
  Calls Tryz.prog 201 #[.agg #[.string x.n,.int .i64 x.z,.string x.k,.bool x.x,.string x.v]] w fun e w' => e = .returned (.string x.n) ∧ Below w.heap.size w w':=by
 go_enter Tryz.func201,Tryz.ntmps201
 go_wp2
 go_ret;exact ⟨rfl,below1 _ _⟩

theorem rightxd_any (x : Xd)  (w : World) (hn : x.n.size ≤ 9223372036854775807) (hk : x.k.size ≤ 9223372036854775807) (hv : x.v.size ≤ 9223372036854775807) :
  Calls Tryz.prog 202 #[.agg #[.string x.n,.int .i64 x.z,.string x.k,.bool x.x,.string x.v]] w (BoolB (xdOk x) w):=by
 skip
 skip
 go_enter Tryz.func202,Tryz.ntmps202
 go_wp2_with fail;refine (iclaim_any x.n x.z x.k x.x x.v _ hn hk hv).mono ?_;rintro e w1 ⟨r,rfl,hr1,hb⟩;have HB:=hidK (slotK hb).2.1;have HI:=hidK hr1;clear hb hr1
 go_wp2
 go_ret;exact ⟨r,rfl,HI.out,HB.out⟩

theorem placexd_any (a : Option Addr) (len cap : Nat) (xs : List Xd) (t : ByteArray) (w : World) (hr : RRow w a len cap 5 (xs.map xdF)) :
  Calls Tryz.prog 168 #[.slice a len cap,.string t] w fun e w' => e = .returned (.tuple #[.int .i64 (pl Xd.n xs t : Nat),.bool (hit Xd.n xs t)]) ∧ Below w.heap.size w w':=by
 have HR:=hidK hr
 have hxl : xs.length = len:=by simpa using hr.1
 have hlc : len ≤ 9223372036854775807:=Nat.le_trans hr.2.1 hr.2.2.1;clear hr
 have hmcalled : ∀ (v : Value) (w : World),(method 334 123 v "loop.example/g00571/impl.called").run Tryz.prog w = .ok (201,v) w:=fun _ _ => by kernel_rfl
 go_enter Tryz.func168,Tryz.ntmps168
 go_wp2
 go_loopw [10] (fun i wr => ∃ k : Nat,k ≤ len ∧ i = .int .i64 k ∧ Hid (∀ (j : Nat) y,j < k → xs[j]? = some y → Op.bytesLess y.n.toList t.toList = true) ∧ Hid (Below w.heap.size w wr)) (fun i _ => len - (intOf i).toNat)
 case atStart => exact ⟨0,by omega,rfl,fun j y hj => by omega,Below.refl _ _⟩
 case round =>
  obtain ⟨k,hk,rfl,HE,HB⟩:=hrel
  by_cases hlt : k < len
  ·obtain ⟨b,o,x,rfl,hb,hx,hat⟩:=xd_at (HR.out.below HB.out) hlt;obtain ⟨z0,z2,z4,c0,c1,c2,c3,c4⟩:=xd_cells hat;have HX:=hidK hx;clear hat hx z0 z2 z4;have HC:=hidK (fun v : World => calledxd_any x v);have HB1:=hidK (HB.out.alloc HB.out.size (.cells #[.string x.n,.int .i64 x.z,.string x.k,.bool x.x,.string x.v] 123));go_wp2_with fail;refine (HC.out _).mono ?_;rintro e w1 ⟨rfl,hb1⟩;obtain ⟨g1,-,-⟩:=slotK hb1;have hs1:=hb1.size;rw [show (wr.alloc (.cells #[.string x.n,.int .i64 x.z,.string x.k,.bool x.x,.string x.v] 123)).heap.size = wr.heap.size + 1 from by simp] at hs1;have HB2:=upB HB1 hb1;have d0 : w1.cell? ⟨wr.heap.size,0,none⟩ = some (.string x.n):=cellK g1 0;have d1 : w1.cell? ⟨wr.heap.size,1,none⟩ = some (.int .i64 x.z):=cellK g1 1;have d2 : w1.cell? ⟨wr.heap.size,2,none⟩ = some (.string x.k):=cellK g1 2;have d3 : w1.cell? ⟨wr.heap.size,3,none⟩ = some (.bool x.x):=cellK g1 3;have d4 : w1.cell? ⟨wr.heap.size,4,none⟩ = some (.string x.v):=cellK g1 4;clear g1 hb1 c0 c1 c2 c3 c4 HB1
   cases hless : Op.bytesLess x.n.toList t.toList
   ·go_wp2_with fail;refine (HC.out _).mono ?_;rintro e w2 ⟨rfl,hb2⟩;have HB3:=hidK (HB2.out.trans (hb2.mono (Nat.le_trans HB.out.size (Nat.le_trans (Nat.le_succ _) hs1))));have hp:=pl_at HE.out HX.out hless;clear hb2;go_wp2_with fail;refine bodyPost_ret (v:=.tuple #[.int .i64 k,.bool (x.n.toList == t.toList)]) (by simp [results,Tryz.results168,go_sem]) rfl ⟨?_,HB3.out⟩;unfold hit;rw [hp,HX.out]
   ·go_wp2_with fail;refine ⟨⟨k + 1,by omega,by go_num,fun j y hj hy => ?_,HB2.out⟩,by simp [intOf];omega⟩
    by_cases e : j = k
    ·subst e;rw [HX.out] at hy;obtain rfl:=Option.some.inj hy;exact hless
    ·exact HE.out j y (by omega) hy
  ·obtain rfl : k = len:=by omega
   have hp : pl Xd.n xs t = xs.length:=pl_end (fun j y hy => HE.out j y (by have:=(List.getElem?_eq_some_iff.1 hy).1;omega) hy)
   have hh : hit Xd.n xs t = false:=by unfold hit;rw [hp,List.getElem?_eq_none (Nat.le_refl _)]
   have HP:=hidK hp;have HH:=hidK hh;clear hp hh
   go_wp2
   exact bodyPost_ret (v:=.tuple #[.int .i64 k,.bool false]) (by simp [results,Tryz.results168,go_sem]) rfl ⟨by rw [HP.out,HH.out,hxl],HB.out⟩

def Fndxd (xs : List Xd) (t : ByteArray) (_r w : World) (e : Ending) (w' : World) : Prop :=
 Below w.heap.size w w' ∧ ((hit Xd.n xs t = true ∧ ∃ (x : Xd),xs[pl Xd.n xs t]? = some x ∧ x.n = t ∧ e = .returned (.tuple #[.agg #[.string x.n,.int .i64 x.z,.string x.k,.bool x.x,.string x.v],.bool true]) ∧ x.n.size ≤ 9223372036854775807 ∧ x.k.size ≤ 9223372036854775807 ∧ x.v.size ≤ 9223372036854775807) ∨ (hit Xd.n xs t = false ∧ e = .returned (.tuple #[.agg #[.string ⟨#[]⟩,.int .i64 0,.string ⟨#[]⟩,.bool false,.string ⟨#[]⟩],.bool false])))

theorem findxd_any (a : Option Addr) (len cap : Nat) (xs : List Xd) (t : ByteArray) (r w : World) (hr : RRow r a len cap 5 (xs.map xdF)) (hrw : Below r.heap.size r w) :
  Calls Tryz.prog 157 #[.slice a len cap,.string t] w (Fndxd xs t r w):=by
 have HR:=hidK hr;have HRW:=hidK hrw
 have hxl : xs.length = len:=by simpa using hr.1
 have hlc : len ≤ 9223372036854775807:=Nat.le_trans hr.2.1 hr.2.2.1;have HR1:=hidK ((hr.below hrw).below (below1 w (.cells #[.string ⟨#[]⟩,.int .i64 0,.string ⟨#[]⟩,.bool false,.string ⟨#[]⟩] 123)));have hsr:=hrw.size;clear hr hrw
 go_enter Tryz.func157,Tryz.ntmps157
 go_wp2_with fail;refine (placexd_any a len cap xs t _ HR1.out).mono ?_;rintro e w1 ⟨rfl,hb⟩;obtain ⟨g1,hb1,-⟩:=slotK hb;have d0 : w1.cell? ⟨w.heap.size,0,none⟩ = some (.string ⟨#[]⟩):=cellK g1 0;have f0:=froK g1 0;have d1 : w1.cell? ⟨w.heap.size,1,none⟩ = some (.int .i64 0):=cellK g1 1;have f1:=froK g1 1;have d2 : w1.cell? ⟨w.heap.size,2,none⟩ = some (.string ⟨#[]⟩):=cellK g1 2;have f2:=froK g1 2;have d3 : w1.cell? ⟨w.heap.size,3,none⟩ = some (.bool false):=cellK g1 3;have f3:=froK g1 3;have d4 : w1.cell? ⟨w.heap.size,4,none⟩ = some (.string ⟨#[]⟩):=cellK g1 4;have f4:=froK g1 4;have HB:=hidK hb1;have hs1:=hb.size;rw [show (w.alloc (.cells #[.string ⟨#[]⟩,.int .i64 0,.string ⟨#[]⟩,.bool false,.string ⟨#[]⟩] 123)).heap.size = w.heap.size + 1 from by simp] at hs1
 have hlt1 : w.heap.size < w1.heap.size:=by omega
 clear hb g1 HR1 hs1
 cases hh : hit Xd.n xs t
 ·generalize pl Xd.n xs t = j
  have HH:=hidK hh;clear hh hb1 HR hxl hlc
  go_wp2
  refine bodyPost_ret (v:=.tuple #[.agg #[.string ⟨#[]⟩,.int .i64 0,.string ⟨#[]⟩,.bool false,.string ⟨#[]⟩],.bool false]) (by simp [results,Tryz.results157,go_sem, *]) rfl ⟨?_,.inr ⟨HH.out,rfl⟩⟩;exact Below.alloc (set_below (Nat.le_refl _) (set_below (Nat.le_refl _) (set_below (Nat.le_refl _) (set_below (Nat.le_refl _) (set_below (Nat.le_refl _) (HB.out)))))) (by simp [World.setCell];omega) _
 ·obtain ⟨x,hx,hn⟩:=hit_yes hh
  have hj : pl Xd.n xs t < len:=by have:=(List.getElem?_eq_some_iff.1 hx).1;omega
  obtain ⟨b,o,y,rfl,hbl,hy,hat⟩:=xd_at HR.out hj;rw [hx] at hy;obtain rfl:=Option.some.inj hy;obtain ⟨z0,z2,z4,c0,c1,c2,c3,c4⟩:=xd_cells hat;have hbw : b < w.heap.size:=Nat.lt_of_lt_of_le hbl HRW.out.size;have e0:=(cell_below hb1 hbw).trans ((cell_below HRW.out hbl).trans c0);have e1:=(cell_below hb1 hbw).trans ((cell_below HRW.out hbl).trans c1);have e2:=(cell_below hb1 hbw).trans ((cell_below HRW.out hbl).trans c2);have e3:=(cell_below hb1 hbw).trans ((cell_below HRW.out hbl).trans c3);have e4:=(cell_below hb1 hbw).trans ((cell_below HRW.out hbl).trans c4);have HI : Hid (Fndxd xs t r w (.returned (.tuple #[.agg #[.string x.n,.int .i64 x.z,.string x.k,.bool x.x,.string x.v],.bool true])) w):=⟨Below.refl _ _,.inl ⟨hh,x,hx,hn,rfl,z0,z2,z4⟩⟩;clear c0 c1 c2 c3 c4 hat hx hn hy hh z0 z2 z4 HR HRW hb1 hsr
  have hne : ¬ b = w.heap.size:=by omega
  obtain ⟨j,hjj⟩ : ∃ j,pl Xd.n xs t = j:=⟨_,rfl⟩;rw [hjj] at hj;simp only [hjj] at *;clear hjj
  go_wp2
  refine bodyPost_ret (v:=.tuple #[.agg #[.string x.n,.int .i64 x.z,.string x.k,.bool x.x,.string x.v],.bool true]) (by simp [results,Tryz.results157,go_sem, *]) rfl ⟨?_,HI.out.2⟩;exact set_below (Nat.le_refl _) (set_below (Nat.le_refl _) (set_below (Nat.le_refl _) (set_below (Nat.le_refl _) (set_below (Nat.le_refl _) (HB.out)))))

theorem thexd_any (d : Ad) (now : Int) (xs : List Xd) (t : ByteArray) (r w : World) (hr : RRow r d.a4 d.l4 d.c4 5 (xs.map xdF)) (hrw : Below r.heap.size r w) :
  Calls Tryz.prog 124 #[.agg #[.slice d.a1 d.l1 d.c1,.slice d.a2 d.l2 d.c2,.slice d.a3 d.l3 d.c3,.slice d.a4 d.l4 d.c4,.slice d.a5 d.l5 d.c5,.int .i64 now],.string t] w (Fndxd xs t r w):=by
 have HR:=hidK hr;have HRW:=hidK (hrw.trans ((below2 w (.cells #[.slice d.a1 d.l1 d.c1,.slice d.a2 d.l2 d.c2,.slice d.a3 d.l3 d.c3,.slice d.a4 d.l4 d.c4,.slice d.a5 d.l5 d.c5,.int .i64 now] 40) (.cells #[.string ⟨#[]⟩,.int .i64 0,.string ⟨#[]⟩,.bool false,.string ⟨#[]⟩] 123)).mono hrw.size));clear hr hrw
 go_enter Tryz.func124,Tryz.ntmps124
 go_wp2_with fail;refine (findxd_any _ _ _ xs t r _ HR.out HRW.out).mono ?_;rintro e w1 ⟨hb,hf⟩;have g1:=(hb.block (w.heap.size + 1) (by simp)).trans (heap2_1 _ _ _);have d0 : w1.cell? ⟨w.heap.size + 1,0,none⟩ = some (.string ⟨#[]⟩):=cellK g1 0;have f0:=froK g1 0;have d1 : w1.cell? ⟨w.heap.size + 1,1,none⟩ = some (.int .i64 0):=cellK g1 1;have f1:=froK g1 1;have d2 : w1.cell? ⟨w.heap.size + 1,2,none⟩ = some (.string ⟨#[]⟩):=cellK g1 2;have f2:=froK g1 2;have d3 : w1.cell? ⟨w.heap.size + 1,3,none⟩ = some (.bool false):=cellK g1 3;have f3:=froK g1 3;have d4 : w1.cell? ⟨w.heap.size + 1,4,none⟩ = some (.string ⟨#[]⟩):=cellK g1 4;have f4:=froK g1 4;have HB : Hid (Below w.heap.size w w1):=(below2 _ _ _).trans (hb.mono (by simp;omega));clear g1 hb HR HRW
 rcases hf with ⟨hh,x,hx,hn,rfl,z0,z2,z4⟩ | ⟨hh,rfl⟩
 ·have HI : Hid (Fndxd xs t r w (.returned (.tuple #[.agg #[.string x.n,.int .i64 x.z,.string x.k,.bool x.x,.string x.v],.bool true])) w):=⟨Below.refl _ _,.inl ⟨hh,x,hx,hn,rfl,z0,z2,z4⟩⟩;clear hx hn hh z0 z2 z4
  go_wp2
  refine bodyPost_ret (v:=.tuple #[.agg #[.string x.n,.int .i64 x.z,.string x.k,.bool x.x,.string x.v],.bool true]) (by simp [results,Tryz.results124,go_sem, *]) rfl ⟨?_,HI.out.2⟩;exact set_below (Nat.le_succ _) (set_below (Nat.le_succ _) (set_below (Nat.le_succ _) (set_below (Nat.le_succ _) (set_below (Nat.le_succ _) (HB.out)))))
 ·have HH:=hidK hh;clear hh
  go_wp2
  refine bodyPost_ret (v:=.tuple #[.agg #[.string ⟨#[]⟩,.int .i64 0,.string ⟨#[]⟩,.bool false,.string ⟨#[]⟩],.bool false]) (by simp [results,Tryz.results124,go_sem, *]) rfl ⟨?_,.inr ⟨HH.out,rfl⟩⟩;exact set_below (Nat.le_succ _) (set_below (Nat.le_succ _) (set_below (Nat.le_succ _) (set_below (Nat.le_succ _) (set_below (Nat.le_succ _) (HB.out)))))

theorem rowrxd_any (a : Option Addr) (len cap : Nat) (xs : List Xd) (most : Int) (w : World) (hr : RRow w a len cap 5 (xs.map xdF)) :
  Calls Tryz.prog 140 #[.slice a len cap,.int .i64 most] w (BoolB (RowOk xdOk Xd.n xs most) w):=by
 have HR:=hidK hr
 have hxl : xs.length = len:=by simpa using hr.1
 have hlc : len ≤ 9223372036854775807:=Nat.le_trans hr.2.1 hr.2.2.1;clear hr
 have hmcalled : ∀ (v : Value) (w : World),(method 334 123 v "loop.example/g00571/impl.called").run Tryz.prog w = .ok (201,v) w:=fun _ _ => by kernel_rfl
 have hmright : ∀ (v : Value) (w : World),(method 334 123 v "loop.example/g00571/impl.right").run Tryz.prog w = .ok (202,v) w:=fun _ _ => by kernel_rfl
 by_cases hmo : most < (len : Int)
 ·go_enter Tryz.func140,Tryz.ntmps140
  go_wp2
  go_ret;exact BoolB.f (fun h => by have:=h.1;omega) (Below.refl _ _)
 go_enter Tryz.func140,Tryz.ntmps140
 go_wp2
 go_loopw [5,14] (fun q i wr => ∃ (k : Nat) (y : ByteArray),k ≤ len ∧ q = .string y ∧ i = .int .i64 k ∧ Hid (k = 0 → y = ⟨#[]⟩) ∧ Hid (∀ z,0 < k → xs[k - 1]? = some z → z.n = y) ∧ Hid (∀ (j : Nat) z,j < k → xs[j]? = some z → xdOk z) ∧ Hid (∀ (j : Nat) z u,j + 1 < k → xs[j + 1]? = some z → xs[j]? = some u → Op.bytesLess u.n.toList z.n.toList = true) ∧ Hid (Below w.heap.size w wr)) (fun _ i _ => len - (intOf i).toNat)
 case atStart => exact ⟨0,_,by omega,rfl,rfl,fun _ => rfl,fun _ h => absurd h (by omega),fun _ _ h => absurd h (by omega),fun _ _ _ h => absurd h (by omega),Below.refl _ _⟩
 case round =>
  obtain ⟨k,y,hk,rfl,rfl,H0,H1,HE,HO,HB⟩:=hrel
  by_cases hlt : k < len
  ·obtain ⟨b,o,x,rfl,hb,hx,hat⟩:=xd_at (HR.out.below HB.out) hlt;obtain ⟨z0,z2,z4,c0,c1,c2,c3,c4⟩:=xd_cells hat;have HX:=hidK hx;have HC:=hidK (fun v : World => calledxd_any x v);have HB1:=hidK (HB.out.alloc HB.out.size (.cells #[.string x.n,.int .i64 x.z,.string x.k,.bool x.x,.string x.v] 123));have HRt:=hidK (rightxd_any x (wr.alloc (.cells #[.string x.n,.int .i64 x.z,.string x.k,.bool x.x,.string x.v] 123)) z0 z2 z4);clear hat hx z0 z2 z4;go_wp2_with fail;refine HRt.out.mono ?_;rintro e w1 ⟨r,rfl,hrt,hb1⟩;obtain ⟨g1,-,-⟩:=slotK hb1;have hs1:=hb1.size;rw [show (wr.alloc (.cells #[.string x.n,.int .i64 x.z,.string x.k,.bool x.x,.string x.v] 123)).heap.size = wr.heap.size + 1 from by simp] at hs1;have HB2:=upB HB1 hb1;have d0 : w1.cell? ⟨wr.heap.size,0,none⟩ = some (.string x.n):=cellK g1 0;have d1 : w1.cell? ⟨wr.heap.size,1,none⟩ = some (.int .i64 x.z):=cellK g1 1;have d2 : w1.cell? ⟨wr.heap.size,2,none⟩ = some (.string x.k):=cellK g1 2;have d3 : w1.cell? ⟨wr.heap.size,3,none⟩ = some (.bool x.x):=cellK g1 3;have d4 : w1.cell? ⟨wr.heap.size,4,none⟩ = some (.string x.v):=cellK g1 4;have HG:=hidK g1;have HI:=hidK hrt;clear g1 hb1 HB1 HRt hrt c0 c1 c2 c3 c4
   cases r
   ·go_wp2
    go_ret;exact BoolB.f (fun h => by have:=HI.out.2 (h.2.1 k x HX.out);cases this) HB2.out
   have HOK:=hidK (HI.out.1 rfl);clear HI;go_wp2_with fail;refine (HC.out _).mono ?_;rintro e w2 ⟨rfl,hb2⟩;have HB3:=hidK (HB2.out.trans (hb2.mono (Nat.le_trans HB.out.size (Nat.le_trans (Nat.le_succ _) hs1))));have g2:=(hb2.block wr.heap.size (by omega)).trans HG.out;have hs2:=hb2.size;have htri:=less_tri y.toList x.n.toList;clear HG hb2 HB2 d0 d1 d2 d3 d4;have d0 : w2.cell? ⟨wr.heap.size,0,none⟩ = some (.string x.n):=cellK g2 0;have d1 : w2.cell? ⟨wr.heap.size,1,none⟩ = some (.int .i64 x.z):=cellK g2 1;have d2 : w2.cell? ⟨wr.heap.size,2,none⟩ = some (.string x.k):=cellK g2 2;have d3 : w2.cell? ⟨wr.heap.size,3,none⟩ = some (.bool x.x):=cellK g2 3;have d4 : w2.cell? ⟨wr.heap.size,4,none⟩ = some (.string x.v):=cellK g2 4;clear g2
   cases hless : Op.bytesLess y.toList x.n.toList
   ·rw [hless] at htri
    go_wp2
    go_ret;refine BoolB.f (fun h => ?_) HB3.out
    by_cases hk0 : 0 < k
    ·have hz : xs[k - 1]? = some (xs[k - 1]'(by omega)):=List.getElem?_eq_getElem _;have h2:=H1.out _ hk0 hz;have h3:=h.2.2 (k - 1) x _ (by rw [Nat.sub_add_cancel hk0];exact HX.out) hz;rw [h2,hless] at h3
     cases h3
    ·have:=H0.out (by omega);subst this;have hnm : 1 ≤ x.n.size:=HOK.out.1.1;rw [less_nil hnm] at hless
     cases hless
   ·rw [hless] at htri;go_wp2_with fail;refine (HC.out _).mono ?_;rintro e w3 ⟨rfl,hb3⟩;have HB4:=hidK (HB3.out.trans (hb3.mono (Nat.le_trans HB.out.size (by omega))));clear hb3 d0 d1 d2 d3 d4;go_wp2_with fail;refine ⟨⟨k + 1,x.n,by omega,rfl,by go_num,fun h => absurd h (by omega),fun z _ hz => ?_,fun j z hj hz => ?_,fun j z u hj hz hu => ?_,HB4.out⟩,by simp [intOf];omega⟩
    ·rw [Nat.add_sub_cancel,HX.out] at hz;rw [Option.some.inj hz]
    ·by_cases e : j = k
     ·subst e;rw [HX.out] at hz;obtain rfl:=Option.some.inj hz;exact HOK.out
     ·exact HE.out j z (by omega) hz
    ·by_cases e : j + 1 = k
     ·subst e;rw [HX.out] at hz;obtain rfl:=Option.some.inj hz;have:=H1.out u (by omega) (by rw [Nat.add_sub_cancel];exact hu);rw [this];exact hless
     ·exact HO.out j z u (by omega) hz hu
  ·obtain rfl : k = len:=by omega
   go_wp2
   go_ret;refine BoolB.t ⟨by omega,fun j z hz => HE.out j z (by have:=(List.getElem?_eq_some_iff.1 hz).1;omega) hz,fun j z u hz hu => HO.out j z u (by have:=(List.getElem?_eq_some_iff.1 hz).1;omega) hz hu⟩ HB.out

def Sxxd (xs : List Xd) (t : ByteArray) (w : World) (e : Ending) (w' : World) : Prop :=
 Below w.heap.size w w' ∧ ((∃ (j : Nat) (x : Xd),xs[j]? = some x ∧ x.n = t ∧ e = .returned (.int .i64 j)) ∨ ((∀ (j : Nat) x,xs[j]? = some x → ¬ x.n = t) ∧ e = .returned (.int .i64 (-1))))

theorem sxxd_any (d : Ad) (now : Int) (xs : List Xd) (t : ByteArray) (w : World) (hr : RRow w d.a4 d.l4 d.c4 5 (xs.map xdF)) :
  Calls Tryz.prog 69 #[.agg #[.slice d.a1 d.l1 d.c1,.slice d.a2 d.l2 d.c2,.slice d.a3 d.l3 d.c3,.slice d.a4 d.l4 d.c4,.slice d.a5 d.l5 d.c5,.int .i64 now],.string t] w (Sxxd xs t w):=by
 have HR:=hidK hr
 have hxl : xs.length = d.l4:=by simpa using hr.1
 have hlc : d.l4 ≤ 9223372036854775807:=Nat.le_trans hr.2.1 hr.2.2.1;clear hr
 go_enter Tryz.func69,Tryz.ntmps69
 go_wp2
 go_loopw [5] (fun i wr => ∃ k : Nat,k ≤ d.l4 ∧ i = .int .i64 k ∧ wr = w.alloc (.cells #[.slice d.a1 d.l1 d.c1,.slice d.a2 d.l2 d.c2,.slice d.a3 d.l3 d.c3,.slice d.a4 d.l4 d.c4,.slice d.a5 d.l5 d.c5,.int .i64 now] 40) ∧ Hid (∀ (j : Nat) z,j < k → xs[j]? = some z → ¬ z.n = t)) (fun i _ => d.l4 - (intOf i).toNat)
 case atStart => exact ⟨0,by omega,rfl,rfl,fun _ _ h => absurd h (by omega)⟩
 case round =>
  obtain ⟨k,hk,rfl,rfl,HE⟩:=hrel
  by_cases hlt : k < d.l4
  ·obtain ⟨b,o,x,ha,hb,hx,hat⟩:=xd_at HR.out hlt;obtain ⟨-,-,-,c0,-,-,-,-⟩:=xd_cells hat;have HX:=hidK hx;clear hat hx
   by_cases hn : x.n = t
   ·have hq:=tl_yes hn;have HN:=hidK hn;clear hn
    go_wp2
    go_ret;exact ⟨below1 _ _,.inl ⟨k,x,HX.out,HN.out,rfl⟩⟩
   ·have hq:=tl_no hn;have HN:=hidK hn;clear hn
    go_wp2
    refine ⟨⟨k + 1,by omega,by go_num,by rw [ha],fun j z hj hz => ?_⟩,by simp [intOf];omega⟩
    by_cases e : j = k
    ·subst e;rw [HX.out] at hz;obtain rfl:=Option.some.inj hz;exact HN.out
    ·exact HE.out j z (by omega) hz
  ·obtain rfl : k = d.l4:=by omega
   go_wp2
   go_ret;exact ⟨below1 _ _,.inr ⟨fun j z hz => HE.out j z (by have:=(List.getElem?_eq_some_iff.1 hz).1;omega) hz,rfl⟩⟩

theorem calledpd_any (x : Pd) (va : Option Addr) (vl vc : Nat) (w : World) :
  Calls Tryz.prog 192 #[.agg #[.string x.n,.int .i64 x.c,.string x.z,.slice va vl vc,.string x.d,.int .i64 x.p]] w fun e w' => e = .returned (.string x.n) ∧ Below w.heap.size w w':=by
 go_enter Tryz.func192,Tryz.ntmps192
 go_wp2
 go_ret;exact ⟨rfl,below1 _ _⟩

theorem rightpd_any (x : Pd) (va : Option Addr) (vl vc : Nat) (w : World) (hn : x.n.size ≤ 9223372036854775807) (hz : x.z.size ≤ 9223372036854775807) (hd : x.d.size ≤ 9223372036854775807) (hr : TxRow w va vl vc x.zs) :
  Calls Tryz.prog 193 #[.agg #[.string x.n,.int .i64 x.c,.string x.z,.slice va vl vc,.string x.d,.int .i64 x.p]] w (BoolB (pdOk x) w):=by
 have HR:=hidK (hr.below (below1 w (.cells #[.string x.n,.int .i64 x.c,.string x.z,.slice va vl vc,.string x.d,.int .i64 x.p] 58)));clear hr
 go_enter Tryz.func193,Tryz.ntmps193
 go_wp2_with fail;refine (ipod_any x.n x.c x.z va vl vc x.zs x.d x.p _ hn hz hd HR.out).mono ?_;rintro e w1 ⟨r,rfl,hr1,hb⟩;have HB:=hidK (slotK hb).2.1;have HI:=hidK hr1;clear hb hr1
 go_wp2
 go_ret;exact ⟨r,rfl,HI.out,HB.out⟩

theorem placepd_any (a : Option Addr) (len cap : Nat) (xs : List Pd) (t : ByteArray) (w : World) (hr : RRow w a len cap 6 (xs.map pdF)) :
  Calls Tryz.prog 123 #[.slice a len cap,.string t] w fun e w' => e = .returned (.tuple #[.int .i64 (pl Pd.n xs t : Nat),.bool (hit Pd.n xs t)]) ∧ Below w.heap.size w w':=by
 have HR:=hidK hr
 have hxl : xs.length = len:=by simpa using hr.1
 have hlc : len ≤ 9223372036854775807:=Nat.le_trans hr.2.1 hr.2.2.1;clear hr
 have hmcalled : ∀ (v : Value) (w : World),(method 334 58 v "loop.example/g00571/impl.called").run Tryz.prog w = .ok (192,v) w:=fun _ _ => by kernel_rfl
 go_enter Tryz.func123,Tryz.ntmps123
 go_wp2
 go_loopw [10] (fun i wr => ∃ k : Nat,k ≤ len ∧ i = .int .i64 k ∧ Hid (∀ (j : Nat) y,j < k → xs[j]? = some y → Op.bytesLess y.n.toList t.toList = true) ∧ Hid (Below w.heap.size w wr)) (fun i _ => len - (intOf i).toNat)
 case atStart => exact ⟨0,by omega,rfl,fun j y hj => by omega,Below.refl _ _⟩
 case round =>
  obtain ⟨k,hk,rfl,HE,HB⟩:=hrel
  by_cases hlt : k < len
  ·obtain ⟨b,o,x,rfl,hb,hx,hat⟩:=pd_at (HR.out.below HB.out) hlt;obtain ⟨va,vl,vc,hvr,z0,z2,z4,c0,c1,c2,c3,c4,c5⟩:=pd_cells hat;have HX:=hidK hx;clear hat hx z0 z2 z4 hvr;have HC:=hidK (fun v : World => calledpd_any x va vl vc v);have HB1:=hidK (HB.out.alloc HB.out.size (.cells #[.string x.n,.int .i64 x.c,.string x.z,.slice va vl vc,.string x.d,.int .i64 x.p] 58));go_wp2_with fail;refine (HC.out _).mono ?_;rintro e w1 ⟨rfl,hb1⟩;obtain ⟨g1,-,-⟩:=slotK hb1;have hs1:=hb1.size;rw [show (wr.alloc (.cells #[.string x.n,.int .i64 x.c,.string x.z,.slice va vl vc,.string x.d,.int .i64 x.p] 58)).heap.size = wr.heap.size + 1 from by simp] at hs1;have HB2:=upB HB1 hb1;have d0 : w1.cell? ⟨wr.heap.size,0,none⟩ = some (.string x.n):=cellK g1 0;have d1 : w1.cell? ⟨wr.heap.size,1,none⟩ = some (.int .i64 x.c):=cellK g1 1;have d2 : w1.cell? ⟨wr.heap.size,2,none⟩ = some (.string x.z):=cellK g1 2;have d3 : w1.cell? ⟨wr.heap.size,3,none⟩ = some (.slice va vl vc):=cellK g1 3;have d4 : w1.cell? ⟨wr.heap.size,4,none⟩ = some (.string x.d):=cellK g1 4;have d5 : w1.cell? ⟨wr.heap.size,5,none⟩ = some (.int .i64 x.p):=cellK g1 5;clear g1 hb1 c0 c1 c2 c3 c4 c5 HB1
   cases hless : Op.bytesLess x.n.toList t.toList
   ·go_wp2_with fail;refine (HC.out _).mono ?_;rintro e w2 ⟨rfl,hb2⟩;have HB3:=hidK (HB2.out.trans (hb2.mono (Nat.le_trans HB.out.size (Nat.le_trans (Nat.le_succ _) hs1))));have hp:=pl_at HE.out HX.out hless;clear hb2;go_wp2_with fail;refine bodyPost_ret (v:=.tuple #[.int .i64 k,.bool (x.n.toList == t.toList)]) (by simp [results,Tryz.results123,go_sem]) rfl ⟨?_,HB3.out⟩;unfold hit;rw [hp,HX.out]
   ·go_wp2_with fail;refine ⟨⟨k + 1,by omega,by go_num,fun j y hj hy => ?_,HB2.out⟩,by simp [intOf];omega⟩
    by_cases e : j = k
    ·subst e;rw [HX.out] at hy;obtain rfl:=Option.some.inj hy;exact hless
    ·exact HE.out j y (by omega) hy
  ·obtain rfl : k = len:=by omega
   have hp : pl Pd.n xs t = xs.length:=pl_end (fun j y hy => HE.out j y (by have:=(List.getElem?_eq_some_iff.1 hy).1;omega) hy)
   have hh : hit Pd.n xs t = false:=by unfold hit;rw [hp,List.getElem?_eq_none (Nat.le_refl _)]
   have HP:=hidK hp;have HH:=hidK hh;clear hp hh
   go_wp2
   exact bodyPost_ret (v:=.tuple #[.int .i64 k,.bool false]) (by simp [results,Tryz.results123,go_sem]) rfl ⟨by rw [HP.out,HH.out,hxl],HB.out⟩

theorem rowrpd_any (a : Option Addr) (len cap : Nat) (xs : List Pd) (most : Int) (w : World) (hr : RRow w a len cap 6 (xs.map pdF)) :
  Calls Tryz.prog 141 #[.slice a len cap,.int .i64 most] w (BoolB (RowOk pdOk Pd.n xs most) w):=by
 have HR:=hidK hr
 have hxl : xs.length = len:=by simpa using hr.1
 have hlc : len ≤ 9223372036854775807:=Nat.le_trans hr.2.1 hr.2.2.1;clear hr
 have hmcalled : ∀ (v : Value) (w : World),(method 334 58 v "loop.example/g00571/impl.called").run Tryz.prog w = .ok (192,v) w:=fun _ _ => by kernel_rfl
 have hmright : ∀ (v : Value) (w : World),(method 334 58 v "loop.example/g00571/impl.right").run Tryz.prog w = .ok (193,v) w:=fun _ _ => by kernel_rfl
 by_cases hmo : most < (len : Int)
 ·go_enter Tryz.func141,Tryz.ntmps141
  go_wp2
  go_ret;exact BoolB.f (fun h => by have:=h.1;omega) (Below.refl _ _)
 go_enter Tryz.func141,Tryz.ntmps141
 go_wp2
 go_loopw [5,14] (fun q i wr => ∃ (k : Nat) (y : ByteArray),k ≤ len ∧ q = .string y ∧ i = .int .i64 k ∧ Hid (k = 0 → y = ⟨#[]⟩) ∧ Hid (∀ z,0 < k → xs[k - 1]? = some z → z.n = y) ∧ Hid (∀ (j : Nat) z,j < k → xs[j]? = some z → pdOk z) ∧ Hid (∀ (j : Nat) z u,j + 1 < k → xs[j + 1]? = some z → xs[j]? = some u → Op.bytesLess u.n.toList z.n.toList = true) ∧ Hid (Below w.heap.size w wr)) (fun _ i _ => len - (intOf i).toNat)
 case atStart => exact ⟨0,_,by omega,rfl,rfl,fun _ => rfl,fun _ h => absurd h (by omega),fun _ _ h => absurd h (by omega),fun _ _ _ h => absurd h (by omega),Below.refl _ _⟩
 case round =>
  obtain ⟨k,y,hk,rfl,rfl,H0,H1,HE,HO,HB⟩:=hrel
  by_cases hlt : k < len
  ·obtain ⟨b,o,x,rfl,hb,hx,hat⟩:=pd_at (HR.out.below HB.out) hlt;obtain ⟨va,vl,vc,hvr,z0,z2,z4,c0,c1,c2,c3,c4,c5⟩:=pd_cells hat;have HX:=hidK hx;have HC:=hidK (fun v : World => calledpd_any x va vl vc v);have HB1:=hidK (HB.out.alloc HB.out.size (.cells #[.string x.n,.int .i64 x.c,.string x.z,.slice va vl vc,.string x.d,.int .i64 x.p] 58));have HRt:=hidK (rightpd_any x va vl vc (wr.alloc (.cells #[.string x.n,.int .i64 x.c,.string x.z,.slice va vl vc,.string x.d,.int .i64 x.p] 58)) z0 z2 z4 (hvr.below (below1 _ _)));clear hat hx z0 z2 z4 hvr;go_wp2_with fail;refine HRt.out.mono ?_;rintro e w1 ⟨r,rfl,hrt,hb1⟩;obtain ⟨g1,-,-⟩:=slotK hb1;have hs1:=hb1.size;rw [show (wr.alloc (.cells #[.string x.n,.int .i64 x.c,.string x.z,.slice va vl vc,.string x.d,.int .i64 x.p] 58)).heap.size = wr.heap.size + 1 from by simp] at hs1;have HB2:=upB HB1 hb1;have d0 : w1.cell? ⟨wr.heap.size,0,none⟩ = some (.string x.n):=cellK g1 0;have d1 : w1.cell? ⟨wr.heap.size,1,none⟩ = some (.int .i64 x.c):=cellK g1 1;have d2 : w1.cell? ⟨wr.heap.size,2,none⟩ = some (.string x.z):=cellK g1 2;have d3 : w1.cell? ⟨wr.heap.size,3,none⟩ = some (.slice va vl vc):=cellK g1 3;have d4 : w1.cell? ⟨wr.heap.size,4,none⟩ = some (.string x.d):=cellK g1 4;have d5 : w1.cell? ⟨wr.heap.size,5,none⟩ = some (.int .i64 x.p):=cellK g1 5;have HG:=hidK g1;have HI:=hidK hrt;clear g1 hb1 HB1 HRt hrt c0 c1 c2 c3 c4 c5
   cases r
   ·go_wp2
    go_ret;exact BoolB.f (fun h => by have:=HI.out.2 (h.2.1 k x HX.out);cases this) HB2.out
   have HOK:=hidK (HI.out.1 rfl);clear HI;go_wp2_with fail;refine (HC.out _).mono ?_;rintro e w2 ⟨rfl,hb2⟩;have HB3:=hidK (HB2.out.trans (hb2.mono (Nat.le_trans HB.out.size (Nat.le_trans (Nat.le_succ _) hs1))));have g2:=(hb2.block wr.heap.size (by omega)).trans HG.out;have hs2:=hb2.size;have htri:=less_tri y.toList x.n.toList;clear HG hb2 HB2 d0 d1 d2 d3 d4 d5;have d0 : w2.cell? ⟨wr.heap.size,0,none⟩ = some (.string x.n):=cellK g2 0;have d1 : w2.cell? ⟨wr.heap.size,1,none⟩ = some (.int .i64 x.c):=cellK g2 1;have d2 : w2.cell? ⟨wr.heap.size,2,none⟩ = some (.string x.z):=cellK g2 2;have d3 : w2.cell? ⟨wr.heap.size,3,none⟩ = some (.slice va vl vc):=cellK g2 3;have d4 : w2.cell? ⟨wr.heap.size,4,none⟩ = some (.string x.d):=cellK g2 4;have d5 : w2.cell? ⟨wr.heap.size,5,none⟩ = some (.int .i64 x.p):=cellK g2 5;clear g2
   cases hless : Op.bytesLess y.toList x.n.toList
   ·rw [hless] at htri
    go_wp2
    go_ret;refine BoolB.f (fun h => ?_) HB3.out
    by_cases hk0 : 0 < k
    ·have hz : xs[k - 1]? = some (xs[k - 1]'(by omega)):=List.getElem?_eq_getElem _;have h2:=H1.out _ hk0 hz;have h3:=h.2.2 (k - 1) x _ (by rw [Nat.sub_add_cancel hk0];exact HX.out) hz;rw [h2,hless] at h3
     cases h3
    ·have:=H0.out (by omega);subst this;have hnm : 1 ≤ x.n.size:=HOK.out.1.1;rw [less_nil hnm] at hless
     cases hless
   ·rw [hless] at htri;go_wp2_with fail;refine (HC.out _).mono ?_;rintro e w3 ⟨rfl,hb3⟩;have HB4:=hidK (HB3.out.trans (hb3.mono (Nat.le_trans HB.out.size (by omega))));clear hb3 d0 d1 d2 d3 d4 d5;go_wp2_with fail;refine ⟨⟨k + 1,x.n,by omega,rfl,by go_num,fun h => absurd h (by omega),fun z _ hz => ?_,fun j z hj hz => ?_,fun j z u hj hz hu => ?_,HB4.out⟩,by simp [intOf];omega⟩
    ·rw [Nat.add_sub_cancel,HX.out] at hz;rw [Option.some.inj hz]
    ·by_cases e : j = k
     ·subst e;rw [HX.out] at hz;obtain rfl:=Option.some.inj hz;exact HOK.out
     ·exact HE.out j z (by omega) hz
    ·by_cases e : j + 1 = k
     ·subst e;rw [HX.out] at hz;obtain rfl:=Option.some.inj hz;have:=H1.out u (by omega) (by rw [Nat.add_sub_cancel];exact hu);rw [this];exact hless
     ·exact HO.out j z u (by omega) hz hu
  ·obtain rfl : k = len:=by omega
   go_wp2
   go_ret;refine BoolB.t ⟨by omega,fun j z hz => HE.out j z (by have:=(List.getElem?_eq_some_iff.1 hz).1;omega) hz,fun j z u hz hu => HO.out j z u (by have:=(List.getElem?_eq_some_iff.1 hz).1;omega) hz hu⟩ HB.out

def Sxpd (xs : List Pd) (t : ByteArray) (w : World) (e : Ending) (w' : World) : Prop :=
 Below w.heap.size w w' ∧ ((∃ (j : Nat) (x : Pd),xs[j]? = some x ∧ x.n = t ∧ e = .returned (.int .i64 j)) ∨ ((∀ (j : Nat) x,xs[j]? = some x → ¬ x.n = t) ∧ e = .returned (.int .i64 (-1))))

theorem sxpd_any (d : Ad) (now : Int) (xs : List Pd) (t : ByteArray) (w : World) (hr : RRow w d.a5 d.l5 d.c5 6 (xs.map pdF)) :
  Calls Tryz.prog 68 #[.agg #[.slice d.a1 d.l1 d.c1,.slice d.a2 d.l2 d.c2,.slice d.a3 d.l3 d.c3,.slice d.a4 d.l4 d.c4,.slice d.a5 d.l5 d.c5,.int .i64 now],.string t] w (Sxpd xs t w):=by
 have HR:=hidK hr
 have hxl : xs.length = d.l5:=by simpa using hr.1
 have hlc : d.l5 ≤ 9223372036854775807:=Nat.le_trans hr.2.1 hr.2.2.1;clear hr
 go_enter Tryz.func68,Tryz.ntmps68
 go_wp2
 go_loopw [5] (fun i wr => ∃ k : Nat,k ≤ d.l5 ∧ i = .int .i64 k ∧ wr = w.alloc (.cells #[.slice d.a1 d.l1 d.c1,.slice d.a2 d.l2 d.c2,.slice d.a3 d.l3 d.c3,.slice d.a4 d.l4 d.c4,.slice d.a5 d.l5 d.c5,.int .i64 now] 40) ∧ Hid (∀ (j : Nat) z,j < k → xs[j]? = some z → ¬ z.n = t)) (fun i _ => d.l5 - (intOf i).toNat)
 case atStart => exact ⟨0,by omega,rfl,rfl,fun _ _ h => absurd h (by omega)⟩
 case round =>
  obtain ⟨k,hk,rfl,rfl,HE⟩:=hrel
  by_cases hlt : k < d.l5
  ·obtain ⟨b,o,x,ha,hb,hx,hat⟩:=pd_at HR.out hlt;obtain ⟨va,vl,vc,hvr,-,-,-,c0,-,-,-,-,-⟩:=pd_cells hat;have HX:=hidK hx;clear hat hx hvr
   by_cases hn : x.n = t
   ·have hq:=tl_yes hn;have HN:=hidK hn;clear hn
    go_wp2
    go_ret;exact ⟨below1 _ _,.inl ⟨k,x,HX.out,HN.out,rfl⟩⟩
   ·have hq:=tl_no hn;have HN:=hidK hn;clear hn
    go_wp2
    refine ⟨⟨k + 1,by omega,by go_num,by rw [ha],fun j z hj hz => ?_⟩,by simp [intOf];omega⟩
    by_cases e : j = k
    ·subst e;rw [HX.out] at hz;obtain rfl:=Option.some.inj hz;exact HN.out
    ·exact HE.out j z (by omega) hz
  ·obtain rfl : k = d.l5:=by omega
   go_wp2
   go_ret;exact ⟨below1 _ _,.inr ⟨fun j z hz => HE.out j z (by have:=(List.getElem?_eq_some_iff.1 hz).1;omega) hz,rfl⟩⟩

def ens (w : World) : Prop:=∃ T v,w.cell? ⟨3,0,none⟩ = some (.iface T v)
theorem ens.lt {w : World} (h : ens w) : 3 < w.heap.size:=by
 obtain ⟨T,v,h⟩:=h
 rcases Nat.lt_or_ge (3) w.heap.size with h1 | h1
 ·exact h1
 ·simp [World.cell?,Array.getElem?_eq_none h1] at h
theorem ens.below {w w' : World} (h : ens w) (hb : Below w.heap.size w w') : ens w':=by
 have hl:=h.lt;obtain ⟨T,v,h⟩:=h;exact ⟨T,v,(cell_below hb hl).trans h⟩
theorem isE_y {s : ByteArray} (h : s = ⟨#[]⟩) : s.toList.isEmpty = true:=by rw [h];exact isE_yes
def WhyB (p : Prop) (w : World) (e : Ending) (w' : World) : Prop:=Below w.heap.size w w' ∧ ((p ∧ e = .returned .nilIface) ∨ (¬ p ∧ ∃ T v,e = .returned (.iface T v)))

theorem iclassWhy_any (d : Ad) (now : Int) (xs : List Kd) (t : ByteArray) (w : World) (hr : RRow w d.a2 d.l2 d.c2 4 (xs.map kdF)) (hG : ens w) :
  Calls Tryz.prog 50 #[.agg #[.slice d.a1 d.l1 d.c1,.slice d.a2 d.l2 d.c2,.slice d.a3 d.l3 d.c3,.slice d.a4 d.l4 d.c4,.slice d.a5 d.l5 d.c5,.int .i64 now],.string t] w (WhyB (hit Kd.n xs t = true) w):=by
 have HR:=hidK hr;have HE:=hidK hG;have HB:=hidK (Below.refl w.heap.size w);clear hr hG
 go_enter Tryz.func50,Tryz.ntmps50
 go_wp2_with fail;refine (thekd_any d now xs t w _ HR.out (below1 _ _)).mono ?_;rintro e w1 ⟨hb,hf⟩;obtain ⟨HA0,hbx⟩:=slots1 hb;have Bk:=hidK HA0;replace HB:=upB HB hbx;clear hb hbx HA0;obtain ⟨T,v,hv⟩:=HE.out.below HB.out;have hl:=(HE.out.below HB.out).lt;clear HE HR
 rcases hf with ⟨hh,x,hx,hn,rfl,z0,z3⟩ | ⟨hh,rfl⟩
 ·have HH:=hidK hh;clear hh hx hn z0 z3
  go_wp2
  go_ret;exact ⟨(HB.out.alloc HB.out.size _),.inl ⟨HH.out,rfl⟩⟩
 ·have HH:=hidK hh;clear hh
  go_wp2
  go_ret;exact ⟨(HB.out.alloc HB.out.size _),.inr ⟨by rw [HH.out];decide,T,v,rfl⟩⟩

def Bond (c : Cl) (t s : ByteArray) : Prop:=∃ (i j : Nat) (x : Xd) (v : Vd),c.xs[i]? = some x ∧ x.n = t ∧ c.vs[j]? = some v ∧ v.n = s ∧ x.v = s ∧ v.m = t ∧ x.z ≤ v.c ∧ v.k = x.k ∧ v.x = x.x

theorem ibond_any (d : Ad) (c : Cl) (t s : ByteArray) (w : World) (hr : ClRow w d c.raw) (hx : RisBy Xd.n c.xs) (hv : RisBy Vd.n c.vs) :
  Calls Tryz.prog 142 #[.agg #[.slice d.a1 d.l1 d.c1,.slice d.a2 d.l2 d.c2,.slice d.a3 d.l3 d.c3,.slice d.a4 d.l4 d.c4,.slice d.a5 d.l5 d.c5,.int .i64 c.now],.string t,.string s] w (BoolB (Bond c t s) w):=by
 have HR:=hidK hr;have HB:=hidK (Below.refl w.heap.size w);have HX:=hidK hx;have HV:=hidK hv;clear hr hx hv
 go_enter Tryz.func142,Tryz.ntmps142
 go_wp2_with fail;refine (thexd_any d c.now c.xs t w _ HR.out.x (below1 _ _)).mono ?_;rintro e w1 ⟨hb,hf⟩;obtain ⟨HA0,hbx⟩:=slots1 hb;have Bk:=hidK HA0;replace HB:=upB HB hbx;clear hb hbx HA0
 rcases hf with ⟨hh,x,hx,hn,rfl,z0,z2,z4⟩ | ⟨hh,rfl⟩
 ·have HX1:=hidK hx;have HN1:=hidK hn;clear hx hn hh z0 z2 z4;obtain ⟨k0,k1,k2,k3,k4,k5⟩:=cs6 Bk.out;have ltk_1:=lt_of_some Bk.out;go_wp2_with fail;refine (thevd_any d c.now c.vs s w _ HR.out.v (HB.out.trans ((below1 _ _).mono HB.out.size))).mono ?_;rintro e w2 ⟨hb,hf⟩;clear k0 k1 k2 k3 k4 k5 ltk_1;obtain ⟨HA0,hbx⟩:=slots1 hb;replace Bk:=upK Bk hbx;have Bx:=hidK HA0;replace HB:=upB HB hbx;clear hb hbx HA0
  rcases hf with ⟨hh,v,va,vl,vc,hx,hn,rfl,z0,z2,z3,z5,hvr⟩ | ⟨hh,rfl⟩
  ·have HX2:=hidK hx;have HN2:=hidK hn;clear hx hn hh z0 z2 z3 z5 hvr;obtain ⟨x0,x1,x2,x3,x4⟩:=cs5 Bx.out;have ltx_2:=lt_of_some Bx.out
   cases q1 : (x.v.toList == s.toList)
   ·go_wp2
    go_ret;refine BoolB.f (fun ⟨i,j,x',v',e1,e2,e3,e4,e5,_⟩ => ?_) (HB.out.alloc HB.out.size _);obtain ⟨_,rfl⟩:=HX.out.inj e1 HX1.out (e2.trans HN1.out.symm);rw [tl_yes e5] at q1;cases q1
   cases q2 : (v.m.toList == t.toList)
   ·go_wp2
    go_ret;refine BoolB.f (fun ⟨i,j,x',v',e1,e2,e3,e4,e5,e6,_⟩ => ?_) (HB.out.alloc HB.out.size _);obtain ⟨_,rfl⟩:=HV.out.inj e3 HX2.out (e4.trans HN2.out.symm);rw [tl_yes e6] at q2;cases q2
   by_cases q3 : x.z ≤ v.c
   rotate_left
   ·go_wp2
    go_ret;refine BoolB.f (fun ⟨i,j,x',v',e1,e2,e3,e4,e5,e6,e7,_⟩ => ?_) (HB.out.alloc HB.out.size _);obtain ⟨_,rfl⟩:=HX.out.inj e1 HX1.out (e2.trans HN1.out.symm);obtain ⟨_,rfl⟩:=HV.out.inj e3 HX2.out (e4.trans HN2.out.symm)
    omega
   cases q4 : (v.k.toList == x.k.toList)
   ·go_wp2
    go_ret;refine BoolB.f (fun ⟨i,j,x',v',e1,e2,e3,e4,e5,e6,e7,e8,_⟩ => ?_) (HB.out.alloc HB.out.size _);obtain ⟨_,rfl⟩:=HX.out.inj e1 HX1.out (e2.trans HN1.out.symm);obtain ⟨_,rfl⟩:=HV.out.inj e3 HX2.out (e4.trans HN2.out.symm);rw [tl_yes e8] at q4;cases q4
   cases q5 : (v.x == x.x)
   ·go_wp2
    go_ret;refine BoolB.f (fun ⟨i,j,x',v',e1,e2,e3,e4,e5,e6,e7,e8,e9⟩ => ?_) (HB.out.alloc HB.out.size _);obtain ⟨_,rfl⟩:=HX.out.inj e1 HX1.out (e2.trans HN1.out.symm);obtain ⟨_,rfl⟩:=HV.out.inj e3 HX2.out (e4.trans HN2.out.symm);rw [e9] at q5;simp at q5
   ·go_wp2
    go_ret;exact BoolB.t ⟨_,_,x,v,HX1.out,HN1.out,HX2.out,HN2.out,tl_inj q1,tl_inj q2,q3,tl_inj q4,by simpa using q5⟩ (HB.out.alloc HB.out.size _)
  ·have HH2:=hidK hh;clear hh;obtain ⟨x0,x1,x2,x3,x4⟩:=cs5 Bx.out;have ltx_2:=lt_of_some Bx.out
   go_wp2
   go_ret;refine BoolB.f (fun ⟨i,j,x',v',e1,e2,e3,e4,_⟩ => ?_) (HB.out.alloc HB.out.size _);have:=(hit_at HV.out e3 e4).2;rw [HH2.out] at this
   cases this
 ·have HH1:=hidK hh;clear hh;obtain ⟨k0,k1,k2,k3,k4,k5⟩:=cs6 Bk.out;have ltk_1:=lt_of_some Bk.out;go_wp2_with fail;refine (thevd_any d c.now c.vs s w _ HR.out.v (HB.out.trans ((below1 _ _).mono HB.out.size))).mono ?_;rintro e w2 ⟨hb,hf⟩;clear k0 k1 k2 k3 k4 k5 ltk_1;obtain ⟨HA0,hbx⟩:=slots1 hb;replace Bk:=upK Bk hbx;have Bx:=hidK HA0;replace HB:=upB HB hbx;clear hb hbx HA0
  rcases hf with ⟨hh,v,va,vl,vc,hx,hn,rfl,z0,z2,z3,z5,hvr⟩ | ⟨hh,rfl⟩
  ·have HX2:=hidK hx;have HN2:=hidK hn;clear hx hn hh z0 z2 z3 z5 hvr;obtain ⟨x0,x1,x2,x3,x4⟩:=cs5 Bx.out;have ltx_2:=lt_of_some Bx.out
   go_wp2
   go_ret;refine BoolB.f (fun ⟨i,j,x',v',e1,e2,e3,e4,_⟩ => ?_) (HB.out.alloc HB.out.size _);have:=(hit_at HX.out e1 e2).2;rw [HH1.out] at this
   cases this
  ·have HH2:=hidK hh;clear hh;obtain ⟨x0,x1,x2,x3,x4⟩:=cs5 Bx.out;have ltx_2:=lt_of_some Bx.out
   go_wp2
   go_ret;refine BoolB.f (fun ⟨i,j,x',v',e1,e2,e3,e4,_⟩ => ?_) (HB.out.alloc HB.out.size _);have:=(hit_at HX.out e1 e2).2;rw [HH1.out] at this
   cases this

def QV (c : Cl) (v : Vd) : Prop:=hit Kd.n c.ks v.k = true ∧ (v.m = ⟨#[]⟩ ∨ Bond c v.m v.n)
def QX (c : Cl) (x : Xd) : Prop:=hit Kd.n c.ks x.k = true ∧ (x.v = ⟨#[]⟩ ∨ Bond c x.n x.v)
def BoundI (c : Cl) : Prop:=(∀ (j : Nat) v,c.vs[j]? = some v → QV c v) ∧ (∀ (j : Nat) x,c.xs[j]? = some x → QX c x)

theorem ibound_any (d : Ad) (c : Cl) (w : World) (hr : ClRow w d c.raw) (hxr : RisBy Xd.n c.xs) (hvr : RisBy Vd.n c.vs) (hG : ens w) :
  Calls Tryz.prog 93 #[.agg #[.slice d.a1 d.l1 d.c1,.slice d.a2 d.l2 d.c2,.slice d.a3 d.l3 d.c3,.slice d.a4 d.l4 d.c4,.slice d.a5 d.l5 d.c5,.int .i64 c.now]] w (BoolB (BoundI c) w):=by
 obtain ⟨a1,l1,y1,a2,l2,y2,a3,l3,y3,a4,l4,y4,a5,l5,y5⟩:=d;dsimp only;have HR:=hidK hr
 have hl1 : c.ns.length = l1:=by simpa using (show (c.ns.map ndF).length = l1 from hr.n.1)
 have hm1 : l1 ≤ 9223372036854775807:=Nat.le_trans hr.n.2.1 hr.n.2.2.1
 have hl2 : c.ks.length = l2:=by simpa using (show (c.ks.map kdF).length = l2 from hr.k.1)
 have hm2 : l2 ≤ 9223372036854775807:=Nat.le_trans hr.k.2.1 hr.k.2.2.1
 have hl3 : c.vs.length = l3:=by simpa using (show (c.vs.map vdF).length = l3 from hr.v.1)
 have hm3 : l3 ≤ 9223372036854775807:=Nat.le_trans hr.v.2.1 hr.v.2.2.1
 have hl4 : c.xs.length = l4:=by simpa using (show (c.xs.map xdF).length = l4 from hr.x.1)
 have hm4 : l4 ≤ 9223372036854775807:=Nat.le_trans hr.x.2.1 hr.x.2.2.1
 have hl5 : c.ps.length = l5:=by simpa using (show (c.ps.map pdF).length = l5 from hr.p.1)
 have hm5 : l5 ≤ 9223372036854775807:=Nat.le_trans hr.p.2.1 hr.p.2.2.1;clear hr;have HE:=hidK hG;have HXR:=hidK hxr;have HVR:=hidK hvr;clear hG hxr hvr
 go_enter Tryz.func93,Tryz.ntmps93
 go_wp2
 go_loopw [10] (fun i wr => ∃ k : Nat,k ≤ l3 ∧ i = .int .i64 k ∧ Hid (∀ (j : Nat) z,j < k → c.vs[j]? = some z → QV c z) ∧ Hid (Below w.heap.size w wr) ∧ Hid (wr.heap[w.heap.size]? = some (.cells #[.slice a1 l1 y1,.slice a2 l2 y2,.slice a3 l3 y3,.slice a4 l4 y4,.slice a5 l5 y5,.int .i64 c.now] 40 (0,0)))) (fun i _ => l3 - (intOf i).toNat)
 case atStart => exact ⟨0,by omega,rfl,fun _ _ h => absurd h (by omega),below1 _ _,Array.getElem?_push_size⟩
 case round =>
  obtain ⟨k,hk,rfl,HQ,HB,Bk⟩:=hrel
  by_cases hlt : k < l3
  ·obtain ⟨b,o,v,rfl,hb,hx,hat⟩:=vd_at (HR.out.v.below HB.out) hlt;obtain ⟨va,vl,vc,hvr,z0,z2,z3,z5,c0,c1,c2,c3,c4,c5,c6,c7⟩:=vd_cells hat;have HXv:=hidK hx;have HTv:=hidK hvr;have HZv0:=hidK z0;have HZv2:=hidK z2;have HZv3:=hidK z3;have HZv5:=hidK z5;clear hat hx z0 z2 z3 z5 hvr;obtain ⟨k0,k1,k2,k3,k4,k5⟩:=cs6 Bk.out;have ltk_0:=lt_of_some Bk.out;go_wp2_with fail;refine (iclassWhy_any ⟨a1,l1,y1,a2,l2,y2,(some ⟨b,o,none⟩),l3,y3,a4,l4,y4,a5,l5,y5⟩ c.now c.ks v.k _ (HR.out.k.below (HB.out.trans ((below1 _ _).mono HB.out.size))) (HE.out.below (HB.out.trans ((below1 _ _).mono HB.out.size)))).mono ?_;rintro e w1 ⟨hb2,hf⟩;clear k0 k1 k2 k3 k4 k5 ltk_0;obtain ⟨HA0,hbx⟩:=slots1 hb2;replace Bk:=upK Bk hbx;have Br:=hidK HA0;replace HB:=upB HB hbx;clear hb2 hbx HA0;clear hb c0 c1 c2 c3 c4 c5 c6 c7
   rcases hf with ⟨hh,rfl⟩ | ⟨hh,T,q,rfl⟩
   rotate_left
   ·have HH:=hidK hh;clear hh;obtain ⟨k0,k1,k2,k3,k4,k5⟩:=cs6 Bk.out;have ltk_1:=lt_of_some Bk.out;obtain ⟨r0,r1,r2,r3,r4,r5,r6,r7⟩:=cs8 Br.out;have ltr_1:=lt_of_some Br.out
    go_wp2
    go_ret;exact BoolB.f (fun h => HH.out (h.1 k v HXv.out).1) HB.out
   have HH:=hidK hh;clear hh
   by_cases he : v.m = ⟨#[]⟩
   ·have hq:=isE_y he;have HEm:=hidK he;clear he;obtain ⟨k0,k1,k2,k3,k4,k5⟩:=cs6 Bk.out;have ltk_1:=lt_of_some Bk.out;obtain ⟨r0,r1,r2,r3,r4,r5,r6,r7⟩:=cs8 Br.out;have ltr_1:=lt_of_some Br.out;go_wp2_with fail;refine ⟨⟨k + 1,by omega,by go_num,fun j z hj hz => ?_,HB.out,Bk.out⟩,by simp [intOf];omega⟩
    by_cases e : j = k
    ·subst e;rw [HXv.out] at hz;obtain rfl:=Option.some.inj hz;exact ⟨HH.out,.inl HEm.out⟩
    ·exact HQ.out j z (by omega) hz
   ·have hq:=isE_no he;have HEm:=hidK he;clear he;obtain ⟨k0,k1,k2,k3,k4,k5⟩:=cs6 Bk.out;have ltk_1:=lt_of_some Bk.out;obtain ⟨r0,r1,r2,r3,r4,r5,r6,r7⟩:=cs8 Br.out;have ltr_1:=lt_of_some Br.out;go_wp2_with fail;refine (ibond_any ⟨a1,l1,y1,a2,l2,y2,(some ⟨b,o,none⟩),l3,y3,a4,l4,y4,a5,l5,y5⟩ c v.m v.n _ (HR.out.below HB.out) HXR.out HVR.out).mono ?_;rintro e w2 ⟨r,rfl,hi,hb3⟩;clear k0 k1 k2 k3 k4 k5 ltk_1 r0 r1 r2 r3 r4 r5 r6 r7 ltr_1;replace Bk:=upK Bk hb3;replace Br:=upK Br hb3;replace HB:=upB HB hb3;clear hb3;have HI:=hidK hi;clear hi
    cases r
    ·go_wp2
     go_ret;refine BoolB.f (fun h => ?_) HB.out
     rcases (h.1 k v HXv.out).2 with h2 | h2
     ·exact HEm.out h2
     ·have:=HI.out.2 h2
      cases this
    ·go_wp2_with fail;refine ⟨⟨k + 1,by omega,by go_num,fun j z hj hz => ?_,HB.out,Bk.out⟩,by simp [intOf];omega⟩
     by_cases e : j = k
     ·subst e;rw [HXv.out] at hz;obtain rfl:=Option.some.inj hz;exact ⟨HH.out,.inr (HI.out.1 (by first | trivial | rfl))⟩
     ·exact HQ.out j z (by omega) hz
  ·obtain rfl : l3 = k:=by omega
   have HQ1 : Hid (∀ (j : Nat) z,c.vs[j]? = some z → QV c z):=fun j z hz => HQ.out j z (by have:=(List.getElem?_eq_some_iff.1 hz).1;omega) hz;clear HQ;have k3 : wr.cell? ⟨w.heap.size,3,none⟩ = some (.slice a4 l4 y4):=cellK Bk.out 3;have kl : w.heap.size < wr.heap.size:=lt_of_some Bk.out
   go_wp2
   go_loopw [37] (fun i wr => ∃ k : Nat,k ≤ l4 ∧ i = .int .i64 k ∧ Hid (∀ (j : Nat) z,j < k → c.xs[j]? = some z → QX c z) ∧ Hid (Below w.heap.size w wr) ∧ Hid (wr.heap[w.heap.size]? = some (.cells #[.slice a1 l1 y1,.slice a2 l2 y2,.slice a3 l3 y3,.slice a4 l4 y4,.slice a5 l5 y5,.int .i64 c.now] 40 (0,0)))) (fun i _ => l4 - (intOf i).toNat)
   case atStart => exact ⟨0,by omega,rfl,fun _ _ h => absurd h (by omega),HB.out,Bk.out⟩
   case round =>
    obtain ⟨k,hk,rfl,HQ,HB,Bk⟩:=hrel
    by_cases hlt : k < l4
    ·obtain ⟨b,o,x,rfl,hb,hx,hat⟩:=xd_at (HR.out.x.below HB.out) hlt;obtain ⟨z0,z2,z4,c0,c1,c2,c3,c4⟩:=xd_cells hat;have HXx:=hidK hx;have HZx0:=hidK z0;have HZx2:=hidK z2;have HZx4:=hidK z4;clear hat hx z0 z2 z4;obtain ⟨k0,k1,k2,k3,k4,k5⟩:=cs6 Bk.out;have ltk_0:=lt_of_some Bk.out;go_wp2_with fail;refine (iclassWhy_any ⟨a1,l1,y1,a2,l2,y2,a3,l3,y3,(some ⟨b,o,none⟩),l4,y4,a5,l5,y5⟩ c.now c.ks x.k _ (HR.out.k.below (HB.out.trans ((below1 _ _).mono HB.out.size))) (HE.out.below (HB.out.trans ((below1 _ _).mono HB.out.size)))).mono ?_;rintro e w1 ⟨hb2,hf⟩;clear k0 k1 k2 k3 k4 k5 ltk_0;obtain ⟨HA0,hbx⟩:=slots1 hb2;replace Bk:=upK Bk hbx;have Br:=hidK HA0;replace HB:=upB HB hbx;clear hb2 hbx HA0;clear hb c0 c1 c2 c3 c4
     rcases hf with ⟨hh,rfl⟩ | ⟨hh,T,q,rfl⟩
     rotate_left
     ·have HH:=hidK hh;clear hh;obtain ⟨k0,k1,k2,k3,k4,k5⟩:=cs6 Bk.out;have ltk_1:=lt_of_some Bk.out;obtain ⟨r0,r1,r2,r3,r4⟩:=cs5 Br.out;have ltr_1:=lt_of_some Br.out
      go_wp2
      go_ret;exact BoolB.f (fun h => HH.out (h.2 k x HXx.out).1) HB.out
     have HH:=hidK hh;clear hh
     by_cases he : x.v = ⟨#[]⟩
     ·have hq:=isE_y he;have HEm:=hidK he;clear he;obtain ⟨k0,k1,k2,k3,k4,k5⟩:=cs6 Bk.out;have ltk_1:=lt_of_some Bk.out;obtain ⟨r0,r1,r2,r3,r4⟩:=cs5 Br.out;have ltr_1:=lt_of_some Br.out;go_wp2_with fail;refine ⟨⟨k + 1,by omega,by go_num,fun j z hj hz => ?_,HB.out,Bk.out⟩,by simp [intOf];omega⟩
      by_cases e : j = k
      ·subst e;rw [HXx.out] at hz;obtain rfl:=Option.some.inj hz;exact ⟨HH.out,.inl HEm.out⟩
      ·exact HQ.out j z (by omega) hz
     ·have hq:=isE_no he;have HEm:=hidK he;clear he;obtain ⟨k0,k1,k2,k3,k4,k5⟩:=cs6 Bk.out;have ltk_1:=lt_of_some Bk.out;obtain ⟨r0,r1,r2,r3,r4⟩:=cs5 Br.out;have ltr_1:=lt_of_some Br.out;go_wp2_with fail;refine (ibond_any ⟨a1,l1,y1,a2,l2,y2,a3,l3,y3,(some ⟨b,o,none⟩),l4,y4,a5,l5,y5⟩ c x.n x.v _ (HR.out.below HB.out) HXR.out HVR.out).mono ?_;rintro e w2 ⟨r,rfl,hi,hb3⟩;clear k0 k1 k2 k3 k4 k5 ltk_1 r0 r1 r2 r3 r4 ltr_1;replace Bk:=upK Bk hb3;replace Br:=upK Br hb3;replace HB:=upB HB hb3;clear hb3;have HI:=hidK hi;clear hi
      cases r
      ·go_wp2
       go_ret;refine BoolB.f (fun h => ?_) HB.out
       rcases (h.2 k x HXx.out).2 with h2 | h2
       ·exact HEm.out h2
       ·have:=HI.out.2 h2
        cases this
      ·go_wp2_with fail;refine ⟨⟨k + 1,by omega,by go_num,fun j z hj hz => ?_,HB.out,Bk.out⟩,by simp [intOf];omega⟩
       by_cases e : j = k
       ·subst e;rw [HXx.out] at hz;obtain rfl:=Option.some.inj hz;exact ⟨HH.out,.inr (HI.out.1 (by first | trivial | rfl))⟩
       ·exact HQ.out j z (by omega) hz
    ·obtain rfl : l4 = k:=by omega
     have HQ2 : Hid (∀ (j : Nat) z,c.xs[j]? = some z → QX c z):=fun j z hz => HQ.out j z (by have:=(List.getElem?_eq_some_iff.1 hz).1;omega) hz;clear HQ
     go_wp2
     go_ret;exact BoolB.t ⟨HQ1.out,HQ2.out⟩ HB.out

end Rc
end Go.Proofs.YtcogpoamhflgjaaGreatDoor

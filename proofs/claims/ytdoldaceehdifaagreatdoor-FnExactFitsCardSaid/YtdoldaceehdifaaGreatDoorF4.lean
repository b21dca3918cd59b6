import Derived.Test.YtdoldaceehdifaaGreatDoorF3
import Derived.Deep.AppendLies
import Derived.Lib.Overlaps
import Derived.Lib.SliceRun
import Derived.Lib.AppendZerosOnto
import Derived.Deep.RegionLaw
import Derived.Shelf.RegionOpenPlain
import Derived.Test.YtdoldaceehdifaaGreatDoorRows
import Derived.WalkKit
import Derived.WalkSpells
import Derived.OwnWalk
import Derived.Outline
import Derived.Lib.BufferWrite
import Derived.Laws.CopyOwn
import Derived.Laws.IdiomStrings
import Derived.RegionTactic
/-
 As Grow, along any relation of worlds, and with the times at which the operations came up: no two at one time.
-/
set_option maxRecDepth 100000
set_option maxHeartbeats 12800000
namespace Go.Proofs.YtdoldaceehdifaaGreatDoor
theorem iT {p : Prop} (h : p:=by simp [results,Tryz.results173,go_sem, *]) : p:=h
theorem iS {p : Prop} (h : p:=by rw [List.length_take];omega) : p:=h
theorem rk {p : Prop} (h : p:=by rw [← List.flatten_append,List.take_append_drop]) : p:=h
theorem iQ {p : Prop} (h : p:=by simpa using ho.1) : p:=h
theorem Af {p : Prop} (h : p:=by have : (0 + len) * bytes ≤ 8 * 1000:=Nat.mul_le_mul (by omega) hb8;omega) : p:=h
theorem Ab {p : Prop} (h : p:=by simp only [List.length_append,List.length_take,List.length_drop];omega) : p:=h
end Go.Proofs.YtdoldaceehdifaaGreatDoor
namespace Go.Proofs.YtdoldaceehdifaaGreatDoor
theorem uG {p : Prop} (h : p:=by
 skip;cases h4 : t.toList.isEmpty
 ·cases h5 : (z.toList == t.toList)
  ·skip;exact lD
  ·skip;exact lD
 ·skip;exact lD) : p:=h
theorem BT {p : Prop} (h : p:=by
 exact lD) : p:=h
theorem ky {p : Prop} (h : p:=by
 go_enter Tryz.func155,Tryz.ntmps155;go_wp2_with fail;exact bodyPost_ret (v:=.tuple #[.agg #[.string ⟨#[]⟩,.int .i64 0,.string ⟨#[]⟩,.string ⟨#[]⟩,.bool false,.string ⟨#[]⟩,.bool false,.slice none 0 0],.bool false]) (by simp [results,Tryz.results155,go_sem]) rfl ⟨rfl,br _ _ _ _⟩) : p:=h
theorem vQ {p : Prop} (h : p:=by
 obtain rfl : len = k:=af
 have h5:=HF.out;have HO5:=HO;rw [List.take_of_length_le af] at h5 HO5;have h6:=(h5.lA (HV.out.below HB.out)).aH (w':=wr) (S':=fun k => Q k ∨ w.heap.size ≤ k) (fun _ _ _ _ => rfl) (fun _ _ s => .inl s);obtain ⟨a',c',e,hR⟩:=h6.own HO5.out aN al (fun g hg => .inr (HO5.out.lt g hg).1);subst e;have HR5:=ae hR;clear h5 h6 hR HF HO HO5;go_wp2;go_ret;exact ⟨a',_,c',rfl,by simpa using HR5.out,HB.out⟩) : p:=h
theorem uN {p : Prop} (h : p:=by
 have hF:=HF.out.push HX.out HVK.out;rw [← tg HX.out hq] at hF;have HF3:=ae hF;have HB3:=ae ((HB1.out.trans ((an _ _).mono HB1.out.size)).grown hgrow bF (fun g hg => (HO1.out.lt g hg).1));clear hown3 hgrow hF;go_wp2;exact ⟨⟨k + 1,_,_,by omega,by go_num,HO3,HF3,HB3⟩,by simp [intOf];omega⟩) : p:=h
theorem iV {p : Prop} (h : p:=by
 go_simp;refine hK _ _ (Rv.other al (Below.refl _ _)) ?_;with_reducible rfl) : p:=h
theorem A7 {p : Prop} (h : p:=by
 rintro e w1 ⟨r,rfl,hi,hb1⟩;have HI:=ae hi;have HB1:=upB HB hb1;clear hi hb1 c0 c1 c2 c3 c4 c5;cases r
 ·go_wp2;refine ⟨⟨k + 1,by omega,by go_num,fun j z hj hz => ?_,HB1.out⟩,by simp [intOf];omega⟩;by_cases e : j = k
  ·subst e;rw [HX.out] at hz;obtain rfl:=Option.some.inj hz;exact fun q => (by have:=HI.out.2 q;cases this)
  ·exact HE.out j z af hz
 ·go_wp2;go_ret;exact ⟨⟨k,rfl,.inl ⟨by omega,k,p,HX.out,HI.out.1 bS⟩⟩,HB1.out⟩) : p:=h
theorem A4 {p : Prop} (h : p:=by
 have Bk3 : Hid (w3.heap[w.heap.size]? = some (.cells #[.slice a1 l1 y1,.slice a2 l2 y2,.slice (some ⟨b,o,none⟩) l3 y3,.slice a4 l4 y4,.slice a5 l5 y5,.int .i64 c.now] 37 (0,0))):=by
  exact (hgrow.block _ bF (fun e => by have:=(HO1.out.lt _ e.symm).1;omega)).trans ((Below.heap_alloc _ _ _ (aa Bk.out)).trans Bk.out)
 clear hown3 hgrow;go_wp2;exact ⟨⟨k + 1,n + 1,by omega,by omega,by go_num,HO3,HB3,Bk3⟩,by simp [intOf];omega⟩) : p:=h
theorem uH {p : Prop} (h : p:=by
 have hq2 : (x.n.toList != t.toList) = false:=by simp [bne,hq]
 have HF3:=ae HF.out.up;rw [← CR HX.out hq] at HF3 HO1;go_wp2;exact ⟨⟨k + 1,ws,f,by omega,by go_num,HO1,HF3,HB1⟩,by simp [intOf];omega⟩) : p:=h
theorem A2 {p : Prop} (h : p:=by
 clear h2;go_wp2_with fail;refine aj av av ?_;repeat (go_big_quiet_step (first | (go_at_call 168;exact Calls.wide (HF.out _)) | fail))
 refine wpQuiet_nil ?_;rintro _ ⟨q,rfl⟩;go_wp2_with fail;exact ⟨⟨i + 1,_,by omega,rfl,by go_num,cD.old HU.out HBU.out HV.out HX.out,(q.b.block _ hgl).trans HG.out,HB.out.trans (q.b.mono HB.out.size)⟩,by simp [intOf];omega⟩) : p:=h
theorem A1 {p : Prop} (h : p:=by
 rw [← e1] at hs3;have HS1:=ae hs1;have HS2:=ae hs2';have HS3:=ae hs3;have HS4:=ae hs4;obtain ⟨o0,o1,o2,o3,o4,o5⟩:=cs6 bo5;have fo0:=au bo5 0;have fo1:=au bo5 1;have fo2:=au bo5 2;have fo3:=au bo5 3;have fo4:=au bo5 4;have fo5:=au bo5 5;clear hs1 hs2' hs3 hs4 bo5 hown5 hgrow e1;go_wp2;exact ⟨⟨k + 1,_,H',_,by omega,by go_num,HS1,HS2,HS3,HS4⟩,by simp [intOf];omega⟩) : p:=h
theorem A0 {p : Prop} (h : p:=by
 go_wp2_with fail;refine aj av av ?_;repeat (go_big_quiet_step (first | (go_at_call 168;exact Calls.wide (HF.out _)) | fail))
 refine wpQuiet_nil ?_;rintro _ ⟨q,rfl⟩;go_wp2_with fail;exact ⟨⟨i + 1,_,by omega,rfl,by go_num,cD.new HBU.out HV.out HS.out HX.out,(q.b.block _ hgl).trans HG.out,HB.out.trans (q.b.mono HB.out.size)⟩,by simp [intOf];omega⟩) : p:=h
theorem ku {p : Prop} (h : p:=by
 go_enter Tryz.func168,Tryz.ntmps168;go_wp2_with fail;go_ret;exact ⟨rfl,HB.out⟩) : p:=h
theorem AR {p : Prop} (h : p:=by
 rcases hown.2 with ⟨rfl,rfl⟩ | ⟨g,cap,cur,rfl,_,_,hnc,_⟩
 ·cases ax <;> simp [Builtin.append_,run_underlying ht,sizeOf,typeInfo,hi,Builtin.lenOf,Builtin.firstCells,loadCells,loadCellsFrom]
 ·cases ax <;> simp [Builtin.append_,run_underlying ht,sizeOf,typeInfo,hi,Builtin.lenOf,Builtin.firstCells,hnc,storeCells,loadCells,loadCellsFrom]) : p:=h
theorem uB {p : Prop} (h : p:=by
 obtain rfl : len = k:=af
 go_wp2;go_ret;exact ⟨⟨-1,rfl,.inr ⟨rfl,fun j p hj => HE.out j p mT hj⟩⟩,HB.out⟩) : p:=h
theorem uz {p : Prop} (h : p:=by
 have h2 : 0 < (vss[k]).length:=by rw [HV.out.all k _ h1];decide
 obtain ⟨g,e,_,_⟩:=HC.out _ _ (gg HV.out.all h1 (List.getElem?_eq_getElem h2));cases e;rfl) : p:=h
theorem xO {p : Prop} (h : p:=by
 clear h4 h2;go_enter Tryz.func155,Tryz.ntmps155;go_wp2_with fail;exact bodyPost_ret (v:=.tuple #[.agg #[.string (aA ++ n'),.int .i64 c',.string t,.string k',.bool x',.string n',.bool false,.slice none 0 0],.bool true]) (by simp [results,Tryz.results155,go_sem,aA]) rfl ⟨rfl,br _ _ _ _⟩) : p:=h
theorem xL {p : Prop} (h : p:=by
 have h4 : ps.take k ++ ps.drop (k + 1) = ps.take k:=by rw [List.drop_eq_nil_of_le af,List.append_nil]
 rw [h4];rw [h4] at hlt;have h1 : (ps.take k).length = k:=by rw [List.length_take];omega
 rw [fw (fun j z hz => hlt j z cG hz),h1]) : p:=h
theorem xJ {p : Prop} (h : p:=by
 rintro e w1 ⟨⟨r,rfl,hi⟩,hb⟩;have HB:=ae hb;clear hb;rcases hi with ⟨h0,h1⟩ | ⟨rfl,h1⟩
 ·have H1:=ae h1;clear h1;go_wp2;go_ret;exact ar.t H1.out HB.out
 ·have H1:=ae h1;clear h1;go_wp2;go_ret;exact ar.f (fun ⟨j,p,h2,h3⟩ => H1.out j p h2 h3) HB.out) : p:=h
theorem xF {p : Prop} (h : p:=by
 rintro e w1 ⟨r,rfl,hi,hb⟩;obtain ⟨HA0,HA1,HA2,hbx⟩:=lz hb;have Bk:=ae HA0;have Bv:=ae HA1;have Bn:=ae HA2;replace HB:=upB HB hbx;clear hb hbx HA0 HA1 HA2;have HI:=ae hi;clear hi;go_wp2;go_ret;exact ⟨r,rfl,HI.out,HB.out⟩) : p:=h
theorem xv {p : Prop} (h : p:=by
 unfold Oper.wp execOp;simp only [ho,resolve,invoke,builtin,Sem.run_bind,Sem.run_pure,Result.andThen_ok,List.map_toArray,List.map_cons,List.map_nil,hs,hx,hr];exact hK _ _ (h v w (by simpa using hown) (World.grownBy.refl _ _))) : p:=h
theorem pU {p : Prop} (h : p:=by
 rintro e w6 ⟨a',c',rfl,ho,hb6⟩;exact hK _ _ hb6 ⟨a',c',rfl,ho.bs (fun k hk s => ⟨s,hk⟩),Below.size hW⟩) : p:=h
theorem xu {p : Prop} (h : p:=by
 intro _ _ i1 i2 p q hp hq hpd hqd hpi hqi;obtain ⟨k1,hk1⟩:=hpi;obtain ⟨i3,n,b1,b2,b3,b4⟩:=(hT.2.2.2.1.1 _ _ hp).2.resolve_left hpd;obtain ⟨v,b5,b6⟩:=b4 k1 _ hk1;exact absurd rfl (jl hT hx hxv b5)) : p:=h
theorem xm {p : Prop} (h : p:=by
 have h1 : (ps.take k).length = k:=by rw [List.length_take];omega
 rw [List.getElem?_append_left af,List.getElem?_take,if_pos hj] at hz;have:=hr.lt hj hz hx;rw [hn] at this;exact this) : p:=h
theorem xj {p : Prop} (h : p:=by
 unfold Oper.wp execOp;simp only [ho,resolve,invoke,builtin,Sem.run_bind,Sem.run_pure,Result.andThen_ok,List.map_toArray,List.map_cons,List.map_nil,hs,hx,hr];exact hK _ _ (h v' w' h2 h3)) : p:=h
theorem pK {p : Prop} (h : p:=by
 rintro v w w' ⟨b,h1,h2,h3⟩ hb;exact ⟨b,h1,h2,(hb.block _ (aa h3)).trans h3⟩) : p:=h
theorem xd {p : Prop} (h : p:=by
 intro a' c' w' hR hb6;have hsw:=hW.size;exact hK _ _ hb6 ⟨a',c',rfl,hR.bs (fun k _ s => by show W.heap.size ≤ k;rcases s with rfl | s <;> omega)⟩) : p:=h
theorem w_ {p : Prop} (h : p:=by
 have h1:=fX x.toList t.toList;rw [h] at h1;have h2 : (t.toList == x.toList) = false:=bo (fun e => hn e.symm);rw [h2] at h1;simpa using h1) : p:=h
theorem pF {p : Prop} (h : p:=by
 rw [List.getElem?_eq_none af,List.getElem?_eq_none aN]) : p:=h
theorem wS {p : Prop} (h : p:=by
 refine ⟨i1,n,b1,b2,b3,fun q t ht => ?_⟩;obtain ⟨v,b5,b6⟩:=b4 q t ht;exact ⟨v,sH hT hx hxv hu hum b5,b6⟩) : p:=h
theorem wQ {p : Prop} (h : p:=by
 refine ⟨i1,n,b1,b2,b3,fun q r hr => ?_⟩;obtain ⟨v,b5,b6⟩:=b4 q r hr;exact ⟨v,sG hT hx hxv b5,b6⟩) : p:=h
theorem wP {p : Prop} (h : p:=by
 subst e;rw [hx] at a1;obtain rfl:=Option.some.inj a1;exact cC.ne hT.2.1 _ _ a3 (a4.trans (a5.symm.trans hxv))) : p:=h
theorem wO {p : Prop} (h : p:=by
 rw [List.getElem?_append_right af,h1,Nat.sub_self,List.getElem?_drop];exact List.getElem?_eq_getElem he) : p:=h
theorem fv {p : Prop} (h : p:=by
 exact u_) : p:=h
theorem gH {p : Prop} (h : p:=by
 refine Gi.Obl.plain rfl ?_;intro ac wg K lo hi hsz hW hpr hf hap hK;clear hsz hap hpr;have e1:=hf 1 al;simp [Gi.ai,List.lookup] at e1;clear hf;exact aO) : p:=h
theorem gG {p : Prop} (h : p:=by
 clear hf;obtain ⟨k0,k1,k2,k3,k4,k5⟩:=cs6 ((Below.block hW _ (aa Bk.out)).trans Bk.out);exact aO) : p:=h
theorem gF {p : Prop} (h : p:=by
 clear hf;obtain ⟨k0,k1,k2,k3,k4,k5⟩:=cs6 ((hW.block _ (aa Bk.out)).trans Bk.out);exact aO) : p:=h
theorem lD {p : Prop} (h : p:=by
 go_enter Tryz.func199,Tryz.ntmps199;go_wp2_with fail;go_ret;exact ⟨BP aN,HB.out⟩) : p:=h
theorem pj {p : Prop} (h : p:=by
 show World.ownsRow _ _ _ _ _ _ _;rw [tg HX.out hq,List.length_append,List.flatten_append];simpa using hown3) : p:=h
theorem we {p : Prop} (h : p:=by
 refine Gi.Obl.plain rfl ?_;intro ac wg K lo hi hsz hW hpr hf hap hK;clear hsz hap hpr;have hW : wr.grownBy wg v.ownBlock:=hW;have e3:=hf 3 al;simp [Gi.ai,List.lookup] at e3;clear hf;exact iV) : p:=h
theorem wc {p : Prop} (h : p:=by
 intro j u hu;cases j with
 | zero =>
  simp only [List.getElem?_cons_zero,Option.some.injEq] at hu;subst hu;rw [Addr.add_lit];exact ah (heap_alloc_new _ _) 0
 | succ j => simp at hu) : p:=h
theorem wb {p : Prop} (h : p:=by
 rw [hpl,hw];unfold bh;have h1 : (ps.take k).length = k:=by rw [List.length_take];omega
 rw [List.take_left' h1,List.drop_left' h1,List.set_eq_take_append_cons_drop,if_pos hk];simp) : p:=h
theorem vF {p : Prop} (h : p:=by
 rcases hown.2 with ⟨rfl,_⟩ | ⟨g,cap,cur,rfl,_⟩
 ·exact ⟨_,_,_,rfl⟩
 ·exact ⟨_,_,_,rfl⟩) : p:=h
theorem vD {p : Prop} (h : p:=by
 skip;by_cases h3 : c' ≤ c
 ·rw [decide_eq_true h3];exact BT
 ·rw [decide_eq_false h3];exact BT) : p:=h
theorem vB {p : Prop} (h : p:=by
 cases h0 : (k.toList == k'.toList)
 ·exact uG
 ·cases h1 : (x == x')
  ·exact uG
  ·exact uG) : p:=h
theorem u_ {p : Prop} (h : p:=by
 refine Obl.plain rfl ?_;intro ac wg K hsz hW hf hK;clear hsz;have e1:=hf 1 al;simp [ai,List.lookup] at e1;clear hf;exact aO) : p:=h
theorem eE {p : Prop} (h : p:=by
 have fr0:=au Br.out 0;have fr1:=au Br.out 1;have fr2:=au Br.out 2;have fr3:=au Br.out 3;have fr4:=au Br.out 4;have fr5:=au Br.out 5;exact And.intro fr0 (And.intro fr1 (And.intro fr2 (And.intro fr3 (And.intro fr4 fr5))))) : p:=h
theorem uq {p : Prop} (h : p:=by
 have hXs:=HBX.out.size;have HBW:=ae (HBX.out.trans (HK.out.low (X:=w.heap.size) hXs (fun k s => by rcases s with rfl | s <;> omega)));have BkR:=ae ((HK.out.block w.heap.size af (fun s => by rcases s with s | s <;> omega)).trans Bk.out);have hKs:=HK.out.size;exact And.intro hXs (And.intro HBW (And.intro BkR hKs))) : p:=h
theorem uo {p : Prop} (h : p:=by
 have g0:=(hb.block _ (aa HG0.out)).trans HG0.out;have g1:=(hb.block _ (aa HG1.out)).trans HG1.out;have g2:=(hb.block _ (aa HG2.out)).trans HG2.out;have HB':=ae (HB.out.trans (hb.mono HB.out.size));exact And.intro g0 (And.intro g1 (And.intro g2 HB'))) : p:=h
theorem ru {p : Prop} (h : p:=by
 have q0:=au g2 0;have q1:=au g2 1;have q2:=au g2 2;have q3:=au g2 3;have q4:=au g2 4;have q5:=au g2 5;have q6:=au g2 6;have q7:=au g2 7;have q8:=au g2 8;exact And.intro q0 (And.intro q1 (And.intro q2 (And.intro q3 (And.intro q4 (And.intro q5 (And.intro q6 (And.intro q7 q8)))))))) : p:=h
theorem Av {p : Prop} (h : p:=by
 have Br : Hid (W.heap[w.heap.size + 1]? = some (.cells #[.slice none 0 0,.slice none 0 0,.slice none 0 0,.slice none 0 0,.slice none 0 0,.int .i64 0] 37 (0,0))):=by rw [hW0];exact bK _ _ _
 have hWs : W.heap.size = w.heap.size + 1 + 1:=by rw [hW0];simp
 exact And.intro Br hWs) : p:=h
theorem tX {p : Prop} (h : p:=by
 have hbr : b < wr.heap.size:=Nat.lt_of_lt_of_le hb0 HBW.out.size;have hkr:=aa BkR.out;have hor:=aa Bo.out;exact And.intro hbr (And.intro hkr hor)) : p:=h
theorem tW {p : Prop} (h : p:=by
 have HR:=ae hr;have hvl : vs.length = len:=hr.1;have hlc : len ≤ 9223372036854775807:=Nat.le_trans hr.2.1 hr.2.2.1;exact And.intro HR (And.intro hvl hlc)) : p:=h
theorem Ai {p : Prop} (h : p:=by
 have hs2 : wr.heap.size + 1 < w2.heap.size:=by have:=hb2.size;simp at this;omega
 have hsl : ∀ k,(k = wr.heap.size + 1 ∨ wr.heap.size + 1 + 1 ≤ k) → wr.heap.size + 1 ≤ k:=fun k s => by omega
 exact And.intro hs2 hsl) : p:=h
theorem ux {p : Prop} (h : p:=by
 have HG : Hid (∀ zs : List ByteArray,x.zs = zs → zs ≠ [] → wr.heap.size ≤ g):=fun zs e hz => by subst e;have:=hsl _ (hg.lt hz).1;omega
 have HB4:=ae hb4;have HO4:=ae (bA HO.out hb4);exact And.intro HG (And.intro HB4 HO4)) : p:=h
end Go.Proofs.YtdoldaceehdifaaGreatDoor
namespace Go.Proofs.YtdoldaceehdifaaGreatDoor
open Go.RowKit
namespace Gi

abbrev Rs:=Option Tmp → World → World → Prop
structure Rel (R : Rs) (sp : Tmp) : Prop where
 refl : ∀ w,R none w w
 trans : ∀ {a b c},R none a b → R none b c → R none a c
 size : ∀ {a b},R none a b → a.heap.size ≤ b.heap.size
 drew : ∀ w,R none w w.drew
 sub : ∀ s {a b},R s a b → R none a b
 low : ∀ s {a b},¬ s = none → ¬ s = some sp → R s a b → Below a.heap.size a b
abbrev Fact:=Value → World → Nat → Nat → Prop
abbrev Ex:=Tmp → Option Tmp
def Fact.bw (R : Rs) (ex : Ex) (d : Option Tmp) (φ : Fact) : Prop:=∀ s,¬ s = none → ¬ s = d → (∀ t e,d = some t → ex t = some e → ¬ s = some e) → ∀ v w w' l h,φ v w l h → R s w w' → φ v w' l h
theorem Fact.bR (R : Rs) (ex : Ex) (d : Option Tmp) (c : Value) : Fact.bw R ex d (fun v _ _ _ => v = c):=fun _ _ _ _ _ _ _ _ _ h _ => h

def ai (ex : Ex) (d : Option Tmp) (a0 : Act) (known : List (Tmp × Fact)) (a : Act) (w : World) (lo hi : Tmp → Nat) (t : Tmp) : Prop :=
 match known.lookup t with
 | some φ => (ex t = none ∨ ex t = d) → φ (a.tmps.getD t undef) w (lo t) (hi t)
 | none => a.tmps.getD t undef = a0.tmps.getD t undef

def l_ (known : List (Tmp × Fact)) (lo hi : Tmp → Nat) (ts : List Tmp) : Prop:=∀ t ∈ ts,∀ t' ∈ ts,(known.lookup t).isSome = true → (known.lookup t').isSome = true → ¬ t = t' → hi t ≤ lo t' ∨ hi t' ≤ lo t
def Obl (R : Rs) (sp : Tmp) (ex : Ex) (P : Program) (ops : Array Oper) (Q : Exit → Act → World → Prop) (W : World) (a0 : Act) (known : List (Tmp × Fact)) (o : Oper) (φ : Fact) : Prop :=
 ∀ (a : Act) (w : World) (K : Act → World → Prop) (lo hi : Tmp → Nat),a.tmps.size = a0.tmps.size → R none W w → (o.dst = some sp → Below W.heap.size W w) → (∀ t ∈ o.looksAt ops,ai ex o.dst a0 known a w lo hi t) → l_ known lo hi (o.looksAt ops) →
  (∀ v w',R o.dst w w' → φ v w' w.heap.size w'.heap.size → K (a.put o.dst v) w') → if Region.wanted o (yielded ops a.tmps) = true then o.wp P a w K Q else K (a.put o.dst undef) w

theorem Obl.plain {R : Rs} {sp : Tmp} {ex : Ex} {P : Program} {ops : Array Oper} {Q : Exit → Act → World → Prop} {W : World} {a0 : Act} {known : List (Tmp × Fact)} {o : Oper} {φ : Fact} (hg : o.guard = none)
  (h : ∀ (a : Act) (w : World) (K : Act → World → Prop) (lo hi : Tmp → Nat),a.tmps.size = a0.tmps.size → R none W w → (o.dst = some sp → Below W.heap.size W w) → (∀ t ∈ iz o,ai ex o.dst a0 known a w lo hi t) → l_ known lo hi (iz o) → (∀ v w',R o.dst w w' → φ v w' w.heap.size w'.heap.size → K (a.put o.dst v) w') → o.wp P a w K Q) : Obl R sp ex P ops Q W a0 known o φ:=by
 intro a w K lo hi h1 h2 h6 h3 h5 h4;have hw : Region.wanted o (yielded ops a.tmps) = true:=by simp [Region.wanted,hg]
 rw [if_pos hw];have hs : ∀ t ∈ iz o,t ∈ o.looksAt ops:=fun t ht => by unfold Oper.looksAt;exact List.mem_append_left _ ht
 exact h a w K lo hi h1 h2 h6 (fun t ht => h3 t (hs t ht)) (fun t ht t' ht' => h5 t (hs t ht) t' (hs t' ht')) h4

def aE (a0 : Act) (known : List (Tmp × Fact)) (x : Tmp → Value) : Act:=known.foldr (fun p b => b.put (some p.1) (x p.1)) a0
def Dt (known : List (Tmp × Fact)) (lo hi : Tmp → Nat) : Prop:=∀ p ∈ known,∀ q ∈ known,¬ p.1 = q.1 → hi p.1 ≤ lo q.1 ∨ hi q.1 ≤ lo p.1
def Fin (R : Rs) (ex : Ex) (P : Program) (ops : Array Oper) (Q : Exit → Act → World → Prop) (W : World) (a0 : Act) (back : Option Oper) (known : List (Tmp × Fact)) : Prop :=
 ∀ (x : Tmp → Value) (w : World) (lo hi : Tmp → Nat),R none W w → (∀ p ∈ known,ex p.1 = none → p.2 (x p.1) w (lo p.1) (hi p.1)) → Dt known lo hi → eH P ops Q back (aE a0 known x) w

def kn (d : Option Tmp) (φ : Fact) (known : List (Tmp × Fact)) : List (Tmp × Fact):=match d with | some t => (t,φ) :: known | none => known

def aw (R : Rs) (sp : Tmp) (ex : Ex) (P : Program) (ops : Array Oper) (Q : Exit → Act → World → Prop) (W : World) (a0 : Act) (back : Option Oper) : List Oper → List (Tmp × Fact) → Prop
 | [],known => Fin R ex P ops Q W a0 back known
 | o :: rest,known => ∃ φ : Fact,φ.bw R ex o.dst ∧ Obl R sp ex P ops Q W a0 known o φ ∧ aw R sp ex P ops Q W a0 back rest (kn o.dst φ known)
theorem aw.step {R : Rs} {sp : Tmp} {ex : Ex} {P : Program} {ops : Array Oper} {Q : Exit → Act → World → Prop} {W : World} {a0 : Act} {back : Option Oper} {o : Oper} {rest : List Oper} {known : List (Tmp × Fact)} {t : Tmp} (φ : Fact) (hd : o.dst = some t) (hφ : φ.bw R ex (some t)) (ho : Obl R sp ex P ops Q W a0 known o φ)
  (h : aw R sp ex P ops Q W a0 back rest ((t,φ) :: known)) : aw R sp ex P ops Q W a0 back (o :: rest) known:=⟨φ,by rw [hd];exact hφ,ho,by rw [hd];exact h⟩
theorem aw.aq {R : Rs} {sp : Tmp} {ex : Ex} {P : Program} {ops : Array Oper} {Q : Exit → Act → World → Prop} {W : World} {a0 : Act} {back : Option Oper} {o : Oper} {rest : List Oper} {known : List (Tmp × Fact)} {t : Tmp} (c : Value) (hd : o.dst = some t) (ho : Obl R sp ex P ops Q W a0 known o (fun v _ _ _ => v = c))
  (h : aw R sp ex P ops Q W a0 back rest ((t,fun v _ _ _ => v = c) :: known)) : aw R sp ex P ops Q W a0 back (o :: rest) known:=aw.step _ hd (Fact.bR R ex _ c) ho h
theorem aw.done {R : Rs} {sp : Tmp} {ex : Ex} {P : Program} {ops : Array Oper} {Q : Exit → Act → World → Prop} {W : World} {a0 : Act} {back : Option Oper} {known : List (Tmp × Fact)} (h : Fin R ex P ops Q W a0 back known) : aw R sp ex P ops Q W a0 back [] known:=h

section
variable {R : Rs} {sp : Tmp} {ex : Ex} {P : Program} {ops : Array Oper} {Q : Exit → Act → World → Prop} {W : World} {a0 : Act} {back : Option Oper}

def knAll : List (Tmp × Fact) → List Oper → List Fact → List (Tmp × Fact)
 | known,o :: l,φ :: φs => knAll (kn o.dst φ known) l φs
 | known,_,_ => known
theorem bT (known : List (Tmp × Fact)) (φs : List Fact) : knAll known [] φs = known:=by cases φs <;> rfl

theorem aw.spec : ∀ (l : List Oper) (known : List (Tmp × Fact)),aw R sp ex P ops Q W a0 back l known → ∃ φs : List Fact,φs.length = l.length ∧
  (∀ (i : Nat) (o : Oper) (φ : Fact),l[i]? = some o → φs[i]? = some φ → φ.bw R ex o.dst ∧ Obl R sp ex P ops Q W a0 (knAll known (l.take i) (φs.take i)) o φ) ∧ Fin R ex P ops Q W a0 back (knAll known l φs)
 | [],known,h => ⟨[],rfl,fun i o φ h => by simp at h,by rw [bT];exact h⟩
 | o :: l,known,h => by
  exact uO

theorem gL (d : Option Tmp) (φ : Fact) (known : List (Tmp × Fact)) (t : Tmp) : (kn d φ known).lookup t = if d = some t then some φ else known.lookup t:=by
 exact xw

theorem bW : ∀ (l : List Oper) (φs : List Fact) (known : List (Tmp × Fact)) {t : Tmp} {φ : Fact},(knAll known l φs).lookup t = some φ →
  (∃ (i : Nat) (o : Oper),l[i]? = some o ∧ o.dst = some t ∧ φs[i]? = some φ) ∨ known.lookup t = some φ
 | [],φs,known,t,φ,h => by rw [bT] at h;exact .inr h
 | o :: l,[],known,t,φ,h => .inr h
 | o :: l,ψ :: φs,known,t,φ,h => by
  exact xN
theorem bY : ∀ (l : List Oper) (φs : List Fact) (known : List (Tmp × Fact)) {t : Tmp},(knAll known l φs).lookup t = none →
  known.lookup t = none ∧ ∀ (i : Nat) (o : Oper) (φ : Fact),l[i]? = some o → φs[i]? = some φ → o.dst ≠ some t
 | [],φs,known,t,h => by rw [bT] at h;exact ⟨h,fun i o φ h => by simp at h⟩
 | o :: l,[],known,t,h => ⟨h,fun i o φ _ h => by simp at h⟩
 | o :: l,ψ :: φs,known,t,h => by
  exact AY
theorem c_ : ∀ (l : List Oper) (φs : List Fact) (known : List (Tmp × Fact)) {p : Tmp × Fact},p ∈ knAll known l φs →
  (∃ (i : Nat) (o : Oper),l[i]? = some o ∧ o.dst = some p.1 ∧ φs[i]? = some p.2) ∨ p ∈ known
 | [],φs,known,p,h => by rw [bT] at h;exact .inr h
 | o :: l,[],known,p,h => .inr h
 | o :: l,ψ :: φs,known,p,h => by
  exact AT

theorem cR (a0 : Act) (x : Tmp → Value) : ∀ known,(aE a0 known x).tmps.size = a0.tmps.size
 | [] => rfl
 | p :: l => by unfold aE;rw [List.foldr_cons,size_put];exact cR a0 x l
theorem cS (a0 : Act) (x : Tmp → Value) : ∀ known,(aE a0 known x).defers = a0.defers
 | [] => rfl
 | p :: l => by unfold aE;rw [List.foldr_cons,ef];exact cS a0 x l
theorem fQ (a0 a : Act) (known : List (Tmp × Fact)) (hk : ∀ p ∈ known,p.1 < a0.tmps.size) (t : Tmp) (h : (∀ p ∈ known,p.1 ≠ t) → a.tmps.getD t undef = a0.tmps.getD t undef) :
  (aE a0 known (fun t => a.tmps.getD t undef)).tmps.getD t undef = a.tmps.getD t undef:=by
 exact A_
structure At (R : Rs) (sp : Tmp) (ex : Ex) (front : List Oper) (φs : List Fact) (W : World) (a0 : Act) (listed : Array Bool) (a : Act) (w : World) (lo hi : Tmp → Nat) : Prop where
 size : a.tmps.size = a0.tmps.size
 defers : a.defers = a0.defers
 below : R none W w
 pre : (∀ (i : Nat) (p : Oper),front[i]? = some p → p.dst = some sp → listed.getD i false = false) → Below W.heap.size W w
 known : ∀ (i : Nat) (o : Oper) (φ : Fact),front[i]? = some o → φs[i]? = some φ → ∀ t,o.dst = some t → listed.getD i false = true → (∀ e,ex t = some e → ∀ (i' : Nat) (p' : Oper),front[i']? = some p' → p'.dst = some e → listed.getD i' false = false) → φ (a.tmps.getD t undef) w (lo t) (hi t)
 top : ∀ (i : Nat) (o : Oper),front[i]? = some o → ∀ t,o.dst = some t → listed.getD i false = true → hi t ≤ w.heap.size
 apart : ∀ (i : Nat) (o : Oper) (i' : Nat) (o' : Oper),front[i]? = some o → front[i']? = some o' → ∀ t t',o.dst = some t → o'.dst = some t' → listed.getD i false = true → listed.getD i' false = true → ¬ t = t' → hi t ≤ lo t' ∨ hi t' ≤ lo t
 other : ∀ t,(∀ (i : Nat) (o : Oper),front[i]? = some o → o.dst = some t → listed.getD i false = false) → a.tmps.getD t undef = a0.tmps.getD t undef

theorem At.step {front : List Oper} {φs : List Fact} {listed : Array Bool} {a : Act} {w w' : World} {lo hi : Tmp → Nat} {j : Nat} {o : Oper} {φ : Fact} {v : Value} (hR : Rel R sp) (hds : ¬ o.dst = none) (h : At R sp ex front φs W a0 listed a w lo hi)
  (hn : (front.filterMap (·.dst)).Nodup) (hin : ∀ o ∈ front,∀ t,o.dst = some t → t < a0.tmps.size) (hmono : ∀ (i : Nat) (o : Oper) (φ : Fact),front[i]? = some o → φs[i]? = some φ → φ.bw R ex o.dst)
  (ho : front[j]? = some o) (hφ : φs[j]? = some φ) (hj : j < listed.size) (hb : R o.dst w w') (hv : φ v w' w.heap.size w'.heap.size) : ∃ lo hi,At R sp ex front φs W a0 (listed.setIfInBounds j true) (a.put o.dst v) w' lo hi:=by
 have old : ∀ (i : Nat) (p : Oper) t,front[i]? = some p → p.dst = some t → ¬ j = i → (listed.setIfInBounds j true).getD i false = true → ¬ o.dst = some t ∧ listed.getD i false = true:=fun i p t hp ht e hl =>
  ⟨fun hd => e (dS front hn ho hp hd ht),by simpa [Array.getD_eq_getD_getElem?,Array.getElem?_setIfInBounds,e] using hl⟩
 refine ⟨fun t => if o.dst = some t then w.heap.size else lo t,fun t => if o.dst = some t then w'.heap.size else hi t,(size_put _ _ _).trans h.size,(ef _ _ _).trans h.defers,hR.trans h.below (hR.sub _ hb),fun hx => ?_,?_,?_,?_,?_⟩
 ·have hns : ¬ o.dst = some sp:=fun e => by
   have:=hx j o ho e;simp [Array.getD_eq_getD_getElem?,hj] at this
  have h1:=h.pre (fun i p hp hd => by
   have h2:=hx i p hp hd;have e : ¬ j = i:=fun e => by subst e;exact hns (by rw [Option.some.inj (ho.symm.trans hp)];exact hd)
   simpa [Array.getD_eq_getD_getElem?,Array.getElem?_setIfInBounds,e] using h2)
  exact h1.trans ((hR.low _ hds hns hb).mono h1.size)
 ·intro i p ψ hp hψ t ht hl hx;by_cases e : j = i
  ·subst e;obtain rfl : o = p:=Option.some.inj (ho.symm.trans hp);obtain rfl : φ = ψ:=Option.some.inj (hφ.symm.trans hψ);simp only [if_pos ht];exact wI
  ·obtain ⟨hne,hl'⟩:=old i p t hp ht e hl;simp only [if_neg hne];have hxo : ∀ e,ex t = some e → ∀ (i' : Nat) (p' : Oper),front[i']? = some p' → p'.dst = some e → ¬ j = i' ∧ listed.getD i' false = false:=fun e9 he i' p' hp' hd' => by
    have h9:=hx e9 he i' p' hp' hd';by_cases ej : j = i'
    ·subst ej;simp [Array.getD_eq_getD_getElem?,hj] at h9
    ·exact ⟨ej,by simpa [Array.getD_eq_getD_getElem?,Array.getElem?_setIfInBounds,ej] using h9⟩
   have h1:=hmono i p ψ hp hψ o.dst hds (fun e9 => hne (e9.trans ht)) (fun t9 e9 h8 h9 hd => by
    obtain rfl : t = t9:=Option.some.inj (ht.symm.trans h8);exact (hxo e9 h9 j o ho hd).1 rfl) _ _ _ _ _ (h.known i p ψ hp hψ t ht hl' (fun e9 he i' p' hp' hd' => (hxo e9 he i' p' hp' hd').2)) hb
   exact vO
 ·intro i p hp t ht hl;by_cases e : j = i
  ·subst e;obtain rfl : o = p:=Option.some.inj (ho.symm.trans hp);simp only [if_pos ht];exact Nat.le_refl _
  ·obtain ⟨hne,hl'⟩:=old i p t hp ht e hl;simp only [if_neg hne];exact Nat.le_trans (h.top i p hp t ht hl') (hR.size (hR.sub _ hb))
 ·intro i p i' p' hp hp' t t' ht ht' hl hl' hne;by_cases e : j = i
  ·subst e;obtain rfl : o = p:=Option.some.inj (ho.symm.trans hp);by_cases e' : j = i'
   ·subst e';obtain rfl : o = p':=Option.some.inj (ho.symm.trans hp');exact absurd (Option.some.inj (ht.symm.trans ht')) hne
   ·obtain ⟨hne',hl''⟩:=old i' p' t' hp' ht' e' hl';simp only [if_pos ht,if_neg hne'];exact .inr (h.top i' p' hp' t' ht' hl'')
  ·obtain ⟨hne1,hl1⟩:=old i p t hp ht e hl;by_cases e' : j = i'
   ·subst e';obtain rfl : o = p':=Option.some.inj (ho.symm.trans hp');simp only [if_pos ht',if_neg hne1];exact .inl (h.top i p hp t ht hl1)
   ·obtain ⟨hne',hl''⟩:=old i' p' t' hp' ht' e' hl';simp only [if_neg hne1,if_neg hne'];exact h.apart i p i' p' hp hp' t t' ht ht' hl1 hl'' hne
 ·exact A8

theorem Fin.last {front : List Oper} {φs : List Fact} {listed : Array Bool} {a : Act} {w : World} {lo hi : Tmp → Nat} (hf : Fin R ex P ops Q W a0 back (knAll [] front φs)) (hlen : φs.length = front.length) (hin : ∀ o ∈ front,∀ t,o.dst = some t → t < a0.tmps.size)
  (h : At R sp ex front φs W a0 listed a w lo hi) (hall : ∀ i,i < front.length → listed.getD i false = true) : eH P ops Q back a w:=by
 have h1:=hf (fun t => a.tmps.getD t undef) w lo hi h.below (fun p hp hpe => by
  rcases c_ front φs [] hp with ⟨i,o,h1,h2,h3⟩ | h1
  ·exact h.known i o p.2 h1 h3 p.1 h2 (hall i (List.getElem?_eq_some_iff.1 h1).1) (fun e he => by rw [hpe] at he;cases he)
  ·simp at h1) (fun p hp q hq hne => by
  rcases c_ front φs [] hp with ⟨i,o,h1,h2,h3⟩ | h1
  ·rcases c_ front φs [] hq with ⟨i',o',g1,g2,g3⟩ | g1
   ·exact h.apart i o i' o' h1 g1 p.1 q.1 h2 g2 (hall i (List.getElem?_eq_some_iff.1 h1).1) (hall i' (List.getElem?_eq_some_iff.1 g1).1) hne
   ·simp at g1
  ·simp at h1)
 exact Bu

theorem bZ {front : List Oper} {φs : List Fact} (hR : Rel R sp) (hds : ∀ o ∈ front,¬ o.dst = none) (hops : ops = (front ++ back.toList).toArray) (hB : growB a0.tmps.size front back = true) (hlen : φs.length = front.length)
  (hs : ∀ (i : Nat) (o : Oper) (φ : Fact),front[i]? = some o → φs[i]? = some φ → φ.bw R ex o.dst ∧ Obl R sp ex P ops Q W a0 (knAll [] (front.take i) (φs.take i)) o φ) (hf : Fin R ex P ops Q W a0 back (knAll [] front φs)) :
  ∀ (fuel : Nat) (listed : Array Bool) (a : Act) (w : World),listed.size = ops.size → listed.toList.count false ≤ fuel → (∀ o,back = some o → listed.getD front.length false = false) → (∃ lo hi,At R sp ex front φs W a0 listed a w lo hi) → wpAny P .any ops Q fuel listed a w:=by
 obtain ⟨hn,hin,hdep,hlt,hback⟩:=ct hB;rw [← hops] at hdep hlt;have hsz : ops.size = front.length + back.toList.length:=by rw [hops];simp
 have hend : ∀ (listed : Array Bool) (a : Act) (w : World),listed.size = ops.size → (∀ i,i < ops.size → listed.getD i false = true) → (∀ o,back = some o → listed.getD front.length false = false) → (∃ lo hi,At R sp ex front φs W a0 listed a w lo hi) → Q .normal a w:=by
  rintro listed a w hz hall hb ⟨lo,hi,h⟩;have h1:=hf.last hlen hin h (fun i hi => hall i af);exact pZ
 intro fuel;induction fuel with
 | zero =>
  intro listed a w hz hc hb h;have hall : ∀ i,i < ops.size → listed.getD i false = true:=fun i hi => di af i af;refine ⟨?_,hend listed a w hz hall hb h⟩
  cases hr : Region.ready .any ops listed with
  | nil => rfl
  | cons j js =>
   have hm : j ∈ Region.ready .any ops listed:=by rw [hr];simp
   obtain ⟨h1,o,ho,-⟩:=mem_ready.1 hm;have hj:=(Array.getElem?_eq_some_iff.1 ho).1;rw [← bL af,hall j hj] at h1
   cases h1
 | succ fuel ih =>
  intro listed a w hz hc hb hlh;refine ⟨fun hr => hend listed a w hz (eo hz hlt hr) hb hlh,fun j hj => ?_⟩;obtain ⟨lo,hi,h⟩:=hlh;obtain ⟨hun,o,ho,hall⟩:=mem_ready.1 hj;have hjs : j < ops.size:=(Array.getElem?_eq_some_iff.1 ho).1;have hcs:=count_set (listed:=listed) (i:=j) af hun
  by_cases hjf : j < front.length
  ·have hof : front[j]? = some o:=by rw [hops] at ho;simpa [List.getElem?_append_left hjf] using ho
   have hφ : φs[j]? = some (φs[j]'(by omega)):=List.getElem?_eq_getElem _;obtain ⟨hm,hob⟩:=hs j o _ hof hφ
   have hfacts : ∀ t ∈ o.looksAt ops,ai ex o.dst a0 (knAll [] (front.take j) (φs.take j)) a w lo hi t:=by
    intro t ht;unfold ai
    cases hk : (knAll [] (front.take j) (φs.take j)).lookup t with
    | some φ =>
     rcases bW _ _ _ hk with ⟨i,p,h1,h2,h3⟩ | h1
     ·have hij : i < j:=by have:=(List.getElem?_eq_some_iff.1 h1).1;simp at this;omega
      rw [List.getElem?_take,if_pos hij] at h1 h3;obtain ⟨-,e,he,hon,hbi⟩:=hdep j o hof t ht i p h1 h2;have hl:=hall e he hbi;rw [hon] at hl;intro hex;refine h.known i p φ h1 h3 t h2 hl (fun e9 he i' p' hp' hd' => ?_)
      rcases hex with h9 | h9
      ·rw [h9] at he;cases he
      ·have : i' = j:=dS front hn hp' hof hd' (h9.symm.trans he);subst this;rw [bL af];exact hun
     ·simp at h1
    | none =>
     refine h.other t (fun i p hp hd => ?_)
     exfalso
     obtain ⟨hij,-⟩:=hdep j o hof t ht i p hp hd;have hi:=(List.getElem?_eq_some_iff.1 hp).1;exact (bY _ _ _ hk).2 i p (φs[i]'(by omega)) mQ mU hd
   have hfind : ∀ t ∈ o.looksAt ops,((knAll [] (front.take j) (φs.take j)).lookup t).isSome = true → ∃ (i : Nat) (p : Oper),front[i]? = some p ∧ p.dst = some t ∧ listed.getD i false = true:=by
    intro t ht hk;obtain ⟨φ,hφ'⟩:=Option.isSome_iff_exists.1 hk
    rcases bW _ _ _ hφ' with ⟨i,p,h1,h2,h3⟩ | h1
    ·have hij : i < j:=by have:=(List.getElem?_eq_some_iff.1 h1).1;simp at this;omega
     rw [List.getElem?_take,if_pos hij] at h1;obtain ⟨-,e,he,hon,hbi⟩:=hdep j o hof t ht i p h1 h2;have hl:=hall e he hbi;rw [hon] at hl;exact ⟨i,p,h1,h2,hl⟩
    ·simp at h1
   have hap : l_ (knAll [] (front.take j) (φs.take j)) lo hi (o.looksAt ops):=by
    intro t ht t' ht' hk hk' hne;obtain ⟨i,p,h1,h2,h3⟩:=hfind t ht hk;obtain ⟨i',p',g1,g2,g3⟩:=hfind t' ht' hk';exact h.apart i p i' p' h1 g1 t t' h2 g2 h3 g3 hne
   have hpre : o.dst = some sp → Below W.heap.size W w:=fun hd => h.pre (fun i p hp hd' => by
    have : i = j:=dS front hn hp hof hd' hd;subst this;rw [bL af]
    exact hun)
   have h1:=hob a w (wpAny P .any ops Q fuel (listed.setIfInBounds j true)) lo hi h.size h.below hpre hfacts hap (fun v w' hbw hv => by
    refine ih _ _ _ g8 af (fun o' ho' => ?_) (h.step hR (hds o (List.mem_of_getElem? hof)) hn hin (fun i o φ h1 h2 => (hs i o φ h1 h2).1) hof hφ af hbw hv);have h2:=hb o' ho'
    have e : ¬ j = front.length:=af
    simpa [Array.getD_eq_getD_getElem?,Array.getElem?_setIfInBounds,e] using h2)
   unfold wpOp;rw [ho]
   simp only
   split
   ·rename_i hw;rw [if_pos hw] at h1;exact .inl h1
   ·rename_i hw;rw [if_neg hw] at h1;exact h1
  ·cases hk : back with
   | none => rw [hk] at hsz;simp at hsz;omega
   | some b =>
    have hjn : j = front.length:=by rw [hk] at hsz;simp at hsz;omega
    subst hjn
    have hob : o = b:=by
     rw [hops,hk] at ho
     simp at ho
     exact ho.symm
    subst hob
    have hfl : ∀ i,i < front.length → listed.getD i false = true:=fun i hi => by
     obtain ⟨e,he,hon,hbi⟩:=hback o hk i hi;have:=hall e he hbi
     rwa [hon] at this
    have h1:=hf.last hlen hin h hfl;rw [hk] at h1
    have h2:=h1 (wpAny P .any ops Q fuel (listed.setIfInBounds front.length true)) (fun a' w' hq => by
     have hr : Region.ready .any ops (listed.setIfInBounds front.length true) = []:=by
      cases hr : Region.ready .any ops (listed.setIfInBounds front.length true) with
      | nil => rfl
      | cons i is =>
       have hm : i ∈ Region.ready .any ops (listed.setIfInBounds front.length true):=by rw [hr];simp
       obtain ⟨h3,o',ho',-⟩:=mem_ready.1 hm;have hi:=(Array.getElem?_eq_some_iff.1 ho').1
       exfalso
       by_cases e : front.length = i
       ·subst e
        simp [Array.getD_eq_getD_getElem?,show front.length < listed.size from by omega] at h3
       ·have h4:=hfl i (by rw [hk] at hsz;simp at hsz;omega);rw [bL af] at h4
        simp [Array.getD_eq_getD_getElem?,e] at h3 h4
        rw [h3] at h4
        cases h4
     cases fuel with
     | zero => exact ⟨hr,hq⟩
     | succ fuel => exact ⟨fun _ => hq,fun i hi => by rw [hr] at hi;cases hi⟩)
    unfold wpOp;rw [ho]
    simp only
    split
    ·rename_i hw;rw [if_pos hw] at h2;exact .inl h2
    ·rename_i hw;rw [if_neg hw] at h2;exact h2
end

theorem bf {R : Rs} {sp : Tmp} {ex : Ex} (hR : Rel R sp) {P : Program} {id : Nat} {Q : Exit → Act → World → Prop} {a0 : Act} {W : World} {l : List Oper} {front : List Oper} {back : Option Oper} (hm : P.follows .mixedOrders = true) (hl : l = front ++ back.toList) (hds : front.all (fun o => o.dst.isSome) = true) (hB : growB a0.tmps.size front back = true)
  (h : aw R sp ex P l.toArray Q W a0 back front []) : (Code.region id l.toArray true).wp P Q a0 W:=by
 obtain ⟨φs,hlen,hs,hf⟩:=aw.spec _ _ h;refine wp_region_any hm (bZ hR (fun o ho e => by have:=List.all_eq_true.1 hds o ho;rw [e] at this;cases this) (by rw [hl]) hB hlen hs hf _ _ _ _ aN ?_ (fun o ho => ?_) ⟨fun _ => 0,fun _ => 0,rfl,rfl,hR.drew _,fun _ => (Below.refl _ _).drew,fun i o φ h1 h2 t ht hx _ => ?_,fun i o h1 t ht hx => ?_,fun i o i' o' h1 h2 t t' ht ht' hx => ?_,fun t _ => rfl⟩)
 ·exact np
 ·exact a_ _ _
 ·rw [a_] at hx;cases hx
 ·rw [a_] at hx;cases hx
 ·rw [a_] at hx;cases hx
theorem aT {R : Rs} {sp : Tmp} {ex : Ex} (hR : Rel R sp) {P : Program} {id : Nat} {Q : Exit → Act → World → Prop} {a0 : Act} {W : World} {l : List Oper} {front : List Oper} {last : Oper} (hm : P.follows .mixedOrders = true) (hf : l.dropLast = front) (hb : l.getLast? = some last) (hds : front.all (fun o => o.dst.isSome) = true) (hB : growB a0.tmps.size front (some last) = true)
  (h : aw R sp ex P l.toArray Q W a0 (some last) front []) : (Code.region id l.toArray true).wp P Q a0 W:=by
 refine bf hR hm ?_ hds hB h;exact pG

def Bel (w w' : World) : Prop:=Below w.heap.size w w'
theorem Bel.rel (sp : Tmp) : Rel (fun _ => Bel) sp:=⟨fun _ => Below.refl _ _,fun h k => Below.trans h (Below.mono k (Below.size h)),fun h => Below.size h,fun _ => (Below.refl _ _).drew,fun _ _ _ h => h,fun _ _ _ _ _ h => h⟩
end Gi
end Go.Proofs.YtdoldaceehdifaaGreatDoor

namespace Go.Proofs.YtdoldaceehdifaaGreatDoor
open Go.RowKit
namespace Rc
open Mk

structure Sm (c : Cl) : Prop where
 n : c.ns.length ≤ 8
 ns : ∀ (j : Nat) x,c.ns[j]? = some x → x.zs.length ≤ 8001
 k : c.ks.length ≤ 8
 v : c.vs.length ≤ 8
 vs : ∀ (j : Nat) x,c.vs[j]? = some x → x.zs.length ≤ 8001
 x : c.xs.length ≤ 8
 p : c.ps.length ≤ 8
 ps : ∀ (j : Nat) x,c.ps[j]? = some x → x.zs.length ≤ 8001
theorem aC.sm {c : Cl} (h : aC c) : Sm c:=by
 obtain ⟨_,⟨⟨h1,h2,_⟩,⟨h3,_⟩,⟨h4,h5,_⟩,⟨h6,_⟩,⟨h7,h8,_⟩⟩,_⟩:=h;refine ⟨by omega,fun j x hj => ?_,by omega,by omega,fun j x hj => ?_,by omega,by omega,fun j x hj => ?_⟩
 ·have:=(h2 j x hj).2.2.2.2.2.1;omega
 ·have:=(gK (h5 j x hj).2.2.2.2.2.2).1;omega
 ·have:=(h8 j x hj).2.2.2.1.1;omega

def dr (r : List Fv) : List Value:=r.map fun f => f.val.getD undef
def eK (r : List Fv) : Prop:=∀ (i : Nat) f,r[i]? = some f → ∃ v,f.val = some v
theorem Fv.Is.val {w : World} {f : Fv} {v u : Value} (h : f.Is w v) (hu : f.val = some u) : v = u ∧ f.Fr w 0 (fun _ => False) v:=by
 cases f with
 | s t => cases hu;exact ⟨h.1,h⟩
 | i n => cases hu;exact ⟨h,h⟩
 | b x => cases hu;exact ⟨h,h⟩
 | l zs => cases hu
theorem Fv.Fr.any {w w' : World} {f : Fv} {v u : Value} {h h' : Nat} {S S' : Nat → Prop} (k : f.Fr w h S v) (hu : f.val = some u) : f.Fr w' h' S' v:=by
 cases f with
 | l zs => cases hu
 | _ => exact k
theorem yx {r : List Fv} (hf : eK r) {i : Nat} {f : Fv} (hi : r[i]? = some f) : ∃ u,f.val = some u ∧ (dr r)[i]? = some u:=by
 obtain ⟨u,hu⟩:=hf i f hi;exact ⟨u,hu,by rw [dr,List.getElem?_map,hi];simp [hu]⟩
theorem sQ {r : List Fv} (hf : eK r) {i : Nat} {u : Value} (hi : (dr r)[i]? = some u) : ∃ f,r[i]? = some f ∧ f.val = some u:=by
 rw [dr,List.getElem?_map] at hi;obtain ⟨f,h1,h2⟩:=Option.map_eq_some_iff.1 hi;obtain ⟨v,hv⟩:=hf i f h1;rw [hv] at h2;exact ⟨f,h1,by rw [hv];simpa using h2⟩
section
variable {w : World} {a : Option Addr} {len cap m : Nat} {rs : List (List Fv)}
theorem gh (hm : ∀ (j : Nat) r,rs[j]? = some r → r.length = m) : ∀ (j : Nat) vs,(rs.map dr)[j]? = some vs → vs.length = m:=by
 intro j vs hj;rw [List.getElem?_map] at hj;obtain ⟨r,h1,rfl⟩:=Option.map_eq_some_iff.1 hj;rw [dr,List.length_map];exact hm j r h1
theorem kK {b o : Nat} (h : aI w (some ⟨b,o,none⟩) len cap m rs) (hm : ∀ (j : Nat) r,rs[j]? = some r → r.length = m ∧ eK r) : ∀ (k : Nat) u,(rs.map dr).flatten[k]? = some u → w.cell? ((⟨b,o,none⟩ : Addr).add k) = some u:=by
 intro k u hk;obtain ⟨j,i,vs,h1,h2,rfl⟩:=gd (gh fun j r hj => (hm j r hj).1) hk;rw [List.getElem?_map] at h1;obtain ⟨r,h3,rfl⟩:=Option.map_eq_some_iff.1 h1;obtain ⟨f,h4,h5⟩:=sQ (hm j r h3).2 h2;rcases h.2.2.2 with rfl | ⟨b',o',e,_,hc⟩
 ·simp at h3
 ·cases e;obtain ⟨v,h6,h7⟩:=hc j r h3 i f h4;rw [Addr.add_lit,← Nat.add_assoc,h6,(h7.val h5).1]
theorem eZ (h : aI w a len cap m rs) (hm : ∀ (j : Nat) r,rs[j]? = some r → r.length = m ∧ eK r) (w' : World) (S : Nat → Prop) : aS w' S m rs (rs.map dr) (fun _ _ => 0):=by
 refine ⟨by simp,gh fun j r hj => (hm j r hj).1,fun j r hj => (hm j r hj).1,fun j r vs hj hv i f hi => ?_,fun j r i zs j' r' i' zs' hj hi => ?_⟩
 ·rw [List.getElem?_map,hj] at hv;cases hv;obtain ⟨u,h1,h2⟩:=yx (hm j r hj).2 hi;rcases h.2.2.2 with rfl | ⟨b',o',e,_,hc⟩
  ·simp at hj
  ·obtain ⟨v,h6,h7⟩:=hc j r hj i f hi;obtain ⟨rfl,h8⟩:=h7.val h1;exact ⟨v,h2,h8.any h1⟩
 ·obtain ⟨v,hv⟩:=(hm j r hj).2 i _ hi;cases hv
end
theorem qY {o : Oper} {a : Act} {w : World} {K : Act → World → Prop} {Q : Exit → Act → World → Prop} (s x : Operand) (t T : TypeId) (ho : o.op = .call { callee:=.builtin .append,args:=#[s,x],argTypes:=#[t,t] }) (i : TypeInfo) (z : Value) (m bytes : Nat) (ht : Tryz.prog.underlying t = some (.slice T)) (hi : Tryz.prog.info? T = some i) (hz : i.zero = some z)
  (hsize : i.size = m) (hby : i.bytes = bytes) (hzs : z.cells.size = m) (hsz : 0 < m) (hT : ¬ T = 9) (base : Nat) (v0 : Value) (hs : a.eval s = v0) (hown : w.ownsRow base T m v0 0 []) (hbw : base ≤ w.heap.size) {ad : Addr} {len cap : Nat} {rs : List (List Fv)} (hx : a.eval x = .slice (some ad) len cap) (hr : aI w (some ad) len cap m rs) (hm : ∀ (j : Nat) r,rs[j]? = some r → r.length = m ∧ eK r) (hl : len ≤ 8) (hb8 : bytes ≤ 1000)
  (h : ∀ a' c' w',aB w' a' len c' m T rs (fun k => base ≤ k ∧ k < w'.heap.size) → w.grownBy w' v0.ownBlock → K (a.put o.dst (.slice a' len c')) w') : o.wp Tryz.prog a w K Q:=by
 have hlen : ((rs.map dr).flatten).length = len * m:=by rw [cV (gh fun j r hj => (hm j r hj).1),List.length_map,hr.1]
 have hne : rs = [] ∨ ∃ b o,ad = (⟨b,o,none⟩ : Addr):=by
  rcases hr.2.2.2 with h1 | ⟨b,o,e,_⟩
  ·exact .inl h1
  ·cases e;exact .inr ⟨b,o,rfl⟩
 have hnews : ∀ (j : Nat) u,((rs.map dr).flatten)[j]? = some u → w.cell? (ad.add j) = some u:=by
  rcases hne with rfl | ⟨b,o,rfl⟩
  ·intro j u hu;simp at hu
  ·exact kK hr hm
 refine wp_append_own w s x t ho base T i z m bytes ht hi hz hsize hby hzs hsz v0 0 [] hs hown ad len cap (rs.map dr).flatten hx hlen hnews (eZ hr hm w (fun _ => True)).one cd Af hbw ?_;intro v' w' ho' hg' _;rw [Nat.zero_add,List.nil_append] at ho';obtain ⟨a',c',rfl,hR⟩:=(eZ hr hm w' (fun k => base ≤ k ∧ k < w'.heap.size)).own ho' hr.1.symm hT (fun g hg => ho'.lt g hg);rw [hr.1] at hR ⊢;exact h a' c' w' hR hg'
theorem rI (x : Kd) : (kdF x).length = 4 ∧ eK (kdF x):=⟨rfl,fun i f h => by
 rcases i with _ | _ | _ | _ | i <;> first | (cases h;exact ⟨_,rfl⟩) | (simp [kdF] at h)⟩
theorem qX (x : Xd) : (xdF x).length = 5 ∧ eK (xdF x):=⟨rfl,fun i f h => by
 rcases i with _ | _ | _ | _ | _ | i <;> first | (cases h;exact ⟨_,rfl⟩) | (simp [xdF] at h)⟩
theorem fU {α : Type} {F : α → List Fv} {m : Nat} (hF : ∀ x,(F x).length = m ∧ eK (F x)) (xs : List α) : ∀ (j : Nat) r,(xs.map F)[j]? = some r → r.length = m ∧ eK r:=by
 intro j r hj;rw [List.getElem?_map] at hj;obtain ⟨x,_,rfl⟩:=Option.map_eq_some_iff.1 hj;exact hF x
def ix (B : Nat) (len m : Nat) (T : TypeId) (rs : List (List Fv)) : Gi.Fact:=fun v w l h => ∃ a c,v = .slice a len c ∧ aB w a len c m T rs (fun k => l ≤ k ∧ k < h) ∧ B ≤ l
theorem ix.mono (ex : Gi.Ex) (s : Option Tmp) (B len m : Nat) (T : TypeId) (rs : List (List Fv)) : Gi.Fact.bw (fun _ => Gi.Bel) ex s (ix B len m T rs):=by
 rintro s' _ _ _ v w w' l h ⟨a,c,h1,h2,h3⟩ hb;exact ⟨a,c,h1,h2.below hb,h3⟩
def ClF (B : Nat) (c : Cl) : Gi.Fact:=fun v w _ _ => ∃ d : Ad,v = .agg #[.slice d.a1 d.l1 d.c1,.slice d.a2 d.l2 d.c2,.slice d.a3 d.l3 d.c3,.slice d.a4 d.l4 d.c4,.slice d.a5 d.l5 d.c5,.int .i64 c.now] ∧ cf w d c.raw (fun k => B ≤ k)
theorem ClF.mono (ex : Gi.Ex) (s : Option Tmp) (B : Nat) (c : Cl) : Gi.Fact.bw (fun _ => Gi.Bel) ex s (ClF B c):=by
 rintro s' _ _ _ v w w' l h ⟨d,h1,h2⟩ hb;exact ⟨d,h1,h2.below hb⟩

theorem kC (d : Ad) (c : Cl) (w : World) (hr : aM w d c.raw) (hs : Sm c) :
  Calls Tryz.prog 47 #[.agg #[.slice d.a1 d.l1 d.c1,.slice d.a2 d.l2 d.c2,.slice d.a3 d.l3 d.c3,.slice d.a4 d.l4 d.c4,.slice d.a5 d.l5 d.c5,.int .i64 c.now]] w fun e w' => ∃ d',e = .returned (.agg #[.slice d'.a1 d'.l1 d'.c1,.slice d'.a2 d'.l2 d'.c2,.slice d'.a3 d'.l3 d'.c3,.slice d'.a4 d'.l4 d'.c4,.slice d'.a5 d'.l5 d'.c5,.int .i64 c.now]) ∧ cf w' d' c.raw (fun k => w.heap.size ≤ k) ∧ Below w.heap.size w w':=by
 have HR:=ae hr;have HS:=ae hs;have hl1 : c.ns.length = d.l1:=by simpa using (show (c.ns.map ndF).length = d.l1 from hr.n.1)
 have hl2 : c.ks.length = d.l2:=by simpa using (show (c.ks.map kdF).length = d.l2 from hr.k.1)
 have hl3 : c.vs.length = d.l3:=by simpa using (show (c.vs.map vdF).length = d.l3 from hr.v.1)
 have hl4 : c.xs.length = d.l4:=by simpa using (show (c.xs.map xdF).length = d.l4 from hr.x.1)
 have hl5 : c.ps.length = d.l5:=by simpa using (show (c.ps.map pdF).length = d.l5 from hr.p.1)
 clear hr hs;obtain ⟨i2,hi2⟩:=Option.map_eq_some_iff.1 qE;obtain ⟨i4,hi4⟩:=Option.map_eq_some_iff.1 gN;have HI2:=ae hi2;have HI4:=ae hi4;clear hi2 hi4;obtain ⟨W,hW0⟩ : ∃ W,W = (w.alloc (.cells #[.slice d.a1 d.l1 d.c1,.slice d.a2 d.l2 d.c2,.slice d.a3 d.l3 d.c3,.slice d.a4 d.l4 d.c4,.slice d.a5 d.l5 d.c5,.int .i64 c.now] 37)).alloc (.cells #[.slice none 0 0,.slice none 0 0,.slice none 0 0,.slice none 0 0,.slice none 0 0,.int .i64 0] 37):=⟨_,rfl⟩;have HB : Hid (Below w.heap.size w W):=by rw [hW0];exact aF _ _ _
 have Bk : Hid (W.heap[w.heap.size]? = some (.cells #[.slice d.a1 d.l1 d.c1,.slice d.a2 d.l2 d.c2,.slice d.a3 d.l3 d.c3,.slice d.a4 d.l4 d.c4,.slice d.a5 d.l5 d.c5,.int .i64 c.now] 37 (0,0))):=by rw [hW0];exact cK _ _ _
 obtain ⟨Br,hWs⟩:=Av;go_enter Tryz.func47,Tryz.ntmps47;go_wp2_with fail;rw [← hW0];clear hW0;rename_i K0 hK0;refine Gi.aT (ex:=fun _ => none) (Gi.Bel.rel 0) av rfl rfl av av ?_;refine' Gi.aw.aq _ rfl ?_ ?_;rotate_left 1
 ·exact gH
 refine' Gi.aw.aq _ rfl ?_ ?_;rotate_left 1
 ·refine Gi.Obl.plain rfl ?_;intro ac wg K lo hi hsz hW hpr hf hap hK;clear hsz hap hpr;have e3:=hf 3 al;simp [Gi.ai,List.lookup] at e3;exact gG
 refine Gi.aw.step (ix W.heap.size d.l1 7 72 (c.ns.map ndF)) rfl (ix.mono _ _ _ _ _ _ _) ?_ ?_
 ·refine Gi.Obl.plain rfl ?_;intro ac wg K lo hi hsz hW hpr hf hap hK;clear hsz hpr hap;have e4:=hf 4 al;simp [Gi.ai,List.lookup] at e4;clear hf;go_simp;refine (lQ d.a1 d.l1 d.c1 c.ns _ (HR.out.n.below (HB.out.trans (Below.mono hW HB.out.size))) (by have:=HS.out.n;omega) HS.out.ns).mono ?_;exact pU
 refine' Gi.aw.aq _ rfl ?_ ?_;rotate_left 1
 ·exact gH
 refine' Gi.aw.aq _ rfl ?_ ?_;rotate_left 1
 ·refine Gi.Obl.plain rfl ?_;intro ac wg K lo hi hsz hW hpr hf hap hK;clear hsz hap hpr;have e6:=hf 6 al;simp [Gi.ai,List.lookup] at e6;exact gG
 refine Gi.aw.step (ix W.heap.size d.l2 4 116 (c.ks.map kdF)) rfl (ix.mono _ _ _ _ _ _ _) ?_ ?_
 ·refine Gi.Obl.plain rfl ?_;intro ac wg K lo hi hsz hW hpr hf hap hK;clear hsz hpr hap;have e7:=hf 7 al;simp [Gi.ai,List.lookup] at e7;clear hf;cases hq : d.a2 with
  | none =>
   have h0 : c.ks = []:=by
    rcases HR.out.k.2.2.2 with h | ⟨b,o,e,_⟩
    ·have h9 : c.ks.map kdF = []:=h
     simpa using h9
    ·rw [hq] at e;cases e
   have hl0 : d.l2 = 0:=by rw [← hl2,h0];rfl
   rw [hq,hl0] at e7;go_simp;refine hK _ _ (Below.refl _ _) ⟨none,0,by rw [hl0],?_,Below.size hW⟩;rw [hl0,h0];exact aB.nil _ _ _ _ _ af
  | some ad =>
   rw [hq] at e7;have hin:=HR.out.k.below (HB.out.trans (Below.mono hW HB.out.size));have hin2 : aI wg d.a2 d.l2 d.c2 4 (c.ks.map kdF):=hin;rw [hq] at hin2
   have hz : i2.zero = some (.agg #[.string ⟨#[]⟩,.bool false,.bool false,.string ⟨#[]⟩]) ∧ i2.size = 4 ∧ i2.bytes = 40:=by have:=HI2.out.2;simp only [Prod.mk.injEq] at this;exact this
   refine qY _ (.tmp 7) 32 116 rfl i2 (.agg #[.string ⟨#[]⟩,.bool false,.bool false,.string ⟨#[]⟩]) 4 40 Tryz.underlying32 HI2.out.1 hz.1 hz.2.1 hz.2.2 rfl al al wg.heap.size (.slice none 0 0) rfl (World.ownsRow_nil _ _ _ _) (Nat.le_refl _) (by simpa [Act.eval] using e7) hin2 (fU rI _) (by have:=HS.out.k;omega) al ?_;intro a' c' w' hR hg;exact hK _ _ ((Below.refl _ _).grown hg (Nat.le_refl _) (fun k hk => by cases hk)) ⟨a',c',rfl,hR,Below.size hW⟩
 refine' Gi.aw.aq _ rfl ?_ ?_;rotate_left 1
 ·exact gH
 refine' Gi.aw.aq _ rfl ?_ ?_;rotate_left 1
 ·refine Gi.Obl.plain rfl ?_;intro ac wg K lo hi hsz hW hpr hf hap hK;clear hsz hap hpr;have e9:=hf 9 al;simp [Gi.ai,List.lookup] at e9;exact gG
 refine Gi.aw.step (ix W.heap.size d.l3 8 118 (c.vs.map vdF)) rfl (ix.mono _ _ _ _ _ _ _) ?_ ?_
 ·refine Gi.Obl.plain rfl ?_;intro ac wg K lo hi hsz hW hpr hf hap hK;clear hsz hpr hap;have e10:=hf 10 al;simp [Gi.ai,List.lookup] at e10;clear hf;go_simp;refine (lO d.a3 d.l3 d.c3 c.vs _ (HR.out.v.below (HB.out.trans (Below.mono hW HB.out.size))) (by have:=HS.out.v;omega) HS.out.vs).mono ?_;exact pU
 refine' Gi.aw.aq _ rfl ?_ ?_;rotate_left 1
 ·exact gH
 refine' Gi.aw.aq _ rfl ?_ ?_;rotate_left 1
 ·refine Gi.Obl.plain rfl ?_;intro ac wg K lo hi hsz hW hpr hf hap hK;clear hsz hap hpr;have e12:=hf 12 al;simp [Gi.ai,List.lookup] at e12;exact gG
 refine Gi.aw.step (ix W.heap.size d.l4 5 120 (c.xs.map xdF)) rfl (ix.mono _ _ _ _ _ _ _) ?_ ?_
 ·refine Gi.Obl.plain rfl ?_;intro ac wg K lo hi hsz hW hpr hf hap hK;clear hsz hpr hap;have e13:=hf 13 al;simp [Gi.ai,List.lookup] at e13;clear hf;cases hq : d.a4 with
  | none =>
   have h0 : c.xs = []:=by
    rcases HR.out.x.2.2.2 with h | ⟨b,o,e,_⟩
    ·have h9 : c.xs.map xdF = []:=h
     simpa using h9
    ·rw [hq] at e;cases e
   have hl0 : d.l4 = 0:=by rw [← hl4,h0];rfl
   rw [hq,hl0] at e13;go_simp;refine hK _ _ (Below.refl _ _) ⟨none,0,by rw [hl0],?_,Below.size hW⟩;rw [hl0,h0];exact aB.nil _ _ _ _ _ af
  | some ad =>
   rw [hq] at e13;have hin:=HR.out.x.below (HB.out.trans (Below.mono hW HB.out.size));have hin2 : aI wg d.a4 d.l4 d.c4 5 (c.xs.map xdF):=hin;rw [hq] at hin2
   have hz : i4.zero = some (.agg #[.string ⟨#[]⟩,.int .i64 0,.string ⟨#[]⟩,.bool false,.string ⟨#[]⟩]) ∧ i4.size = 5 ∧ i4.bytes = 64:=by have:=HI4.out.2;simp only [Prod.mk.injEq] at this;exact this
   refine qY _ (.tmp 13) 34 120 rfl i4 (.agg #[.string ⟨#[]⟩,.int .i64 0,.string ⟨#[]⟩,.bool false,.string ⟨#[]⟩]) 5 64 Tryz.underlying34 HI4.out.1 hz.1 hz.2.1 hz.2.2 rfl al al wg.heap.size (.slice none 0 0) rfl (World.ownsRow_nil _ _ _ _) (Nat.le_refl _) (by simpa [Act.eval] using e13) hin2 (fU qX _) (by have:=HS.out.x;omega) al ?_;intro a' c' w' hR hg;exact hK _ _ ((Below.refl _ _).grown hg (Nat.le_refl _) (fun k hk => by cases hk)) ⟨a',c',rfl,hR,Below.size hW⟩
 refine' Gi.aw.aq _ rfl ?_ ?_;rotate_left 1
 ·exact gH
 refine' Gi.aw.aq _ rfl ?_ ?_;rotate_left 1
 ·refine Gi.Obl.plain rfl ?_;intro ac wg K lo hi hsz hW hpr hf hap hK;clear hsz hap hpr;have e15:=hf 15 al;simp [Gi.ai,List.lookup] at e15;exact gG
 refine Gi.aw.step (ix W.heap.size d.l5 6 65 (c.ps.map pdF)) rfl (ix.mono _ _ _ _ _ _ _) ?_ ?_
 ·refine Gi.Obl.plain rfl ?_;intro ac wg K lo hi hsz hW hpr hf hap hK;clear hsz hpr hap;have e16:=hf 16 al;simp [Gi.ai,List.lookup] at e16;clear hf;go_simp;refine (lP d.a5 d.l5 d.c5 c.ps _ (HR.out.p.below (HB.out.trans (Below.mono hW HB.out.size))) (by have:=HS.out.p;omega) HS.out.ps).mono ?_;exact pU
 refine' Gi.aw.aq _ rfl ?_ ?_;rotate_left 1
 ·exact gH
 refine' Gi.aw.aq _ rfl ?_ ?_;rotate_left 1
 ·refine Gi.Obl.plain rfl ?_;intro ac wg K lo hi hsz hW hpr hf hap hK;clear hsz hap hpr;have e18:=hf 18 al;simp [Gi.ai,List.lookup] at e18;exact gG
 refine Gi.aw.step (ClF W.heap.size c) rfl (ClF.mono _ _ _ _) ?_ ?_
 ·refine Gi.Obl.plain rfl ?_;intro ac wg K lo hi hsz hW hpr hf hap hK;clear hsz hpr;have e5:=hf 5 al;simp [Gi.ai,List.lookup] at e5;have e8:=hf 8 al;simp [Gi.ai,List.lookup] at e8;have e11:=hf 11 al;simp [Gi.ai,List.lookup] at e11;have e14:=hf 14 al;simp [Gi.ai,List.lookup] at e14;have e17:=hf 17 al;simp [Gi.ai,List.lookup] at e17;have e19:=hf 19 al;simp [Gi.ai,List.lookup] at e19;clear hf;obtain ⟨a1,c1,e5,ho1,hB1⟩:=e5;obtain ⟨a2,c2,e8,ho2,hB2⟩:=e8;obtain ⟨a3,c3,e11,ho3,hB3⟩:=e11;obtain ⟨a4,c4,e14,ho4,hB4⟩:=e14;obtain ⟨a5,c5,e17,ho5,hB5⟩:=e17;have hap2 : ∀ t ∈ [5,8,11,14,17],∀ t' ∈ [5,8,11,14,17],¬ t = t' → hi t ≤ lo t' ∨ hi t' ≤ lo t:=by
   intro t ht t' ht' hne;refine hap t ?_ t' ?_ ?_ ?_ hne
   ·simp only [List.mem_cons,List.not_mem_nil,or_false] at ht;rcases ht with rfl | rfl | rfl | rfl | rfl <;> decide
   ·simp only [List.mem_cons,List.not_mem_nil,or_false] at ht';rcases ht' with rfl | rfl | rfl | rfl | rfl <;> decide
   ·simp only [List.mem_cons,List.not_mem_nil,or_false] at ht;rcases ht with rfl | rfl | rfl | rfl | rfl <;> rfl
   ·simp only [List.mem_cons,List.not_mem_nil,or_false] at ht';rcases ht' with rfl | rfl | rfl | rfl | rfl <;> rfl
  clear hap;have q01:=hap2 5 al 8 al al;have q02:=hap2 5 al 11 al al;have q03:=hap2 5 al 14 al al;have q04:=hap2 5 al 17 al al;have q12:=hap2 8 al 11 al al;have q13:=hap2 8 al 14 al al;have q14:=hap2 8 al 17 al al;have q23:=hap2 11 al 14 al al;have q24:=hap2 11 al 17 al al;have q34:=hap2 14 al 17 al al;clear hap2;have hC : cf wg ⟨a1,d.l1,c1,a2,d.l2,c2,a3,d.l3,c3,a4,d.l4,c4,a5,d.l5,c5⟩ c.raw (fun k => W.heap.size ≤ k):=by
   refine ⟨fun k => if lo 5 ≤ k ∧ k < hi 5 then 1 else if lo 8 ≤ k ∧ k < hi 8 then 2 else if lo 11 ≤ k ∧ k < hi 11 then 3 else if lo 14 ≤ k ∧ k < hi 14 then 4 else 5,?_,?_,?_,?_,?_⟩
   ·exact ho1.bs (fun k _ s => ⟨by have s1 : lo 5 ≤ k:=s.1;show W.heap.size ≤ k;omega,by have s1 : lo 5 ≤ k:=s.1;have s2 : k < hi 5:=s.2;show (if lo 5 ≤ k ∧ k < hi 5 then 1 else if lo 8 ≤ k ∧ k < hi 8 then 2 else if lo 11 ≤ k ∧ k < hi 11 then 3 else if lo 14 ≤ k ∧ k < hi 14 then 4 else 5) = 1;rw [if_pos ⟨s1,s2⟩]⟩)
   ·exact ho2.bs (fun k _ s => ⟨by have s1 : lo 8 ≤ k:=s.1;show W.heap.size ≤ k;omega,by have s1 : lo 8 ≤ k:=s.1;have s2 : k < hi 8:=s.2;show (if lo 5 ≤ k ∧ k < hi 5 then 1 else if lo 8 ≤ k ∧ k < hi 8 then 2 else if lo 11 ≤ k ∧ k < hi 11 then 3 else if lo 14 ≤ k ∧ k < hi 14 then 4 else 5) = 2;rw [if_neg af];rw [if_pos ⟨s1,s2⟩]⟩)
   ·exact ho3.bs (fun k _ s => ⟨by have s1 : lo 11 ≤ k:=s.1;show W.heap.size ≤ k;omega,by have s1 : lo 11 ≤ k:=s.1;have s2 : k < hi 11:=s.2;show (if lo 5 ≤ k ∧ k < hi 5 then 1 else if lo 8 ≤ k ∧ k < hi 8 then 2 else if lo 11 ≤ k ∧ k < hi 11 then 3 else if lo 14 ≤ k ∧ k < hi 14 then 4 else 5) = 3;rw [if_neg af];rw [if_neg af];rw [if_pos ⟨s1,s2⟩]⟩)
   ·exact ho4.bs (fun k _ s => ⟨by have s1 : lo 14 ≤ k:=s.1;show W.heap.size ≤ k;omega,by have s1 : lo 14 ≤ k:=s.1;have s2 : k < hi 14:=s.2;show (if lo 5 ≤ k ∧ k < hi 5 then 1 else if lo 8 ≤ k ∧ k < hi 8 then 2 else if lo 11 ≤ k ∧ k < hi 11 then 3 else if lo 14 ≤ k ∧ k < hi 14 then 4 else 5) = 4;rw [if_neg af];rw [if_neg af];rw [if_neg af];rw [if_pos ⟨s1,s2⟩]⟩)
   ·exact ho5.bs (fun k _ s => ⟨by have s1 : lo 17 ≤ k:=s.1;show W.heap.size ≤ k;omega,by have s1 : lo 17 ≤ k:=s.1;have s2 : k < hi 17:=s.2;show (if lo 5 ≤ k ∧ k < hi 5 then 1 else if lo 8 ≤ k ∧ k < hi 8 then 2 else if lo 11 ≤ k ∧ k < hi 11 then 3 else if lo 14 ≤ k ∧ k < hi 14 then 4 else 5) = 5;rw [if_neg af];rw [if_neg af];rw [if_neg af];rw [if_neg af]⟩)
  have HC:=ae hC;clear hC ho1 ho2 ho3 ho4 ho5 q01 q02 q03 q04 q12 q13 q14 q23 q24 q34 hB1 hB2 hB3 hB4 hB5;go_simp;exact hK _ _ (Below.refl _ _) ⟨_,rfl,HC.out⟩
 refine Gi.aw.done ?_;intro q wz lo hi hW hf hap;clear hap;simp only [List.forall_mem_cons] at hf;obtain ⟨hf20,-⟩:=hf;obtain ⟨d',h20,ho⟩:=hf20 bS;have HO:=ae ho;have HBz:=ae (HB.out.trans (Below.mono hW HB.out.size));have gr:=(Below.block hW _ (aa Br.out)).trans Br.out;have hws:=Below.size hW;obtain ⟨r0,r1,r2,r3,r4,r5⟩:=cs6 gr;have f0:=au gr 0;have f1:=au gr 1;have f2:=au gr 2;have f3:=au gr 3;have f4:=au gr 4;have f5:=au gr 5;clear gr ho hW;intro K hK;rw [if_pos bH];simp only [Gi.aE,List.foldr,Act.put,List.setIfInBounds_toArray,List.set_cons_zero,List.set_cons_succ,h20];simp only [List.getLast];go_simp;refine hK _ _ ?_;refine hK0 _ _ ?_;clear hK hK0 K K0;go_wp2_with fail;refine bodyPost_ret (v:=.agg #[.slice d'.a1 d'.l1 d'.c1,.slice d'.a2 d'.l2 d'.c2,.slice d'.a3 d'.l3 d'.c3,.slice d'.a4 d'.l4 d'.c4,.slice d'.a5 d'.l5 d'.c5,.int .i64 c.now]) (by simp [results,Tryz.results47,go_sem, *]) rfl ⟨d',rfl,?_,sb1 (sb1 (sb1 (sb1 (sb1 (sb1 (HBz.out))))))⟩;obtain ⟨P,hP⟩:=HO.out;exact ⟨P,hP.aH (fun k _ s => by have s1 : W.heap.size ≤ k:=s;rw [Below.heap_setCell _ _ _ _ (show k ≠ w.heap.size + 1 by omega),Below.heap_setCell _ _ _ _ (show k ≠ w.heap.size + 1 by omega),Below.heap_setCell _ _ _ _ (show k ≠ w.heap.size + 1 by omega),Below.heap_setCell _ _ _ _ (show k ≠ w.heap.size + 1 by omega),Below.heap_setCell _ _ _ _ (show k ≠ w.heap.size + 1 by omega),Below.heap_setCell _ _ _ _ (show k ≠ w.heap.size + 1 by omega)]) (fun k _ s => by have s1 : W.heap.size ≤ k:=s;show w.heap.size ≤ k;omega)⟩

structure Co where
 c : Cl
 n : ByteArray
 p : Int
def cl0 : Cl:=⟨[],[],[],[],[],0⟩
def co0 (p : Int) : Co:=⟨cl0,⟨#[]⟩,p⟩
def ad0 : Ad:=⟨none,0,0,none,0,0,none,0,0,none,0,0,none,0,0⟩
theorem DM (w : World) (S : Nat → Prop) : cf w ad0 cl0.raw S:=⟨fun _ => 1,aB.nil _ _ _ _ _ (by decide),aB.nil _ _ _ _ _ (by decide),aB.nil _ _ _ _ _ (by decide),aB.nil _ _ _ _ _ (by decide),aB.nil _ _ _ _ _ (by decide)⟩
def DX (Is : Co → Prop) (w : World) (e : Ending) (w' : World) : Prop:=∃ g o,e = .returned (.agg #[.slice g.a1 g.l1 g.c1,.slice g.a2 g.l2 g.c2,.slice g.a3 g.l3 g.c3,.slice g.a4 g.l4 g.c4,.slice g.a5 g.l5 g.c5,.int .i64 o.c.now,.string o.n,.int .i64 o.p]) ∧ Is o ∧ cf w' g o.c.raw (fun k => w.heap.size ≤ k) ∧ Below w.heap.size w w'

def wo {α : Type} (nm : α → ByteArray) (t : ByteArray) (xs : List α) : List α:=xs.filter fun x => !((nm x).toList == t.toList)
theorem tg {α : Type} {nm : α → ByteArray} {t : ByteArray} {xs : List α} {k : Nat} {x : α} (h : xs[k]? = some x) (hn : ((nm x).toList == t.toList) = false) : wo nm t (xs.take (k + 1)) = wo nm t (xs.take k) ++ [x]:=by
 unfold wo;rw [List.take_add_one,h,List.filter_append];simp [hn]
theorem CR {α : Type} {nm : α → ByteArray} {t : ByteArray} {xs : List α} {k : Nat} {x : α} (h : xs[k]? = some x) (hn : ((nm x).toList == t.toList) = true) : wo nm t (xs.take (k + 1)) = wo nm t (xs.take k):=by
 unfold wo;rw [List.take_add_one,h,List.filter_append];simp [hn]
theorem iF {α : Type} (nm : α → ByteArray) (t : ByteArray) (xs : List α) : (wo nm t xs).length ≤ xs.length:=List.length_filter_le _ _
structure Sel {α β : Type} (xs ys : List α) (vss ws : List β) (k : Nat) (f : Nat → Nat) : Prop where
 len : ws.length = ys.length
 y : ∀ j,j < ys.length → ys[j]? = xs[f j]?
 v : ∀ j,j < ys.length → ws[j]? = vss[f j]?
 lt : ∀ j,j < ys.length → f j < k
 inj : ∀ i j,i < ys.length → j < ys.length → f i = f j → i = j
theorem Sel.nil {α β : Type} (xs : List α) (vss : List β) (k : Nat) (f : Nat → Nat) : Sel xs [] vss [] k f:=⟨rfl,fun j h => by simp at h,fun j h => by simp at h,fun j h => by simp at h,fun i j h => by simp at h⟩
theorem Sel.up {α β : Type} {xs ys : List α} {vss ws : List β} {k : Nat} {f : Nat → Nat} (h : Sel xs ys vss ws k f) : Sel xs ys vss ws (k + 1) f:=⟨h.len,h.y,h.v,fun j hj => Nat.lt_succ_of_lt (h.lt j hj),h.inj⟩
theorem Sel.push {α β : Type} {xs ys : List α} {vss ws : List β} {k : Nat} {f : Nat → Nat} (h : Sel xs ys vss ws k f) {x : α} {u : β} (hx : xs[k]? = some x) (hu : vss[k]? = some u) : Sel xs (ys ++ [x]) vss (ws ++ [u]) (k + 1) (fun j => if j = ys.length then k else f j):=by
 have hl:=h.len;refine ⟨by simp [hl],fun j hj => ?_,fun j hj => ?_,fun j hj => ?_,fun i j hi hj e => ?_⟩
 ·by_cases e : j = ys.length
  ·subst e;simp [hx]
  ·have hj' : j < ys.length:=by simp at hj;omega
   rw [List.getElem?_append_left hj',if_neg e];exact h.y j hj'
 ·by_cases e : j = ys.length
  ·subst e;rw [if_pos rfl,hu,List.getElem?_append_right af,hl,Nat.sub_self];rfl
  ·have hj' : j < ys.length:=by simp at hj;omega
   rw [List.getElem?_append_left af,if_neg e];exact h.v j hj'
 ·by_cases e : j = ys.length
  ·simp only [if_pos e];omega
  ·have hj' : j < ys.length:=by simp at hj;omega
   simp only [if_neg e];have:=h.lt j hj';omega
 ·by_cases e1 : i = ys.length <;> by_cases e2 : j = ys.length
  ·omega
  ·have hj' : j < ys.length:=by simp at hj;omega
   simp only [if_pos e1,if_neg e2] at e;have:=h.lt j hj';omega
  ·have hi' : i < ys.length:=by simp at hi;omega
   simp only [if_pos e2,if_neg e1] at e;have:=h.lt i hi';omega
  ·simp only [if_neg e1,if_neg e2] at e;exact h.inj i j (by simp at hi;omega) (by simp at hj;omega) e
theorem Sel.lA {w : World} {S : Nat → Prop} {m k : Nat} {α : Type} {F : α → List Fv} {xs ys : List α} {vss ws : List (List Value)} {H : Nat → Nat → Nat} {f : Nat → Nat} (h : Sel xs ys vss ws k f) (hv : aS w S m (xs.map F) vss H) : aS w S m (ys.map F) ws (fun j => H (f j)) :=
 hv.DY f (by rw [h.len,List.length_map]) (fun j hj => by rw [List.length_map] at hj;rw [List.getElem?_map,List.getElem?_map,h.y j hj]) (fun j hj => by rw [List.length_map] at hj;exact h.v j hj) (fun i j hi hj e => h.inj i j (by simpa using hi) (by simpa using hj) e)
theorem tm {vs : List Value} {a0 a1 a2 a3 a4 : Value} (hl : vs.length = 5) (h0 : vs[0]? = some a0) (h1 : vs[1]? = some a1) (h2 : vs[2]? = some a2) (h3 : vs[3]? = some a3) (h4 : vs[4]? = some a4) : vs = [a0,a1,a2,a3,a4]:=by
 apply List.ext_getElem?;intro i;rcases i with _ | _ | _ | _ | _ | i
 ·exact h0
 ·exact h1
 ·exact h2
 ·exact h3
 ·exact h4
 ·exact pF
theorem tl {vs : List Value} {a0 a1 a2 a3 a4 a5 : Value} (hl : vs.length = 6) (h0 : vs[0]? = some a0) (h1 : vs[1]? = some a1) (h2 : vs[2]? = some a2) (h3 : vs[3]? = some a3) (h4 : vs[4]? = some a4) (h5 : vs[5]? = some a5) : vs = [a0,a1,a2,a3,a4,a5]:=by
 apply List.ext_getElem?;intro i;rcases i with _ | _ | _ | _ | _ | _ | i
 ·exact h0
 ·exact h1
 ·exact h2
 ·exact h3
 ·exact h4
 ·exact h5
 ·exact pF
theorem tj {vs : List Value} {a0 a1 a2 a3 a4 a5 a6 a7 : Value} (hl : vs.length = 8) (h0 : vs[0]? = some a0) (h1 : vs[1]? = some a1) (h2 : vs[2]? = some a2) (h3 : vs[3]? = some a3) (h4 : vs[4]? = some a4) (h5 : vs[5]? = some a5) (h6 : vs[6]? = some a6) (h7 : vs[7]? = some a7) : vs = [a0,a1,a2,a3,a4,a5,a6,a7]:=by
 apply List.ext_getElem?;intro i;rcases i with _ | _ | _ | _ | _ | _ | _ | _ | i
 ·exact h0
 ·exact h1
 ·exact h2
 ·exact h3
 ·exact h4
 ·exact h5
 ·exact h6
 ·exact h7
 ·exact pF
theorem bE {w : World} {S : Nat → Prop} {m g : Nat} {rs : List (List Fv)} {vss : List (List Value)} {H : Nat → Nat → Nat} (hV : aS w S m rs vss H) (hc : ∀ (k : Nat) u,vss.flatten[k]? = some u → w.cell? ⟨g,k,none⟩ = some u) {k : Nat} {vs : List Value} (hk : vss[k]? = some vs) {i : Nat} {u : Value} (hi : i < m) (hu : w.cell? ⟨g,k * m + i,none⟩ = some u) : vs[i]? = some u:=by
 have hl:=hV.all k vs hk;have h1 : vs[i]? = some (vs[i]'(by omega)):=List.getElem?_eq_getElem _;have h2:=hc _ _ (gg hV.all hk h1);rw [hu] at h2;rw [h1];exact h2.symm

theorem sE (a : Option Addr) (len cap : Nat) (xs : List Pd) (t : ByteArray) (Q : Nat → Prop) (w : World) (ho : aB w a len cap 6 65 (xs.map pdF) Q) (hl : len ≤ 8) :
  Calls Tryz.prog 130 #[.slice a len cap,.string t] w fun e w' => ∃ a' l' c',e = .returned (.slice a' l' c') ∧ aB w' a' l' c' 6 65 ((wo Pd.n t xs).map pdF) (fun k => Q k ∨ w.heap.size ≤ k) ∧ Below w.heap.size w w':=by
 have HR:=ae ho.row;have hxl : xs.length = len:=iQ
 obtain ⟨vss,H,hV,hcell⟩:=ho.lA;have HV:=ae hV;have HC:=ae hcell;have hvl : vss.length = xs.length:=by rw [hV.len,List.length_map]
 clear ho hV hcell;obtain ⟨i0,hi,hz0,hz1,hz2⟩:=info_parts gO;have HI0:=ae (And.intro hi (And.intro hz0 (And.intro hz1 hz2)));clear hi hz0 hz1 hz2;have hmcalled : ∀ (v : Value) (w : World),(method 406 65 v "loop.example/g00571/impl.called").run Tryz.prog w = .ok (228,v) w:=fun _ _ => by kernel_rfl
 go_enter Tryz.func130,Tryz.ntmps130;go_wp2;go_loopw [5,10] (fun vo vi wr => ∃ (k : Nat) (ws : List (List Value)) (f : Nat → Nat),k ≤ len ∧ vi = .int .i64 k ∧ Hid (wr.ownsRow w.heap.size 65 6 vo (wo Pd.n t (xs.take k)).length ws.flatten) ∧ Hid (Sel xs (wo Pd.n t (xs.take k)) vss ws k f) ∧ Hid (Below w.heap.size w wr)) (fun _ vi _ => len - (intOf vi).toNat);case atStart => exact ⟨0,[],fun _ => 0,by omega,rfl,World.ownsRow_nil _ _ _ _,Sel.nil _ _ _ _,Below.refl _ _⟩
 case round =>
  obtain ⟨k,ws,f,hk,rfl,HO,HF,HB⟩:=hrel;have hBs:=HB.out.size;by_cases hlt : k < len
  ·obtain ⟨b,o,x,rfl,hb,hx,hat⟩:=bQ HR.out hlt;obtain ⟨va,vl,vc,hvr,z0,z2,z4,c0,c1,c2,c3,c4,c5⟩:=aU hat;have hvk : vss[k]? = some [.string x.n,.int .i64 x.c,.string x.z,.slice va vl vc,.string x.d,.int .i64 x.p]:=by
    have hkv : k < vss.length:=af
    have h1:=List.getElem?_eq_getElem hkv;have hoz : o = 0:=by
     exact uz
    subst hoz;have hc2 : ∀ (j : Nat) u,vss.flatten[j]? = some u → w.cell? ⟨b,j,none⟩ = some u:=fun j u hj => by
     obtain ⟨g,e,_,h3⟩:=HC.out j u hj;cases e;exact h3
    rw [h1];refine congrArg some (tl (HV.out.all k _ h1) (bE HV.out hc2 h1 al (by simpa using c0)) (bE HV.out hc2 h1 al (by simpa using c1)) (bE HV.out hc2 h1 al (by simpa using c2)) (bE HV.out hc2 h1 al (by simpa using c3)) (bE HV.out hc2 h1 al (by simpa using c4)) (bE HV.out hc2 h1 al (by simpa using c5)))
   have HX:=ae hx;have HVK:=ae hvk;replace c0:=(ak HB.out hb).trans c0;replace c1:=(ak HB.out hb).trans c1;replace c2:=(ak HB.out hb).trans c2;replace c3:=(ak HB.out hb).trans c3;replace c4:=(ak HB.out hb).trans c4;replace c5:=(ak HB.out hb).trans c5;have hbr : b < wr.heap.size:=Nat.lt_of_lt_of_le hb hBs;clear hat hx hvk hvr z0 z2 z4;have hn8:=iF Pd.n t (xs.take k);have hn9 : (wo Pd.n t (xs.take k)).length ≤ k:=by rw [List.length_take] at hn8;omega
   go_wp2_with fail;refine (ei x va vl vc _).mono ?_;rintro e w1 ⟨rfl,hb1⟩;obtain ⟨hn1,hbx⟩:=aG hb1;obtain ⟨n0,n1,n2,n3,n4,n5⟩:=cs6 hn1;have hs1:=aa hn1;have HO1:=ae (bA HO.out hbx);have HB1:=ae (HB.out.trans (hbx.mono hBs));clear hb1 hbx hn1 c0 c1 c2 c3 c4 c5;cases hq : (x.n.toList == t.toList)
   ·have hq2 : (x.n.toList != t.toList) = true:=by simp [bne,hq]
    go_wp2_with (first | (at_builtin;refine wpList_append_own _ rfl _ _ 124 rfl w.heap.size 65 i0 (.agg #[.string ⟨#[]⟩,.int .i64 0,.string ⟨#[]⟩,.slice none 0 0,.string ⟨#[]⟩,.int .i64 0]) 6 88 Tryz.underlying124 HI0.out.1 HI0.out.2.1 HI0.out.2.2.1 HI0.out.2.2.2 rfl al _ _ _ rfl (HO1.out.alloc _) ⟨w1.heap.size,0,none⟩ 1 1 [.string x.n,.int .i64 x.c,.string x.z,.slice va vl vc,.string x.d,.int .i64 x.p] rfl rfl ?c1 ?c2 ?c3 ?c4 ?c5 ?_));case c1 => exact cL _ _ _
    case c2 => intro u hu;simp only [List.mem_cons,List.not_mem_nil,or_false] at hu;rcases hu with rfl | rfl | rfl | rfl | rfl | rfl <;> rfl
    case c3 => unfold maxLen;omega
    case c4 => omega
    case c5 => simp;omega
    rintro v' w3 hown3 hgrow -;have HO3 : Hid (w3.ownsRow w.heap.size 65 6 v' (wo Pd.n t (xs.take (k + 1))).length (ws ++ ([[.string x.n,.int .i64 x.c,.string x.z,.slice va vl vc,.string x.d,.int .i64 x.p]] : List (List Value))).flatten):=by
     exact pj
    exact uN
   ·exact uH
  ·exact vQ

theorem sC (a : Option Addr) (len cap : Nat) (xs : List Xd) (t : ByteArray) (Q : Nat → Prop) (w : World) (ho : aB w a len cap 5 120 (xs.map xdF) Q) (hl : len ≤ 8) :
  Calls Tryz.prog 175 #[.slice a len cap,.string t] w fun e w' => ∃ a' l' c',e = .returned (.slice a' l' c') ∧ aB w' a' l' c' 5 120 ((wo Xd.n t xs).map xdF) (fun k => Q k ∨ w.heap.size ≤ k) ∧ Below w.heap.size w w':=by
 have HR:=ae ho.row;have hxl : xs.length = len:=iQ
 obtain ⟨vss,H,hV,hcell⟩:=ho.lA;have HV:=ae hV;have HC:=ae hcell;have hvl : vss.length = xs.length:=by rw [hV.len,List.length_map]
 clear ho hV hcell;obtain ⟨i0,hi,hz0,hz1,hz2⟩:=info_parts gN;have HI0:=ae (And.intro hi (And.intro hz0 (And.intro hz1 hz2)));clear hi hz0 hz1 hz2;have hmcalled : ∀ (v : Value) (w : World),(method 406 120 v "loop.example/g00571/impl.called").run Tryz.prog w = .ok (239,v) w:=fun _ _ => by kernel_rfl
 go_enter Tryz.func175,Tryz.ntmps175;go_wp2;go_loopw [5,10] (fun vo vi wr => ∃ (k : Nat) (ws : List (List Value)) (f : Nat → Nat),k ≤ len ∧ vi = .int .i64 k ∧ Hid (wr.ownsRow w.heap.size 120 5 vo (wo Xd.n t (xs.take k)).length ws.flatten) ∧ Hid (Sel xs (wo Xd.n t (xs.take k)) vss ws k f) ∧ Hid (Below w.heap.size w wr)) (fun _ vi _ => len - (intOf vi).toNat);case atStart => exact ⟨0,[],fun _ => 0,by omega,rfl,World.ownsRow_nil _ _ _ _,Sel.nil _ _ _ _,Below.refl _ _⟩
 case round =>
  obtain ⟨k,ws,f,hk,rfl,HO,HF,HB⟩:=hrel;have hBs:=HB.out.size;by_cases hlt : k < len
  ·obtain ⟨b,o,x,rfl,hb,hx,hat⟩:=de HR.out hlt;obtain ⟨z0,z2,z4,c0,c1,c2,c3,c4⟩:=bB hat;have hvk : vss[k]? = some [.string x.n,.int .i64 x.z,.string x.k,.bool x.x,.string x.v]:=by
    have hkv : k < vss.length:=af
    have h1:=List.getElem?_eq_getElem hkv;have hoz : o = 0:=by
     exact uz
    subst hoz;have hc2 : ∀ (j : Nat) u,vss.flatten[j]? = some u → w.cell? ⟨b,j,none⟩ = some u:=fun j u hj => by
     obtain ⟨g,e,_,h3⟩:=HC.out j u hj;cases e;exact h3
    rw [h1];refine congrArg some (tm (HV.out.all k _ h1) (bE HV.out hc2 h1 al (by simpa using c0)) (bE HV.out hc2 h1 al (by simpa using c1)) (bE HV.out hc2 h1 al (by simpa using c2)) (bE HV.out hc2 h1 al (by simpa using c3)) (bE HV.out hc2 h1 al (by simpa using c4)))
   have HX:=ae hx;have HVK:=ae hvk;replace c0:=(ak HB.out hb).trans c0;replace c1:=(ak HB.out hb).trans c1;replace c2:=(ak HB.out hb).trans c2;replace c3:=(ak HB.out hb).trans c3;replace c4:=(ak HB.out hb).trans c4;have hbr : b < wr.heap.size:=Nat.lt_of_lt_of_le hb hBs;clear hat hx hvk z0 z2 z4;have hn8:=iF Xd.n t (xs.take k);have hn9 : (wo Xd.n t (xs.take k)).length ≤ k:=by rw [List.length_take] at hn8;omega
   go_wp2_with fail;refine (dv x _).mono ?_;rintro e w1 ⟨rfl,hb1⟩;obtain ⟨hn1,hbx⟩:=aG hb1;obtain ⟨n0,n1,n2,n3,n4⟩:=cs5 hn1;have hs1:=aa hn1;have HO1:=ae (bA HO.out hbx);have HB1:=ae (HB.out.trans (hbx.mono hBs));clear hb1 hbx hn1 c0 c1 c2 c3 c4;cases hq : (x.n.toList == t.toList)
   ·have hq2 : (x.n.toList != t.toList) = true:=by simp [bne,hq]
    go_wp2_with (first | (at_builtin;refine wpList_append_own _ rfl _ _ 192 rfl w.heap.size 120 i0 (.agg #[.string ⟨#[]⟩,.int .i64 0,.string ⟨#[]⟩,.bool false,.string ⟨#[]⟩]) 5 64 Tryz.underlying192 HI0.out.1 HI0.out.2.1 HI0.out.2.2.1 HI0.out.2.2.2 rfl al _ _ _ rfl (HO1.out.alloc _) ⟨w1.heap.size,0,none⟩ 1 1 [.string x.n,.int .i64 x.z,.string x.k,.bool x.x,.string x.v] rfl rfl ?c1 ?c2 ?c3 ?c4 ?c5 ?_));case c1 => exact cL _ _ _
    case c2 => intro u hu;simp only [List.mem_cons,List.not_mem_nil,or_false] at hu;rcases hu with rfl | rfl | rfl | rfl | rfl <;> rfl
    case c3 => unfold maxLen;omega
    case c4 => omega
    case c5 => simp;omega
    rintro v' w3 hown3 hgrow -;have HO3 : Hid (w3.ownsRow w.heap.size 120 5 v' (wo Xd.n t (xs.take (k + 1))).length (ws ++ ([[.string x.n,.int .i64 x.z,.string x.k,.bool x.x,.string x.v]] : List (List Value))).flatten):=by
     exact pj
    exact uN
   ·exact uH
  ·exact vQ

theorem sD (a : Option Addr) (len cap : Nat) (xs : List Vd) (t : ByteArray) (Q : Nat → Prop) (w : World) (ho : aB w a len cap 8 118 (xs.map vdF) Q) (hl : len ≤ 8) :
  Calls Tryz.prog 177 #[.slice a len cap,.string t] w fun e w' => ∃ a' l' c',e = .returned (.slice a' l' c') ∧ aB w' a' l' c' 8 118 ((wo Vd.n t xs).map vdF) (fun k => Q k ∨ w.heap.size ≤ k) ∧ Below w.heap.size w w':=by
 have HR:=ae ho.row;have hxl : xs.length = len:=iQ
 obtain ⟨vss,H,hV,hcell⟩:=ho.lA;have HV:=ae hV;have HC:=ae hcell;have hvl : vss.length = xs.length:=by rw [hV.len,List.length_map]
 clear ho hV hcell;obtain ⟨i0,hi,hz0,hz1,hz2⟩:=info_parts fy;have HI0:=ae (And.intro hi (And.intro hz0 (And.intro hz1 hz2)));clear hi hz0 hz1 hz2;have hmcalled : ∀ (v : Value) (w : World),(method 406 118 v "loop.example/g00571/impl.called").run Tryz.prog w = .ok (237,v) w:=fun _ _ => by kernel_rfl
 go_enter Tryz.func177,Tryz.ntmps177;go_wp2;go_loopw [5,10] (fun vo vi wr => ∃ (k : Nat) (ws : List (List Value)) (f : Nat → Nat),k ≤ len ∧ vi = .int .i64 k ∧ Hid (wr.ownsRow w.heap.size 118 8 vo (wo Vd.n t (xs.take k)).length ws.flatten) ∧ Hid (Sel xs (wo Vd.n t (xs.take k)) vss ws k f) ∧ Hid (Below w.heap.size w wr)) (fun _ vi _ => len - (intOf vi).toNat);case atStart => exact ⟨0,[],fun _ => 0,by omega,rfl,World.ownsRow_nil _ _ _ _,Sel.nil _ _ _ _,Below.refl _ _⟩
 case round =>
  obtain ⟨k,ws,f,hk,rfl,HO,HF,HB⟩:=hrel;have hBs:=HB.out.size;by_cases hlt : k < len
  ·obtain ⟨b,o,x,rfl,hb,hx,hat⟩:=bC HR.out hlt;obtain ⟨va,vl,vc,hvr,z0,z2,z3,z5,c0,c1,c2,c3,c4,c5,c6,c7⟩:=aK hat;have hvk : vss[k]? = some [.string x.n,.int .i64 x.c,.string x.z,.string x.k,.bool x.x,.string x.m,.bool x.y,.slice va vl vc]:=by
    have hkv : k < vss.length:=af
    have h1:=List.getElem?_eq_getElem hkv;have hoz : o = 0:=by
     exact uz
    subst hoz;have hc2 : ∀ (j : Nat) u,vss.flatten[j]? = some u → w.cell? ⟨b,j,none⟩ = some u:=fun j u hj => by
     obtain ⟨g,e,_,h3⟩:=HC.out j u hj;cases e;exact h3
    rw [h1];refine congrArg some (tj (HV.out.all k _ h1) (bE HV.out hc2 h1 al (by simpa using c0)) (bE HV.out hc2 h1 al (by simpa using c1)) (bE HV.out hc2 h1 al (by simpa using c2)) (bE HV.out hc2 h1 al (by simpa using c3)) (bE HV.out hc2 h1 al (by simpa using c4)) (bE HV.out hc2 h1 al (by simpa using c5)) (bE HV.out hc2 h1 al (by simpa using c6)) (bE HV.out hc2 h1 al (by simpa using c7)))
   have HX:=ae hx;have HVK:=ae hvk;replace c0:=(ak HB.out hb).trans c0;replace c1:=(ak HB.out hb).trans c1;replace c2:=(ak HB.out hb).trans c2;replace c3:=(ak HB.out hb).trans c3;replace c4:=(ak HB.out hb).trans c4;replace c5:=(ak HB.out hb).trans c5;replace c6:=(ak HB.out hb).trans c6;replace c7:=(ak HB.out hb).trans c7;have hbr : b < wr.heap.size:=Nat.lt_of_lt_of_le hb hBs;clear hat hx hvk hvr z0 z2 z3 z5;have hn8:=iF Vd.n t (xs.take k);have hn9 : (wo Vd.n t (xs.take k)).length ≤ k:=by rw [List.length_take] at hn8;omega
   go_wp2_with fail;refine (eh x va vl vc _).mono ?_;rintro e w1 ⟨rfl,hb1⟩;obtain ⟨hn1,hbx⟩:=aG hb1;obtain ⟨n0,n1,n2,n3,n4,n5,n6,n7⟩:=cs8 hn1;have hs1:=aa hn1;have HO1:=ae (bA HO.out hbx);have HB1:=ae (HB.out.trans (hbx.mono hBs));clear hb1 hbx hn1 c0 c1 c2 c3 c4 c5 c6 c7;cases hq : (x.n.toList == t.toList)
   ·have hq2 : (x.n.toList != t.toList) = true:=by simp [bne,hq]
    go_wp2_with (first | (at_builtin;refine wpList_append_own _ rfl _ _ 191 rfl w.heap.size 118 i0 (.agg #[.string ⟨#[]⟩,.int .i64 0,.string ⟨#[]⟩,.string ⟨#[]⟩,.bool false,.string ⟨#[]⟩,.bool false,.slice none 0 0]) 8 112 Tryz.underlying191 HI0.out.1 HI0.out.2.1 HI0.out.2.2.1 HI0.out.2.2.2 rfl al _ _ _ rfl (HO1.out.alloc _) ⟨w1.heap.size,0,none⟩ 1 1 [.string x.n,.int .i64 x.c,.string x.z,.string x.k,.bool x.x,.string x.m,.bool x.y,.slice va vl vc] rfl rfl ?c1 ?c2 ?c3 ?c4 ?c5 ?_));case c1 => exact cL _ _ _
    case c2 => intro u hu;simp only [List.mem_cons,List.not_mem_nil,or_false] at hu;rcases hu with rfl | rfl | rfl | rfl | rfl | rfl | rfl | rfl <;> rfl
    case c3 => unfold maxLen;omega
    case c4 => omega
    case c5 => simp;omega
    rintro v' w3 hown3 hgrow -;have HO3 : Hid (w3.ownsRow w.heap.size 118 8 v' (wo Vd.n t (xs.take (k + 1))).length (ws ++ ([[.string x.n,.int .i64 x.c,.string x.z,.string x.k,.bool x.x,.string x.m,.bool x.y,.slice va vl vc]] : List (List Value))).flatten):=by
     exact pj
    exact uN
   ·exact uH
  ·exact vQ

theorem eL.DL {w2 w3 w4 : World} {d : Ad} {c : Cr} {B : Nat} {P : Nat → Nat} (h : eL w2 d c (fun k => B ≤ k) P) (hB : B ≤ w2.heap.size) {a : Option Addr} {l cp : Nat} {rs : List (List Fv)} (hN : aB w3 a l cp 6 65 rs (fun k => ((B ≤ k ∧ P k = 5) ∧ k < w2.heap.size) ∨ w2.heap.size + 1 ≤ k)) (hb : Below w2.heap.size w2 w3) (hk : ∀ k,B ≤ k → ¬ k = w2.heap.size → w4.heap[k]? = w3.heap[k]?) : cf w4 ⟨d.a1,d.l1,d.c1,d.a2,d.l2,d.c2,d.a3,d.l3,d.c3,d.a4,d.l4,d.c4,a,l,cp⟩ ⟨c.n,c.k,c.v,c.x,rs⟩ (fun k => B ≤ k):=by
 refine ⟨fun k => if w2.heap.size + 1 ≤ k then 5 else P k,?_,?_,?_,?_,?_⟩
 ·exact h.n.aH (fun k hl s => (hk k s.1 af).trans (hb.block k hl)) (fun k hl s => ⟨s.1,by show (if w2.heap.size + 1 ≤ k then 5 else P k) = 1;rw [if_neg af];exact s.2⟩)
 ·exact h.k.aH (fun k hl s => (hk k s.1 af).trans (hb.block k hl)) (fun k hl s => ⟨s.1,by show (if w2.heap.size + 1 ≤ k then 5 else P k) = 2;rw [if_neg af];exact s.2⟩)
 ·exact h.v.aH (fun k hl s => (hk k s.1 af).trans (hb.block k hl)) (fun k hl s => ⟨s.1,by show (if w2.heap.size + 1 ≤ k then 5 else P k) = 3;rw [if_neg af];exact s.2⟩)
 ·exact h.x.aH (fun k hl s => (hk k s.1 af).trans (hb.block k hl)) (fun k hl s => ⟨s.1,by show (if w2.heap.size + 1 ≤ k then 5 else P k) = 4;rw [if_neg af];exact s.2⟩)
 ·refine hN.aH (fun k _ s => hk k (by rcases s with s | s;exact s.1.1;omega) (by rcases s with s | s <;> omega)) (fun k _ s => ?_);rcases s with s | s
  ·exact ⟨s.1.1,by show (if w2.heap.size + 1 ≤ k then 5 else P k) = 5;rw [if_neg af];exact s.1.2⟩
  ·exact ⟨by show B ≤ k;omega,if_pos s⟩

def DwWhy (c : Cl) (t : ByteArray) (St : Nat → Prop) : Nat → Prop
 | 0 => 8000 < t.size
 | 1 => ¬ 8000 < t.size ∧ ¬ aC c
 | i + 2 => ¬ 8000 < t.size ∧ aC c ∧ St (i + 2)
def DQ (E : Nat → Addr) (Why : Nat → Prop) (ok : Prop) (w : World) (e : Ending) (w' : World) : Prop:=Below w.heap.size w w' ∧ ((∃ i,i < 9 ∧ Why i ∧ e = .returned (.iface 255 (.pointer (some (E i))))) ∨ (ok ∧ e = .returned .nilIface))
def CN (c : Cl) (t : ByteArray) (St : Nat → Prop) (ok : Prop) (r : Cl) (o : Co) : Prop:=(∃ i,DwWhy c t St i ∧ o = co0 (cM i)) ∨ (¬ 8000 < t.size ∧ aC c ∧ ok ∧ o = ⟨r,⟨#[]⟩,0⟩)
theorem kN (p : Int) : qk 1 (co0 p).c.raw ≤ 1152921504606846976:=by simp [co0,cl0,Cl.raw,qk,dP]
theorem BH {α : Type} {nm : α → ByteArray} {t : ByteArray} {xs : List α} {j : Nat} {x : α} (h : (wo nm t xs)[j]? = some x) : ∃ i : Nat,xs[i]? = some x:=List.getElem?_of_mem (List.mem_filter.1 (List.mem_of_getElem? h)).1

def C0 (c : Cl) (t : ByteArray) (i : Nat) : Prop:=i = 2 ∧ hit Pd.n c.ps t = false
def BC (c : Cl) (t : ByteArray) : Cl:=⟨c.ns,c.ks,c.vs,c.xs,wo Pd.n t c.ps,c.now⟩
def kT (c : Cl) (t : ByteArray) (o : Co) : Prop:=CN c t (C0 c t) (hit Pd.n c.ps t = true) (BC c t) o
theorem kT.marks {c : Cl} {t : ByteArray} {o : Co} (h : kT c t o) (hf : fm c) : qk 1 o.c.raw ≤ 1152921504606846976:=by
 rcases h with ⟨i,_,rfl⟩ | ⟨_,_,_,rfl⟩
 ·exact kN _
 ·refine fm.marks (c:=BC c t) ⟨hf.l1,hf.f1,hf.l2,hf.l3,hf.f3,hf.l4,Nat.le_trans (iF _ _ _) hf.l5,fun j x hx => ?_⟩;obtain ⟨i,hi⟩:=BH (show (wo Pd.n t c.ps)[j]? = some x from hx);exact hf.f5 i x hi

theorem mH {w : World} {g : Nat} {cs : Array Value} {T : TypeId} {f : Nat × Nat} (h : w.heap[g]? = some (.cells cs T f)) : Below w.heap.size w (w.setRow g cs):=by
 refine ⟨rfl,rfl,rfl,by simp,fun k hk => ?_⟩;by_cases e : k = g
 ·subst e;rw [setRow_heap w k cs cs T f h,h]
 ·exact setRow_other w g k cs e

theorem cX {w : World} (t ty e : TypeId) (i : TypeInfo) (ht : Tryz.prog.underlying t = some (.slice e)) (hi : Tryz.prog.info? e = some i) (g cap : Nat) :
  (Builtin.append_ #[t,t] ty #[.slice (some ⟨g,0,none⟩) 0 0,.slice none 0 cap]).run Tryz.prog w = .ok (.slice (some ⟨g,0,none⟩) 0 0) w:=by
 simp [Builtin.append_,run_underlying ht,sizeOf,typeInfo,hi,Builtin.lenOf,Builtin.firstCells,storeCells]

theorem bV.here {w : World} {g l c : Nat} {zs : List ByteArray} {S S' : Nat → Prop} (h : bV w (some ⟨g,0,none⟩) l c zs S) (hS : S' g) : bV w (some ⟨g,0,none⟩) l c zs S' :=
 ⟨h.1,h.2.imp id fun ⟨g',cur,e,_,hg⟩ => by cases e;exact ⟨g,cur,rfl,hS,hg⟩⟩

theorem gD {w : World} {g0 : Nat} {va : Option Addr} {len cap : Nat} {zs : List ByteArray} (ty : TypeId) (hg : w.heap[g0]? = some (.cells #[] 9 (0,0))) (hr : ay w va len cap zs) (hl : len ≤ 8001) :
  ∃ a l c w',(Builtin.append_ #[63,63] ty #[.slice (some ⟨g0,0,none⟩) 0 0,.slice va len cap]).run Tryz.prog w = .ok (.slice a l c) w' ∧ bV w' a l c zs (fun k => k = g0 ∨ w.heap.size ≤ k) ∧ Below w.heap.size w w':=by
 obtain ⟨i0,hi,hz0,hz1,hz2⟩:=info_parts eX;have hzl : zs.length = len:=hr.1;rcases Nat.eq_zero_or_pos len with h0 | h0
 ·subst h0;obtain rfl : zs = []:=List.eq_nil_of_length_eq_zero hzl;cases va with
  | none => exact ⟨_,_,_,_,cX 63 ty 9 i0 Tryz.underlying63 hi g0 cap,⟨⟨rfl,Nat.le_refl _,by omega,fun j x hx => by simp at hx,.inl rfl⟩,.inl rfl⟩,Below.refl _ _⟩
  | some ad =>
   have h:=run_append_room (P:=Tryz.prog) w 63 ty 9 i0 Tryz.underlying63 hi g0 0 0 #[] hg ad 0 cap [] aN (fun j u hu => by simp at hu) (fun u hu => by simp at hu) af aN;exact ⟨_,_,_,_,h,⟨⟨rfl,Nat.le_refl _,by omega,fun j x hx => by simp at hx,.inl rfl⟩,.inl rfl⟩,by simpa using mH hg⟩
 ·cases va with
  | none =>
   rcases hr.2.2.2.2 with h | ⟨b,o,e,_⟩
   ·subst h;simp at hzl;omega
   ·cases e
  | some ad =>
   have h:=run_append_grow (P:=Tryz.prog) w 63 ty 9 i0 (.string ⟨#[]⟩) Tryz.underlying63 hi hz0 ⟨g0,0,none⟩ 0 0 [] aN (fun j u hu => by simp at hu) ad len cap (zs.map Value.string) (by rw [hz1];simpa using hzl) (Ap.rE hr) af af (growslice_fits af fL);obtain ⟨v',w',hr2,h2,h3,h4⟩:=run_append_own (P:=Tryz.prog) w (base:=0) 63 ty 9 i0 (.string ⟨#[]⟩) 1 16 Tryz.underlying63 hi hz0 hz1 hz2 rfl al (.slice (some ⟨g0,0,none⟩) 0 0) 0 [] ⟨rfl,.inr ⟨g0,0,#[],rfl,Nat.zero_le _,hg,Nat.le_refl _,by unfold maxLen;omega,rfl,rfl⟩⟩ ad len cap (zs.map Value.string) (by simpa using hzl) (Ap.rE hr) (fun u hu => by obtain ⟨x,_,rfl⟩:=List.mem_map.1 hu;rfl) cd af (Nat.zero_le _);rw [h] at hr2
   cases hr2
   rw [Nat.zero_add,List.nil_append] at h2;obtain ⟨a',c',e,hT⟩:=bV.jj h2 hr.2.2.2.1;have hbel : Below w.heap.size w (w.drew.alloc (.cells (([] : List Value).toArray ++ (zs.map Value.string).toArray ++ Builtin.zeroCells (Value.string ⟨#[]⟩).cells (grownCap w (0 + len) 0 9 - (0 + len))) 9)):=⟨rfl,rfl,rfl,by simp,fun k hk => heap_alloc_old w.drew _ (by simpa using hk)⟩;simp only [Nat.zero_add] at e h hbel ⊢
   cases e
   exact ⟨_,_,_,_,h,hT.here (.inr (Nat.le_refl _)),hbel⟩
theorem fD {ops : Array Oper} {rest : List Oper} {o : Oper} {a : Act} {w : World} {Q : Exit → Act → World → Prop} (hgd : o.guard = none) (s x : Operand) (ho : o.op = .call { callee:=.builtin .append,args:=#[s,x],argTypes:=#[63,63] }) (g0 : Nat) (hs : a.eval s = .slice (some ⟨g0,0,none⟩) 0 0) (hg : w.heap[g0]? = some (.cells #[] 9 (0,0)))
  (va : Option Addr) (len cap : Nat) (hx : a.eval x = .slice va len cap) (zs : List ByteArray) (hr : ay w va len cap zs) (hl : len ≤ 8001)
  (h : ∀ a' l c w',bV w' a' l c zs (fun k => k = g0 ∨ w.heap.size ≤ k) → Below w.heap.size w w' → wpList Tryz.prog ops Q rest (a.put o.dst (.slice a' l c)) w') : wpList Tryz.prog ops Q (o :: rest) a w:=by
 refine wpList_plain hgd fun K hK => ?_;obtain ⟨a',l,c,w',hrun,h1,h2⟩:=gD o.type hg hr hl;unfold Oper.wp execOp;simp only [ho,resolve,invoke,builtin,Sem.run_bind,Sem.run_pure,Result.andThen_ok,List.map_toArray,List.map_cons,List.map_nil,hs,hx,hrun];exact hK _ _ (h a' l c w' h1 h2)

theorem iv {w : World} {g0 : Nat} {va : Option Addr} {len cap m bytes : Nat} {rs : List (List Fv)} (t ty T : TypeId) (i : TypeInfo) (z : Value) (ht : Tryz.prog.underlying t = some (.slice T)) (hi : Tryz.prog.info? T = some i) (hz : i.zero = some z) (hsize : i.size = m) (hby : i.bytes = bytes) (hzs : z.cells.size = m) (hsz : 0 < m) (hT : ¬ T = 9) (hg : w.heap[g0]? = some (.cells #[] T (0,0)))
  (hr : aI w va len cap m rs) (hm : ∀ (j : Nat) r,rs[j]? = some r → r.length = m ∧ eK r) (hl : len ≤ 8) (hb8 : bytes ≤ 1000) :
  ∃ a c w',(Builtin.append_ #[t,t] ty #[.slice (some ⟨g0,0,none⟩) 0 0,.slice va len cap]).run Tryz.prog w = .ok (.slice a len c) w' ∧ aB w' a len c m T rs (fun k => k = g0 ∨ w.heap.size ≤ k) ∧ Below w.heap.size w w':=by
 rcases Nat.eq_zero_or_pos len with h0 | h0
 ·subst h0;obtain rfl : rs = []:=List.eq_nil_of_length_eq_zero hr.1;cases va with
  | none => exact ⟨_,_,_,cX t ty T i ht hi g0 cap,aB.nil _ _ _ _ _ af,Below.refl _ _⟩
  | some ad =>
   have h:=run_append_room (P:=Tryz.prog) w t ty T i ht hi g0 0 0 #[] hg ad 0 cap [] aN (fun j u hu => by simp at hu) (fun u hu => by simp at hu) af aN;exact ⟨_,_,_,h,aB.nil _ _ _ _ _ af,by simpa using mH hg⟩
 ·have hlen : ((rs.map dr).flatten).length = len * m:=by rw [cV (gh fun j r hj => (hm j r hj).1),List.length_map,hr.1]
  obtain ⟨ad,rfl,hnews⟩ : ∃ ad,va = some ad ∧ ∀ (j : Nat) u,((rs.map dr).flatten)[j]? = some u → w.cell? (ad.add j) = some u:=by
   rcases hr.2.2.2 with h | ⟨b,o,rfl,_⟩
   ·subst h;have:=hr.1;simp at this;omega
   ·exact ⟨_,rfl,kK hr hm⟩
  have h:=run_append_grow (P:=Tryz.prog) w t ty T i z ht hi hz ⟨g0,0,none⟩ 0 0 [] aN (fun j u hu => by simp at hu) ad len cap (rs.map dr).flatten (by rw [hsize];exact hlen) hnews af af (growslice_fits af (by rw [hby];have : (0 + len) * bytes ≤ 8 * 1000:=Nat.mul_le_mul af hb8;omega));obtain ⟨v',w',hr2,h2,h3,h4⟩:=run_append_own (P:=Tryz.prog) w (base:=0) t ty T i z m bytes ht hi hz hsize hby hzs hsz (.slice (some ⟨g0,0,none⟩) 0 0) 0 [] ⟨by simp,.inr ⟨g0,0,#[],rfl,Nat.zero_le _,hg,Nat.le_refl _,by unfold maxLen;omega,by simp,by simp⟩⟩ ad len cap (rs.map dr).flatten hlen hnews (eZ hr hm w (fun _ => True)).one cd Af (Nat.zero_le _);rw [h] at hr2;cases hr2;rw [Nat.zero_add,List.nil_append] at h2;obtain ⟨a',c',e,hR⟩:=(eZ hr hm _ (fun k => k = g0 ∨ w.heap.size ≤ k)).own h2 hr.1.symm hT (fun g hg => by simp [Value.ownBlock] at hg;exact .inr af);have hbel : Below w.heap.size w (w.drew.alloc (.cells (([] : List Value).toArray ++ ((rs.map dr).flatten).toArray ++ Builtin.zeroCells z.cells (grownCap w (0 + len) 0 T - (0 + len))) T)):=⟨rfl,rfl,rfl,by simp,fun k hk => heap_alloc_old w.drew _ (by simpa using hk)⟩;rw [hr.1] at e hR;simp only [Nat.zero_add] at e h hbel hR ⊢;cases e;exact ⟨_,_,_,h,hR,hbel⟩
theorem mb {o : Oper} {a : Act} {w : World} {K : Act → World → Prop} {Q : Exit → Act → World → Prop} {g0 : Nat} {va : Option Addr} {len cap m bytes : Nat} {rs : List (List Fv)} (s x : Operand) (t T : TypeId) (ho : o.op = .call { callee:=.builtin .append,args:=#[s,x],argTypes:=#[t,t] }) (i : TypeInfo) (z : Value) (ht : Tryz.prog.underlying t = some (.slice T)) (hi : Tryz.prog.info? T = some i) (hz : i.zero = some z) (hsize : i.size = m) (hby : i.bytes = bytes) (hzs : z.cells.size = m) (hsz : 0 < m) (hT : ¬ T = 9) (hs : a.eval s = .slice (some ⟨g0,0,none⟩) 0 0) (hg : w.heap[g0]? = some (.cells #[] T (0,0)))
  (hx : a.eval x = .slice va len cap) (hr : aI w va len cap m rs) (hm : ∀ (j : Nat) r,rs[j]? = some r → r.length = m ∧ eK r) (hl : len ≤ 8) (hb8 : bytes ≤ 1000)
  (h : ∀ a' c' w',aB w' a' len c' m T rs (fun k => k = g0 ∨ w.heap.size ≤ k) → Below w.heap.size w w' → K (a.put o.dst (.slice a' len c')) w') : o.wp Tryz.prog a w K Q:=by
 obtain ⟨a',c',w',hrun,h1,h2⟩:=iv t o.type T i z ht hi hz hsize hby hzs hsz hT hg hr hm hl hb8;unfold Oper.wp execOp;simp only [ho,resolve,invoke,builtin,Sem.run_bind,Sem.run_pure,Result.andThen_ok,List.map_toArray,List.map_cons,List.map_nil,hs,hx,hrun];exact h a' c' w' h1 h2

theorem rb {w w' : World} {o p : Obj} (h : Below (w.heap.size + 1 + 1) ((w.alloc o).alloc p) w') : w'.heap[w.heap.size]? = some o ∧ w'.heap[w.heap.size + 1]? = some p ∧ Below w.heap.size w w':=cP (by rw [df,df];exact h)
theorem fj (w : World) (n : Nat) (hn : w.heap.size = n) (vs : List Value) (T : TypeId) : ∀ (j : Nat) u,vs[j]? = some u → (w.alloc (.cells vs.toArray T)).cell? ((⟨n,0,none⟩ : Addr).add j) = some u:=by
 subst hn;exact cL w vs T
theorem DK {w : World} {b : Nat} {T : TypeId} {u0 u1 u2 u3 u4 u5 v0 v1 v2 v3 v4 v5 : Value} (h : w.heap[b]? = some (.cells #[u0,u1,u2,u3,u4,u5] T (0,0))) :
  ((((((w.setCell ⟨b,0,none⟩ v0).setCell ⟨b,1,none⟩ v1).setCell ⟨b,2,none⟩ v2).setCell ⟨b,3,none⟩ v3).setCell ⟨b,4,none⟩ v4).setCell ⟨b,5,none⟩ v5).heap[b]? = some (.cells #[v0,v1,v2,v3,v4,v5] T (0,0)) :=
 az (az (az (az (az (az h v0) v1) v2) v3) v4) v5
theorem d_ {w : World} {b k : Nat} {v0 v1 v2 v3 v4 v5 : Value} (hk : ¬ k = b) :
  ((((((w.setCell ⟨b,0,none⟩ v0).setCell ⟨b,1,none⟩ v1).setCell ⟨b,2,none⟩ v2).setCell ⟨b,3,none⟩ v3).setCell ⟨b,4,none⟩ v4).setCell ⟨b,5,none⟩ v5).heap[k]? = w.heap[k]?:=by
 rw [Below.heap_setCell _ _ _ _ hk,Below.heap_setCell _ _ _ _ hk,Below.heap_setCell _ _ _ _ hk,Below.heap_setCell _ _ _ _ hk,Below.heap_setCell _ _ _ _ hk,Below.heap_setCell _ _ _ _ hk]
theorem aB.j5 {w : World} {a : Option Addr} {len cap m : Nat} {T T' : TypeId} {rs : List (List Fv)} {S : Nat → Prop} (h : aB w a len cap m T rs S) {b : Nat} {cs : Array Value} (hb : w.heap[b]? = some (.cells cs T' (0,0))) (h1 : ¬ T' = T) (h2 : ¬ T' = 9) : aB w a len cap m T rs (fun k => S k ∧ ¬ k = b):=by
 obtain ⟨a1,a2,a3,a4⟩:=h;refine ⟨a1,a2,a3,a4.imp id ?_⟩;rintro ⟨g,cur,H,e,h5⟩;refine ⟨g,cur,H,e,h5.blk,⟨h5.inS,fun q => ?_⟩,h5.len,fun j r hj i f hi => ?_,h5.inj⟩
 ·subst q;have:=h5.blk;rw [hb] at this;cases this;exact h1 rfl
 ·obtain ⟨v,q1,q2⟩:=h5.cell j r hj i f hi;refine ⟨v,q1,?_⟩;cases f with
  | l zs =>
   obtain ⟨a',l',c',k1,k2,k3,k4,k5,k6⟩:=q2;refine ⟨a',l',c',k1,k2,k3,k4,k5,k6.imp id ?_⟩;rintro ⟨z1,z2,z3,cu,z4,z5⟩;refine ⟨z1,⟨z2,fun q => ?_⟩,z3,cu,z4,z5⟩;rw [q] at z4;rw [hb] at z4
   cases z4
   exact h2 rfl
  | _ => exact q2
theorem nN {w : World} {base n m : Nat} {T T' : TypeId} {v u : Value} {xs : List Value} {b i : Nat} {cs : Array Value} (h : w.ownsRow base T m v n xs) (hb : w.heap[b]? = some (.cells cs T' (0,0))) (hT : ¬ T' = T) : (w.setCell ⟨b,i,none⟩ u).ownsRow base T m v n xs:=by
 refine ⟨h.1,h.2.imp id ?_⟩;rintro ⟨g,cap,cur,h1,h2,h3,h4⟩;refine ⟨g,cap,cur,h1,h2,(Below.heap_setCell _ _ _ _ (fun e => ?_)).trans h3,h4⟩;subst e;rw [hb] at h3;cases h3;exact hT rfl
theorem aS.set {w : World} {S : Nat → Prop} {m : Nat} {rs : List (List Fv)} {vss : List (List Value)} {H : Nat → Nat → Nat} (h : aS w S m rs vss H) {b i : Nat} {cs : Array Value} {T' : TypeId} {u : Value} (hb : w.heap[b]? = some (.cells cs T' (0,0))) (hT : ¬ T' = 9) : aS (w.setCell ⟨b,i,none⟩ u) S m rs vss H :=
 h.aH (fun k cu _ q => Below.heap_setCell _ _ _ _ (fun e => by subst e;rw [hb] at q;cases q;exact hT rfl)) (fun _ _ s => s)
theorem aP.nP {S : Nat → Prop} {W w : World} {vb : Option Nat} (hg : W.grownBy w vb) (h : ∀ g,vb = some g → S g) : aP S W w:=⟨hg.os,hg.tape,hg.output,hg.size,fun k hk hn => hg.block k hk (fun e => hn (h k e.symm))⟩
theorem bj {w : World} {base n m : Nat} {T : TypeId} {v : Value} {xs : List Value} (h : w.ownsRow base T m v n xs) : ∃ a l c,v = .slice a l c:=by
 rcases h.2 with ⟨rfl,_⟩ | ⟨g,cap,cur,rfl,_⟩
 ·exact ⟨_,_,_,rfl⟩
 ·exact ⟨_,_,_,rfl⟩
abbrev Cps (b : Nat) (X : World) : Nat → Prop:=fun k => k = b ∨ X.heap.size ≤ k
theorem qQ {X wr W w5 : World} {b3 k m : Nat} {T TC : TypeId} {v : Value} {xs : List Value} {cs : Array Value} (hO : wr.ownsRow X.heap.size T m v k xs) (hBo : wr.heap[b3]? = some (.cells cs TC (0,0))) (hb3 : b3 < X.heap.size) (hb : Below wr.heap.size wr W) (hg : W.grownBy w5 v.ownBlock) : w5.heap[b3]? = some (.cells cs TC (0,0)) :=
 (hg.block b3 (Nat.lt_of_lt_of_le (aa hBo) hb.size) (fun e => by have:=(hO.lt b3 e.symm).1;omega)).trans ((hb.block _ (aa hBo)).trans hBo)
theorem rP {X wr W w5 : World} {b3 k m f : Nat} {T TC : TypeId} {v v' : Value} {rs : List (List Fv)} {vss : List (List Value)} {H : Nat → Nat → Nat} {cs : Array Value} {r : List Fv} {vs : List Value} {hh : Nat} (hK : aP (Cps b3 X) X wr) (hO : wr.ownsRow X.heap.size T m v k vss.flatten) (hV : aS wr (fun k => X.heap.size ≤ k) m rs vss H) (hBo : wr.heap[b3]? = some (.cells cs TC (0,0))) (hb3 : b3 < X.heap.size)
  (hb : Below wr.heap.size wr W) (hown : w5.ownsRow X.heap.size T m v' (k + 1) (vss.flatten ++ vs)) (hg : W.grownBy w5 v.ownBlock) (hT : ¬ T = 9) (hTC : ¬ TC = T) (hTS : ¬ TC = 9) (hr : r.length = m) (hvs : vs.length = m) (hc : ∀ (i : Nat) f,r[i]? = some f → ∃ v,vs[i]? = some v ∧ f.Fr W hh (fun k => X.heap.size ≤ k) v) (hfr : ∀ (i : Nat) zs,r[i]? = some (.l zs) → zs ≠ [] → wr.heap.size ≤ hh)
  (h1 : ∀ (i i' : Nat) zs zs',r[i]? = some (.l zs) → zs ≠ [] → r[i']? = some (.l zs') → zs' ≠ [] → i = i') :
  aP (Cps b3 X) X (w5.setCell ⟨b3,f,none⟩ v') ∧ (w5.setCell ⟨b3,f,none⟩ v').ownsRow X.heap.size T m v' (k + 1) (vss ++ [vs]).flatten ∧ (∃ H',aS (w5.setCell ⟨b3,f,none⟩ v') (fun k => X.heap.size ≤ k) m (rs ++ [r]) (vss ++ [vs]) H') ∧ (w5.setCell ⟨b3,f,none⟩ v').heap[b3]? = some (.cells (cs.setIfInBounds f v') TC (0,0)):=by
 have hb5:=qQ hO hBo hb3 hb hg;refine ⟨?_,?_,⟨_,(hV.app hb (bA hO hb) hT hg hr hvs hc hfr h1).set hb5 hTS⟩,az hb5 v'⟩
 ·exact ((hK.trans (aP.cU hb)).trans (aP.nP hg (fun g e => .inr (hO.lt g e).1))).set (.inl rfl)
 ·rw [List.flatten_append];refine nN ?_ hb5 hTC;simpa using hown
structure eM (w : World) (d : Ad) (c : Cr) (S : Nat → Prop) : Prop where
 n : aB w d.a1 d.l1 d.c1 7 72 c.n S
 k : aB w d.a2 d.l2 d.c2 4 116 c.k S
 v : aB w d.a3 d.l3 d.c3 8 118 c.v S
 x : aB w d.a4 d.l4 d.c4 5 120 c.x S
 p : aB w d.a5 d.l5 d.c5 6 65 c.p S
theorem eM.row {w : World} {d : Ad} {c : Cr} {S : Nat → Prop} (h : eM w d c S) : aM w d c:=⟨h.n.row,h.k.row,h.v.row,h.x.row,h.p.row⟩
def EmF (B : Nat) (T : TypeId) : Fact:=fun v w => ∃ b,v = .slice (some ⟨b,0,none⟩) 0 0 ∧ B ≤ b ∧ w.heap[b]? = some (.cells #[] T (0,0))
theorem EmF.mono (B : Nat) (T : TypeId) : Fact.bw (EmF B T):=by
 exact pK
def RwF (B len m : Nat) (T : TypeId) (rs : List (List Fv)) : Fact:=fun v w => ∃ a c,v = .slice a len c ∧ aB w a len c m T rs (fun k => B ≤ k)
theorem RwF.mono (B len m : Nat) (T : TypeId) (rs : List (List Fv)) : Fact.bw (RwF B len m T rs):=by
 rintro v w w' ⟨a,c,h1,h2⟩ hb;exact ⟨a,c,h1,h2.below hb⟩
def CpF (B l2 l4 : Nat) (c : Cl) : Fact:=fun v w => ∃ a2 c2 a4 c4,v = .agg #[.slice none 0 0,.slice a2 l2 c2,.slice none 0 0,.slice a4 l4 c4,.slice none 0 0,.int .i64 c.now] ∧ aB w a2 l2 c2 4 116 (c.ks.map kdF) (fun k => B ≤ k) ∧ aB w a4 l4 c4 5 120 (c.xs.map xdF) (fun k => B ≤ k)
theorem CpF.mono (B l2 l4 : Nat) (c : Cl) : Fact.bw (CpF B l2 l4 c):=by
 rintro v w w' ⟨a2,c2,a4,c4,h1,h2,h3⟩ hb;exact ⟨a2,c2,a4,c4,h1,h2.below hb,h3.below hb⟩
def FrF (B : Nat) : Fact:=fun v w => ∃ b,v = .pointer (some ⟨b,0,none⟩) ∧ B ≤ b ∧ w.heap[b]? = some (.cells #[.slice none 0 0,.slice none 0 0,.slice none 0 0,.slice none 0 0,.slice none 0 0,.int .i64 0] 37 (0,0))
theorem FrF.mono (B : Nat) : Fact.bw (FrF B):=by
 exact pK

def Rv (vb : Option Nat) (sp : Tmp) : Gi.Rs:=fun s w w' => match s with
 | none => w.grownBy w' vb
 | some t => if t = sp then w.grownBy w' vb else Below w.heap.size w w'
theorem bI {w w' : World} (vb : Option Nat) (h : Below w.heap.size w w') : w.grownBy w' vb:=⟨h.os,h.tape,h.output,h.size,fun k hk _ => h.block k hk⟩
theorem Rv.below {vb : Option Nat} {sp : Tmp} {s : Option Tmp} {w w' : World} (h : Rv vb sp s w w') (h1 : ¬ s = none) (h2 : ¬ s = some sp) : Below w.heap.size w w':=by
 cases s with
 | none => exact absurd rfl h1
 | some t =>
  simp only [Rv] at h;rw [if_neg (fun e => h2 (by rw [e]))] at h;exact h
theorem Rv.rel (vb : Option Nat) (sp : Tmp) : Gi.Rel (Rv vb sp) sp:=by
 refine ⟨fun w => bI vb (Below.refl _ _),fun {a b c} h k => ?_,fun h => World.grownBy.size h,fun w => bI vb (Below.refl _ _).drew,fun s {a b} h => ?_,fun s {a b} h1 h2 h => Rv.below h h1 h2⟩
 ·have h : World.grownBy a b vb:=h;have k : World.grownBy b c vb:=k;exact ⟨k.os.trans h.os,k.tape.trans h.tape,k.output.trans h.output,Nat.le_trans h.size k.size,fun i hi hn => (k.block i (Nat.lt_of_lt_of_le hi h.size) hn).trans (h.block i hi hn)⟩
 ·cases s with
  | none => exact h
  | some t =>
   show World.grownBy a b vb
   simp only [Rv] at h
   split at h
   ·exact h
   ·exact bI vb h
theorem Rv.other {vb : Option Nat} {sp t : Tmp} {w w' : World} (ht : ¬ t = sp) (h : Below w.heap.size w w') : Rv vb sp (some t) w w':=by
 show (if t = sp then w.grownBy w' vb else Below w.heap.size w w');rw [if_neg ht];exact h
theorem Rv.this {vb : Option Nat} {sp : Tmp} {w w' : World} (h : w.grownBy w' vb) : Rv vb sp (some sp) w w':=by
 show (if sp = sp then w.grownBy w' vb else Below w.heap.size w w');rw [if_pos rfl];exact h
theorem xR {w : World} {b : Nat} {vs : List Value} {T : TypeId} (h : w.heap[b]? = some (.cells vs.toArray T (0,0))) : ∀ (j : Nat) u,vs[j]? = some u → w.cell? ((⟨b,0,none⟩ : Addr).add j) = some u:=by
 intro j u hu;rw [Addr.add_lit,ah h,Nat.zero_add];simpa using hu
def TvF (B : Nat) (x : Vd) : Gi.Fact:=fun u w _ _ => ∃ a l c,u = .agg #[.string x.n,.int .i64 x.c,.string x.z,.string x.k,.bool x.x,.string x.m,.bool x.y,.slice a l c] ∧ bV w a l c x.zs (fun k => B ≤ k)
def BsF (B : Nat) (x : Vd) : Gi.Fact:=fun u w _ _ => ∃ b a l c,u = .slice (some ⟨b,0,none⟩) 1 1 ∧ B ≤ b ∧ w.heap[b]? = some (.cells #[.string x.n,.int .i64 x.c,.string x.z,.string x.k,.bool x.x,.string x.m,.bool x.y,.slice a l c] 118 (0,0)) ∧ bV w a l c x.zs (fun k => B ≤ k)
def ApF (B k : Nat) (rs : List (List Fv)) (vss : List (List Value)) : Gi.Fact:=fun u w _ _ => ∃ H' vs,w.ownsRow B 118 8 u (k + 1) (vss ++ [vs]).flatten ∧ aS w (fun k => B ≤ k) 8 rs (vss ++ [vs]) H'
theorem TvF.mono {vb : Option Nat} {sp : Tmp} {ex : Gi.Ex} {d : Option Tmp} {B : Nat} {x : Vd} (hv : ∀ g,vb = some g → g < B) : Gi.Fact.bw (Rv vb sp) ex d (TvF B x):=by
 rintro s _ _ _ v w w' l h ⟨a,l,c,h1,h2⟩ hb;have hb : w.grownBy w' vb:=(Rv.rel vb sp).sub s hb;exact ⟨a,l,c,h1,h2.aH (fun k hk s => hb.block k hk (fun e => by have s1 : B ≤ k:=s;have:=hv k e.symm;omega)) (fun _ _ s => s)⟩
theorem BsF.mono {vb : Option Nat} {sp : Tmp} {ex : Gi.Ex} {d : Option Tmp} {B : Nat} {x : Vd} (hv : ∀ g,vb = some g → g < B) : Gi.Fact.bw (Rv vb sp) ex d (BsF B x):=by
 rintro s _ _ _ v w w' l h ⟨b,a,l,c,h1,h2,h3,h4⟩ hb;have hb : w.grownBy w' vb:=(Rv.rel vb sp).sub s hb;exact ⟨b,a,l,c,h1,h2,(hb.block _ (aa h3) (fun e => by have:=hv b e.symm;omega)).trans h3,h4.aH (fun k hk s => hb.block k hk (fun e => by have s1 : B ≤ k:=s;have:=hv k e.symm;omega)) (fun _ _ s => s)⟩
theorem ApF.mono {vb : Option Nat} {sp : Tmp} {ex : Gi.Ex} {B k : Nat} {rs : List (List Fv)} {vss : List (List Value)} : Gi.Fact.bw (Rv vb sp) ex (some sp) (ApF B k rs vss):=by
 rintro s h1 h2 _ v w w' l h ⟨H',vs,h3,h4⟩ hb;have hb:=Rv.below hb h1 h2;exact ⟨H',vs,bA h3 hb,h4.below hb⟩

theorem oJ (d : Ad) (c : Cl) (w : World) (hr : aM w d c.raw) (hs : Sm c) :
  Calls Tryz.prog 43 #[.agg #[.slice d.a1 d.l1 d.c1,.slice d.a2 d.l2 d.c2,.slice d.a3 d.l3 d.c3,.slice d.a4 d.l4 d.c4,.slice d.a5 d.l5 d.c5,.int .i64 c.now]] w fun e w' => ∃ d',e = .returned (.agg #[.slice d'.a1 d'.l1 d'.c1,.slice d'.a2 d'.l2 d'.c2,.slice d'.a3 d'.l3 d'.c3,.slice d'.a4 d'.l4 d'.c4,.slice d'.a5 d'.l5 d'.c5,.int .i64 c.now]) ∧ eM w' d' c.raw (fun k => w.heap.size ≤ k) ∧ Below w.heap.size w w':=by
 obtain ⟨a1,l1,y1,a2,l2,y2,a3,l3,y3,a4,l4,y4,a5,l5,y5⟩:=d;dsimp only;obtain ⟨HR,hl1,hm1,hl2,hm2,hl3,hm3,hl4,hm4,hl5,hm5⟩:=ew;clear hr;have HS:=ae hs;clear hs;obtain ⟨i2,hi2⟩:=Option.map_eq_some_iff.1 qE;obtain ⟨i4,hi4⟩:=Option.map_eq_some_iff.1 gN;obtain ⟨i1,hi1⟩:=Option.map_eq_some_iff.1 qD;obtain ⟨i3,hi3⟩:=Option.map_eq_some_iff.1 fy;obtain ⟨i5,hi5⟩:=Option.map_eq_some_iff.1 gO;have HI1:=ae hi1;have HI2:=ae hi2;have HI3:=ae hi3;have HI4:=ae hi4;have HI5:=ae hi5;clear hi1 hi2 hi3 hi4 hi5;obtain ⟨W,hW0⟩ : ∃ W,W = (w.alloc (.cells #[.slice a1 l1 y1,.slice a2 l2 y2,.slice a3 l3 y3,.slice a4 l4 y4,.slice a5 l5 y5,.int .i64 c.now] 37)).alloc (.cells #[.slice none 0 0,.slice none 0 0,.slice none 0 0,.slice none 0 0,.slice none 0 0,.int .i64 0] 37):=⟨_,rfl⟩;have HB : Hid (Below w.heap.size w W):=by rw [hW0];exact aF _ _ _
 have Bk : Hid (W.heap[w.heap.size]? = some (.cells #[.slice a1 l1 y1,.slice a2 l2 y2,.slice a3 l3 y3,.slice a4 l4 y4,.slice a5 l5 y5,.int .i64 c.now] 37 (0,0))):=by rw [hW0];exact cK _ _ _
 obtain ⟨Br,hWs⟩:=Av;go_enter Tryz.func43,Tryz.ntmps43;go_wp2_with fail;rw [← hW0];clear hW0;rename_i K0 hK0;refine aT av rfl rfl av ?_;refine aw.step (EmF W.heap.size 116) rfl (EmF.mono _ _) ?_ ?_
 ·exact nv
 refine' aw.aq _ rfl ?_ ?_;rotate_left 1
 ·exact fv
 refine' aw.aq _ rfl ?_ ?_;rotate_left 1
 ·refine Obl.plain rfl ?_;intro ac wg K hsz hW hf hK;clear hsz;have e10:=hf 10 al;simp [ai,List.lookup] at e10;exact gF
 refine aw.step (RwF W.heap.size l2 4 116 (c.ks.map kdF)) rfl (RwF.mono _ _ _ _ _) ?_ ?_
 ·refine Obl.plain rfl ?_;intro ac wg K hsz hW hf hK;clear hsz;have e9:=hf 9 al;simp [ai,List.lookup] at e9;have e11:=hf 11 al;simp [ai,List.lookup] at e11;clear hf;obtain ⟨b0,e9,hB0,hg0⟩:=e9;have hz : i2.zero = some (.agg #[.string ⟨#[]⟩,.bool false,.bool false,.string ⟨#[]⟩]) ∧ i2.size = 4 ∧ i2.bytes = 40:=by have:=HI2.out.2;simp only [Prod.mk.injEq] at this;exact this
  refine mb (.tmp 9) (.tmp 11) 32 116 rfl i2 (.agg #[.string ⟨#[]⟩,.bool false,.bool false,.string ⟨#[]⟩]) Tryz.underlying32 HI2.out.1 hz.1 hz.2.1 hz.2.2 rfl al al (by simpa [Act.eval] using e9) hg0 (by simpa [Act.eval] using e11) (HR.out.k.below (HB.out.trans (hW.mono HB.out.size))) (fU rI _) (show l2 ≤ 8 by have:=HS.out.k;omega) al ?_;exact xd
 refine aw.step (EmF W.heap.size 120) rfl (EmF.mono _ _) ?_ ?_
 ·exact nv
 refine' aw.aq _ rfl ?_ ?_;rotate_left 1
 ·exact fv
 refine' aw.aq _ rfl ?_ ?_;rotate_left 1
 ·refine Obl.plain rfl ?_;intro ac wg K hsz hW hf hK;clear hsz;have e14:=hf 14 al;simp [ai,List.lookup] at e14;exact gF
 refine aw.step (RwF W.heap.size l4 5 120 (c.xs.map xdF)) rfl (RwF.mono _ _ _ _ _) ?_ ?_
 ·refine Obl.plain rfl ?_;intro ac wg K hsz hW hf hK;clear hsz;have e13:=hf 13 al;simp [ai,List.lookup] at e13;have e15:=hf 15 al;simp [ai,List.lookup] at e15;clear hf;obtain ⟨b0,e13,hB0,hg0⟩:=e13;have hz : i4.zero = some (.agg #[.string ⟨#[]⟩,.int .i64 0,.string ⟨#[]⟩,.bool false,.string ⟨#[]⟩]) ∧ i4.size = 5 ∧ i4.bytes = 64:=by have:=HI4.out.2;simp only [Prod.mk.injEq] at this;exact this
  refine mb (.tmp 13) (.tmp 15) 34 120 rfl i4 (.agg #[.string ⟨#[]⟩,.int .i64 0,.string ⟨#[]⟩,.bool false,.string ⟨#[]⟩]) Tryz.underlying34 HI4.out.1 hz.1 hz.2.1 hz.2.2 rfl al al (by simpa [Act.eval] using e13) hg0 (by simpa [Act.eval] using e15) (HR.out.x.below (HB.out.trans (hW.mono HB.out.size))) (fU qX _) (show l4 ≤ 8 by have:=HS.out.x;omega) al ?_;exact xd
 refine' aw.aq _ rfl ?_ ?_;rotate_left 1
 ·exact fv
 refine' aw.aq _ rfl ?_ ?_;rotate_left 1
 ·refine Obl.plain rfl ?_;intro ac wg K hsz hW hf hK;clear hsz;have e17:=hf 17 al;simp [ai,List.lookup] at e17;exact gF
 refine aw.step (CpF W.heap.size l2 l4 c) rfl (CpF.mono _ _ _ _) ?_ ?_
 ·refine Obl.plain rfl ?_;intro ac wg K hsz hW hf hK;clear hsz;have e12:=hf 12 al;simp [ai,List.lookup] at e12;have e16:=hf 16 al;simp [ai,List.lookup] at e16;have e18:=hf 18 al;simp [ai,List.lookup] at e18;clear hf;obtain ⟨p2,q2,e12,h12⟩:=e12;obtain ⟨p4,q4,e16,h16⟩:=e16;have H12:=ae h12;have H16:=ae h16;clear h12 h16;go_simp;exact hK _ _ (Below.refl _ _) ⟨p2,q2,p4,q4,rfl,H12.out,H16.out⟩
 refine aw.step (FrF W.heap.size) rfl (FrF.mono _) ?_ ?_
 ·exact nv
 refine aw.done ?_;intro q wz hW hf;simp only [List.forall_mem_cons] at hf;obtain ⟨⟨b3,h3,hb3,hg3⟩,⟨p2,q2,p4,q4,h19,hR2,hR4⟩,-⟩:=hf;obtain ⟨t0,t1,t2,t3,t4,t5⟩:=cs6 hg3;have f0:=au hg3 0;have f1:=au hg3 1;have f2:=au hg3 2;have f3:=au hg3 3;have f4:=au hg3 4;have f5:=au hg3 5;have BoX:=ae (DK (v0:=.slice none 0 0) (v1:=.slice p2 l2 q2) (v2:=.slice none 0 0) (v3:=.slice p4 l4 q4) (v4:=.slice none 0 0) (v5:=.int .i64 c.now) hg3);have HWX : Hid (Below W.heap.size W ((((((wz.setCell ⟨b3,0,none⟩ (.slice none 0 0)).setCell ⟨b3,1,none⟩ (.slice p2 l2 q2)).setCell ⟨b3,2,none⟩ (.slice none 0 0)).setCell ⟨b3,3,none⟩ (.slice p4 l4 q4)).setCell ⟨b3,4,none⟩ (.slice none 0 0)).setCell ⟨b3,5,none⟩ (.int .i64 c.now))):=ag hb3 (ag hb3 (ag hb3 (ag hb3 (ag hb3 (ag hb3 hW)))));have R2 : Hid (aB ((((((wz.setCell ⟨b3,0,none⟩ (.slice none 0 0)).setCell ⟨b3,1,none⟩ (.slice p2 l2 q2)).setCell ⟨b3,2,none⟩ (.slice none 0 0)).setCell ⟨b3,3,none⟩ (.slice p4 l4 q4)).setCell ⟨b3,4,none⟩ (.slice none 0 0)).setCell ⟨b3,5,none⟩ (.int .i64 c.now)) p2 l2 q2 4 116 (c.ks.map kdF) (fun k => W.heap.size ≤ k ∧ ¬ k = b3)):=(hR2.j5 hg3 al al).aH (fun k hk s => d_ s.2) (fun k _ s => s);have R4 : Hid (aB ((((((wz.setCell ⟨b3,0,none⟩ (.slice none 0 0)).setCell ⟨b3,1,none⟩ (.slice p2 l2 q2)).setCell ⟨b3,2,none⟩ (.slice none 0 0)).setCell ⟨b3,3,none⟩ (.slice p4 l4 q4)).setCell ⟨b3,4,none⟩ (.slice none 0 0)).setCell ⟨b3,5,none⟩ (.int .i64 c.now)) p4 l4 q4 5 120 (c.xs.map xdF) (fun k => W.heap.size ≤ k ∧ ¬ k = b3)):=(hR4.j5 hg3 al al).aH (fun k hk s => d_ s.2) (fun k _ s => s);clear hg3 hR2 hR4 hW;intro K hK;rw [if_pos bH];simp only [aE,List.foldr,Act.put,List.setIfInBounds_toArray,List.set_cons_zero,List.set_cons_succ,h3,h19];simp only [List.getLast];go_simp;refine hK _ _ ?_;refine hK0 _ _ ?_;clear hK hK0 K K0;generalize ((((((wz.setCell ⟨b3,0,none⟩ (.slice none 0 0)).setCell ⟨b3,1,none⟩ (.slice p2 l2 q2)).setCell ⟨b3,2,none⟩ (.slice none 0 0)).setCell ⟨b3,3,none⟩ (.slice p4 l4 q4)).setCell ⟨b3,4,none⟩ (.slice none 0 0)).setCell ⟨b3,5,none⟩ (.int .i64 c.now)) = X at BoX HWX R2 R4 ⊢;clear t0 t1 t2 t3 t4 t5 f0 f1 f2 f3 f4 f5;have HBX:=ae (HB.out.trans (HWX.out.mono HB.out.size));replace Bk:=ae ((HWX.out.block _ (aa Bk.out)).trans Bk.out);replace Br:=ae ((HWX.out.block _ (aa Br.out)).trans Br.out);have hb3X : b3 < X.heap.size:=aa BoX.out;clear HB;go_wp2;go_loopw [4] (fun vi wr => ∃ (k : Nat) (vss : List (List Value)) (H : Nat → Nat → Nat) (v : Value),k ≤ l1 ∧ vi = .int .i64 k ∧ Hid (aP (Cps b3 X) X wr) ∧ Hid (wr.ownsRow X.heap.size 72 7 v k vss.flatten) ∧ Hid (aS wr (fun k => X.heap.size ≤ k) 7 ((c.ns.take k).map ndF) vss H) ∧ Hid (wr.heap[b3]? = some (.cells #[v,.slice p2 l2 q2,.slice none 0 0,.slice p4 l4 q4,.slice none 0 0,.int .i64 c.now] 37 (0,0)))) (fun vi _ => l1 - (intOf vi).toNat);case atStart => exact ⟨0,[],fun _ _ => 0,.slice none 0 0,by omega,rfl,aP.refl _ _,World.ownsRow_nil _ _ _ _,aS.nil _ _ _ _,BoX⟩
 case round =>
  obtain ⟨k,vss,H,v,hk,rfl,HK,HO,HV,Bo⟩:=hrel;obtain ⟨hXs,HBW,BkR,hKs⟩:=uq;by_cases hlt : k < l1
  ·obtain ⟨b,o,x,rfl,hb0,hx,hat⟩:=cn HR.out.n hlt;obtain ⟨va,vl,vc,hvr,z0,z1,c0,c1,c2,c3,c4,c5,c6⟩:=bc hat;have hz8 : vl ≤ 8001:=by have h1:=hvr.1;have h2:=HS.out.ns k x hx;omega
   have HX:=ae hx;have HT:=ae hvr;have HZz0:=ae z0;have HZz1:=ae z1;clear hat hx hvr z0 z1;replace c0:=(ak HBW.out hb0).trans c0;replace c1:=(ak HBW.out hb0).trans c1;replace c2:=(ak HBW.out hb0).trans c2;replace c3:=(ak HBW.out hb0).trans c3;replace c4:=(ak HBW.out hb0).trans c4;replace c5:=(ak HBW.out hb0).trans c5;replace c6:=(ak HBW.out hb0).trans c6;obtain ⟨hbr,hkr,hor⟩:=tX;have hz : i1.zero = some (.agg #[.string ⟨#[]⟩,.string ⟨#[]⟩,.int .i64 0,.int .i64 0,.int .i64 0,.bool false,.slice none 0 0]) ∧ i1.size = 7 ∧ i1.bytes = 88:=by have:=HI1.out.2;simp only [Prod.mk.injEq] at this;exact this
   obtain ⟨k0,k1,k2,k3,k4,k5⟩:=cs6 BkR.out;go_wp2_with (first | (at_builtin;refine fD rfl _ _ rfl (wr.heap.size + 1) rfl (bK _ _ _) va vl vc rfl x.zs (HT.out.below (HBW.out.trans ((aF _ _ _).mono HBW.out.size))) hz8 ?_));intro a' l' c' w2 hT2 hb2;obtain ⟨hn2,-,hbx⟩:=rb hb2;obtain ⟨g,hg⟩:=hT2.fr;obtain ⟨hs2,hsl⟩:=Ai;have hb4 : Below wr.heap.size wr ((w2.setCell ⟨wr.heap.size,6,none⟩ (.slice a' l' c')).alloc (.cells #[.string x.n,.string x.z,.int .i64 x.c,.int .i64 x.s,.int .i64 x.u,.bool x.d,.slice a' l' c'] 72)):=(ag (Nat.le_refl _) hbx).alloc iR _;have HF4 : Hid (LFr ((w2.setCell ⟨wr.heap.size,6,none⟩ (.slice a' l' c')).alloc (.cells #[.string x.n,.string x.z,.int .i64 x.c,.int .i64 x.s,.int .i64 x.u,.bool x.d,.slice a' l' c'] 72)) g (fun k => X.heap.size ≤ k) x.zs (.slice a' l' c')):=hg.aH (fun cu _ q => (Below.heap_alloc _ _ _ (by simp [World.setCell];exact aa q)).trans (Below.heap_setCell _ _ _ _ (fun e => by subst e;rw [hn2] at q;cases q))) (fun _ s => by have:=hsl _ s;show X.heap.size ≤ g;omega);obtain ⟨HG,HB4,HO4⟩:=ux;obtain ⟨n0,n1,n2,n3,n4,n5,n6⟩:=cs7 hn2;have fn0:=au hn2 0;have fn1:=au hn2 1;have fn2:=au hn2 2;have fn3:=au hn2 3;have fn4:=au hn2 4;have fn5:=au hn2 5;have fn6:=au hn2 6;have bo2:=(hbx.block _ hor).trans Bo.out;obtain ⟨o0,o1,o2,o3,o4,o5⟩:=cs6 bo2;have hor2 : b3 < w2.heap.size:=aa bo2;have hne3 : ¬ b3 = wr.heap.size:=af
   clear hn2 hbx hT2 hg hb2 hsl hb4 bo2 k0 k1 k2 k3 k4 k5 c0 c1 c2 c3 c4 c5 c6;go_wp2_with (first | (at_builtin;refine wpList_append_own _ rfl _ _ 31 rfl X.heap.size 72 i1 (.agg #[.string ⟨#[]⟩,.string ⟨#[]⟩,.int .i64 0,.int .i64 0,.int .i64 0,.bool false,.slice none 0 0]) 7 88 Tryz.underlying31 HI1.out.1 hz.1 hz.2.1 hz.2.2 rfl al _ _ _ rfl HO4.out ⟨w2.heap.size,0,none⟩ 1 1 [.string x.n,.string x.z,.int .i64 x.c,.int .i64 x.s,.int .i64 x.u,.bool x.d,.slice a' l' c'] rfl rfl ?c1 ?c2 ?c3 ?c4 ?c5 ?_));case c1 => exact fj _ _ (by simp [World.setCell]) _ _
   case c2 => intro u hu;simp only [List.mem_cons,List.not_mem_nil,or_false] at hu;rcases hu with rfl | rfl | rfl | rfl | rfl | rfl | rfl <;> rfl
   case c3 => unfold maxLen;have:=HS.out.n;omega
   case c4 => have:=HS.out.n;omega
   case c5 => simp [World.setCell];omega
   rintro v' w5 hown5 hgrow -;obtain ⟨v1',v2',v3',rfl⟩:=bj hown5;clear n0 fn0 n1 fn1 n2 fn2 n3 fn3 n4 fn4 n5 fn5 n6 fn6 o0 o1 o2 o3 o4 o5;have bo5:=qQ HO.out Bo.out hb3X HB4.out hgrow;obtain ⟨hs1,hs2',⟨H',hs3⟩,hs4⟩:=rP (f:=0) (r:=ndF x) (vs:=[.string x.n,.string x.z,.int .i64 x.c,.int .i64 x.s,.int .i64 x.u,.bool x.d,.slice a' l' c']) (hh:=g) HK.out HO.out HV.out Bo.out hb3X HB4.out hown5 hgrow al al al rfl rfl (BB HZz0.out HZz1.out HF4.out) (fun i zs hi hz => HG.out zs (sx hi).2.symm hz) (fun i i' zs zs' h1 _ h2 _ => (sx h1).1.trans (sx h2).1.symm);have e1 : (c.ns.take (k + 1)).map ndF = (c.ns.take k).map ndF ++ [ndF x]:=by rw [List.take_add_one,HX.out];simp
   exact A1
  ·have hkl : k = l1:=af
   have h5:=HV.out;rw [List.take_of_length_le af] at h5;obtain ⟨p1,q1,hv,hR⟩:=h5.own HO.out bF al (fun g hg => (HO.out.lt g hg).1);have hl5 : (c.ns.map ndF).length = l1:=by simpa using hl1
   rw [hl5] at hv hR;subst hv;have R1:=ae (hR.j5 Bo.out al al);replace R2:=ae (R2.out.aH (fun k hk s => HK.out.block k hk (fun q9 => by rcases q9 with q9 | q9;exact s.2 q9;omega)) (fun _ _ s => s));replace R4:=ae (R4.out.aH (fun k hk s => HK.out.block k hk (fun q9 => by rcases q9 with q9 | q9;exact s.2 q9;omega)) (fun _ _ s => s));replace Br:=ae ((HK.out.block (w.heap.size + 1) af (fun s => by rcases s with s | s <;> omega)).trans Br.out);replace Bk:=BkR;replace BoX:=Bo;replace HBX:=HBW;have hb3X1 : b3 < wr.heap.size:=aa BoX.out;clear BkR Bo HBW h5 hR HV HO HK hl5 hkl hk hKs hXs;generalize wr = X1 at *;obtain ⟨k0,k1,k2,k3,k4,k5⟩:=cs6 Bk.out;go_wp2;clear k0 k1 k2 k3 k4 k5 hlt;go_loopw [6] (fun vi wr => ∃ (k : Nat) (vss : List (List Value)) (H : Nat → Nat → Nat) (v : Value),k ≤ l3 ∧ vi = .int .i64 k ∧ Hid (aP (Cps b3 X1) X1 wr) ∧ Hid (wr.ownsRow X1.heap.size 118 8 v k vss.flatten) ∧ Hid (aS wr (fun k => X1.heap.size ≤ k) 8 ((c.vs.take k).map vdF) vss H) ∧ Hid (wr.heap[b3]? = some (.cells #[.slice p1 l1 q1,.slice p2 l2 q2,v,.slice p4 l4 q4,.slice none 0 0,.int .i64 c.now] 37 (0,0)))) (fun vi _ => l3 - (intOf vi).toNat);case atStart => exact ⟨0,[],fun _ _ => 0,.slice none 0 0,by omega,rfl,aP.refl _ _,World.ownsRow_nil _ _ _ _,aS.nil _ _ _ _,BoX⟩
   case round =>
    obtain ⟨k,vss,H,v,hk,rfl,HK,HO,HV,Bo⟩:=hrel;obtain ⟨hXs,HBW,BkR,hKs⟩:=uq;by_cases hlt : k < l3
    ·obtain ⟨b,o,x,rfl,hb0,hx,hat⟩:=bC HR.out.v hlt;obtain ⟨va,vl,vc,hvr,z0,z2,z3,z5,c0,c1,c2,c3,c4,c5,c6,c7⟩:=aK hat;have hz8 : vl ≤ 8001:=by have h1:=hvr.1;have h2:=HS.out.vs k x hx;omega
     have HX:=ae hx;have HT:=ae hvr;have HZz0:=ae z0;have HZz2:=ae z2;have HZz3:=ae z3;have HZz5:=ae z5;clear hat hx hvr z0 z2 z3 z5;replace c0:=(ak HBW.out hb0).trans c0;replace c1:=(ak HBW.out hb0).trans c1;replace c2:=(ak HBW.out hb0).trans c2;replace c3:=(ak HBW.out hb0).trans c3;replace c4:=(ak HBW.out hb0).trans c4;replace c5:=(ak HBW.out hb0).trans c5;replace c6:=(ak HBW.out hb0).trans c6;replace c7:=(ak HBW.out hb0).trans c7;obtain ⟨hbr,hkr,hor⟩:=tX;have hz : i3.zero = some (.agg #[.string ⟨#[]⟩,.int .i64 0,.string ⟨#[]⟩,.string ⟨#[]⟩,.bool false,.string ⟨#[]⟩,.bool false,.slice none 0 0]) ∧ i3.size = 8 ∧ i3.bytes = 112:=by have:=HI3.out.2;simp only [Prod.mk.injEq] at this;exact this
     obtain ⟨k0,k1,k2,k3,k4,k5⟩:=cs6 BkR.out;have hvb : ∀ g,v.ownBlock = some g → g < wr.heap.size:=fun g hg => (HO.out.lt g hg).2;have hb0w : b < w.heap.size:=hb0;go_wp2_with fail;clear k0 k1 k2 k3 k4 k5;rename_i K0 hK0;refine Gi.aT (R:=Rv v.ownBlock 59) (ex:=fun _ => none) (Rv.rel _ _) av rfl rfl av av ?_;refine' Gi.aw.aq _ rfl ?_ ?_;rotate_left 1
     ·exact we
     refine' Gi.aw.aq _ rfl ?_ ?_;rotate_left 1
     ·refine Gi.Obl.plain rfl ?_;intro ac wg K lo hi hsz hW hpr hf hap hK;clear hsz hap hpr;have hW : wr.grownBy wg v.ownBlock:=hW;have e50:=hf 50 al;simp [Gi.ai,List.lookup] at e50;clear hf;obtain ⟨o0,o1,o2,o3,o4,o5⟩:=cs6 ((hW.block b3 hor (fun e => by have:=(HO.out.lt _ e.symm).1;omega)).trans Bo.out);exact iV
     refine' Gi.aw.aq _ rfl ?_ ?_;rotate_left 1
     ·refine Gi.Obl.plain rfl ?_;intro ac wg K lo hi hsz hW hpr hf hap hK;clear hsz hap hpr;have hW : wr.grownBy wg v.ownBlock:=hW;have e1:=hf 1 al;simp [Gi.ai,List.lookup] at e1;clear hf;exact iV
     refine' Gi.aw.aq _ rfl ?_ ?_;rotate_left 1
     ·refine Gi.Obl.plain rfl ?_;intro ac wg K lo hi hsz hW hpr hf hap hK;clear hsz hap hpr;have hW : wr.grownBy wg v.ownBlock:=hW;have e52:=hf 52 al;simp [Gi.ai,List.lookup] at e52;clear hf;obtain ⟨k0,k1,k2,k3,k4,k5⟩:=cs6 ((hW.block w.heap.size hkr (fun e => by have:=(HO.out.lt _ e.symm).1;omega)).trans BkR.out);exact iV
     refine' Gi.aw.aq _ rfl ?_ ?_;rotate_left 1
     ·refine Gi.Obl.plain rfl ?_;intro ac wg K lo hi hsz hW hpr hf hap hK;clear hsz hap hpr;have hW : wr.grownBy wg v.ownBlock:=hW;have e6:=hf 6 al;simp [Gi.ai,List.lookup] at e6;clear hf;exact iV
     refine' Gi.aw.aq _ rfl ?_ ?_;rotate_left 1
     ·refine Gi.Obl.plain rfl ?_;intro ac wg K lo hi hsz hW hpr hf hap hK;clear hsz hap hpr;have hW : wr.grownBy wg v.ownBlock:=hW;have e53:=hf 53 al;simp [Gi.ai,List.lookup] at e53;have e54:=hf 54 al;simp [Gi.ai,List.lookup] at e54;clear hf;exact iV
     refine' Gi.aw.aq _ rfl ?_ ?_;rotate_left 1
     ·refine Gi.Obl.plain rfl ?_;intro ac wg K lo hi hsz hW hpr hf hap hK;clear hsz hap hpr;have hW : wr.grownBy wg v.ownBlock:=hW;have e55:=hf 55 al;simp [Gi.ai,List.lookup] at e55;clear hf;have c0g:=(World.cell?_of_block (hW.block b hbr (fun e => by have:=(HO.out.lt _ e.symm).1;omega))).trans c0;have c1g:=(World.cell?_of_block (hW.block b hbr (fun e => by have:=(HO.out.lt _ e.symm).1;omega))).trans c1;have c2g:=(World.cell?_of_block (hW.block b hbr (fun e => by have:=(HO.out.lt _ e.symm).1;omega))).trans c2;have c3g:=(World.cell?_of_block (hW.block b hbr (fun e => by have:=(HO.out.lt _ e.symm).1;omega))).trans c3;have c4g:=(World.cell?_of_block (hW.block b hbr (fun e => by have:=(HO.out.lt _ e.symm).1;omega))).trans c4;have c5g:=(World.cell?_of_block (hW.block b hbr (fun e => by have:=(HO.out.lt _ e.symm).1;omega))).trans c5;have c6g:=(World.cell?_of_block (hW.block b hbr (fun e => by have:=(HO.out.lt _ e.symm).1;omega))).trans c6;have c7g:=(World.cell?_of_block (hW.block b hbr (fun e => by have:=(HO.out.lt _ e.symm).1;omega))).trans c7;exact iV
     refine Gi.aw.step (TvF wr.heap.size x) rfl (TvF.mono hvb) ?_ ?_
     ·refine Gi.Obl.plain rfl ?_;intro ac wg K lo hi hsz hW hpr hf hap hK;clear hsz hap hpr;have hW : wr.grownBy wg v.ownBlock:=hW;have e56:=hf 56 al;simp [Gi.ai,List.lookup] at e56;clear hf;have hBg:=HBW.out.grown hW HBW.out.size (fun g hg => by have:=(HO.out.lt g hg).1;omega);go_simp;refine (Ap.CQ x.n x.c x.z x.k x.x x.m x.y va vl vc x.zs _ (HT.out.below hBg) hz8).mono ?_;rintro e w6 ⟨a',l',c',rfl,ho1,ho2,hb6⟩;have hws:=hW.size;exact hK _ _ (Rv.other al hb6) ⟨a',l',c',rfl,bV.bs ⟨ho1,ho2⟩ (fun k _ s => Nat.le_trans hws s)⟩
     refine Gi.aw.step (BsF wr.heap.size x) rfl (BsF.mono hvb) ?_ ?_
     ·refine Gi.Obl.plain rfl ?_;intro ac wg K lo hi hsz hW hpr hf hap hK;clear hsz hap hpr;have hW : wr.grownBy wg v.ownBlock:=hW;have e57:=hf 57 al;simp [Gi.ai,List.lookup] at e57;clear hf;obtain ⟨a',l',c',e57,ho⟩:=e57;have HO7:=ae ho;clear ho;go_simp;exact hK _ _ (Rv.other al (an _ _)) ⟨_,a',l',c',rfl,hW.size,Array.getElem?_push_size,HO7.out.below (an _ _)⟩
     refine Gi.aw.step (ApF X1.heap.size k ((c.vs.take (k + 1)).map vdF) vss) rfl (ApF.mono) ?_ ?_
     ·refine Gi.Obl.plain rfl ?_;intro ac wg K lo hi hsz hW hpr hf hap hK;clear hsz hap;have hW : wr.grownBy wg v.ownBlock:=hW;have e51:=hf 51 al;simp [Gi.ai,List.lookup] at e51;have e58:=hf 58 al;simp [Gi.ai,List.lookup] at e58;clear hf;have hbW : Below wr.heap.size wr wg:=hpr rfl;clear hpr;obtain ⟨b5,a',l',c',e58,hb5,hg5,ho5⟩:=e58;obtain ⟨g,hg⟩:=ho5.fr;have hws:=hW.size;refine wp_append_own wg (.tmp 51) (.tmp 58) 33 rfl X1.heap.size 118 i3 (.agg #[.string ⟨#[]⟩,.int .i64 0,.string ⟨#[]⟩,.string ⟨#[]⟩,.bool false,.string ⟨#[]⟩,.bool false,.slice none 0 0]) 8 112 Tryz.underlying33 HI3.out.1 hz.1 hz.2.1 hz.2.2 rfl al v k vss.flatten (by simpa [Act.eval] using e51) (bA HO.out hbW) ⟨b5,0,none⟩ 1 1 [.string x.n,.int .i64 x.c,.string x.z,.string x.k,.bool x.x,.string x.m,.bool x.y,.slice a' l' c'] (by simpa [Act.eval] using e58) rfl (xR hg5) (by intro u hu;simp only [List.mem_cons,List.not_mem_nil,or_false] at hu;rcases hu with rfl | rfl | rfl | rfl | rfl | rfl | rfl | rfl <;> rfl) (by unfold maxLen;have:=HS.out.v;omega) (by have:=HS.out.v;omega) af ?_;intro v' w' hown hgr _;have hV:=HV.out.app (r:=vdF x) (vs:=[.string x.n,.int .i64 x.c,.string x.z,.string x.k,.bool x.x,.string x.m,.bool x.y,.slice a' l' c']) (hh:=g) hbW (bA HO.out hbW) al hgr rfl rfl (th HZz0.out HZz2.out HZz3.out HZz5.out (hg.aH (S':=fun k => X1.heap.size ≤ k) (fun cu _ q => rfl) (fun _ s => by have s1 : wr.heap.size ≤ g:=s;show X1.heap.size ≤ g;omega))) (fun i zs hi hz => by obtain ⟨_,rfl⟩:=r9 hi;exact (hg.lt hz).1) (fun i i' zs zs' h1 _ h2 _ => (r9 h1).1.trans (r9 h2).1.symm);have e1 : (c.vs.take (k + 1)).map vdF = (c.vs.take k).map vdF ++ [vdF x]:=by rw [List.take_add_one,HX.out];simp
      rw [← e1] at hV;exact hK _ _ (Rv.this hgr) ⟨_,[.string x.n,.int .i64 x.c,.string x.z,.string x.k,.bool x.x,.string x.m,.bool x.y,.slice a' l' c'],by rw [List.flatten_append];simpa using hown,hV⟩
     refine' Gi.aw.aq _ rfl ?_ ?_;rotate_left 1
     ·exact we
     refine Gi.aw.done ?_;intro q wz lo hi hW hf hap;clear hap;have hW : wr.grownBy wz v.ownBlock:=hW;simp only [List.forall_mem_cons] at hf;obtain ⟨h60,h59,-⟩:=hf;have h60:=h60 bS;obtain ⟨H',vs',hs2,hs3⟩:=h59 bS;obtain ⟨v',hv'⟩ : ∃ v',q 59 = v':=⟨_,rfl⟩;rw [hv'] at hs2;obtain ⟨v1',v2',v3',rfl⟩:=bj hs2;have bo5:=(hW.block b3 hor (fun e => by have:=(HO.out.lt _ e.symm).1;omega)).trans Bo.out;have HS1:=ae (((HK.out.trans (aP.nP hW (fun g e => .inr (HO.out.lt g e).1))).set (i:=2) (v:=.slice v1' v2' v3') (.inl rfl)));have HS2:=ae (nN (i:=2) (u:=.slice v1' v2' v3') hs2 bo5 al);have HS3:=ae (hs3.set (i:=2) (u:=.slice v1' v2' v3') bo5 al);have HS4:=ae (az (i:=2) bo5 (.slice v1' v2' v3'));obtain ⟨o0,o1,o2,o3,o4,o5⟩:=cs6 bo5;have fo0:=au bo5 0;have fo1:=au bo5 1;have fo2:=au bo5 2;have fo3:=au bo5 3;have fo4:=au bo5 4;have fo5:=au bo5 5;clear bo5 hs2 hs3 hW c0 c1 c2 c3 c4 c5 c6 c7;intro K hK;rw [if_pos bH];simp only [Gi.aE,List.foldr,Act.put,List.setIfInBounds_toArray,List.set_cons_zero,List.set_cons_succ,h60,hv'];simp only [List.getLast];go_simp;refine hK _ _ ?_;refine hK0 _ _ ?_;clear hK hK0 K K0;go_wp2;exact ⟨⟨k + 1,_,H',_,by omega,by go_num,HS1,HS2,HS3,HS4⟩,by simp [intOf];omega⟩
    ·have hkl : k = l3:=af
     have h5:=HV.out;rw [List.take_of_length_le af] at h5;obtain ⟨p3,q3,hv,hR⟩:=h5.own HO.out bF al (fun g hg => (HO.out.lt g hg).1);have hl5 : (c.vs.map vdF).length = l3:=by simpa using hl3
     rw [hl5] at hv hR;subst hv;have R3:=ae (hR.j5 Bo.out al al);replace R2:=ae (R2.out.aH (fun k hk s => HK.out.block k hk (fun q9 => by rcases q9 with q9 | q9;exact s.2 q9;omega)) (fun _ _ s => s));replace R4:=ae (R4.out.aH (fun k hk s => HK.out.block k hk (fun q9 => by rcases q9 with q9 | q9;exact s.2 q9;omega)) (fun _ _ s => s));replace R1:=ae (R1.out.aH (fun k hk s => HK.out.block k hk (fun q9 => by rcases q9 with q9 | q9;exact s.2 q9;omega)) (fun _ _ s => s));replace Br:=ae ((HK.out.block (w.heap.size + 1) af (fun s => by rcases s with s | s <;> omega)).trans Br.out);replace Bk:=BkR;replace BoX:=Bo;replace HBX:=HBW;have hb3X2 : b3 < wr.heap.size:=aa BoX.out;clear BkR Bo HBW h5 hR HV HO HK hl5 hkl hk hKs hXs;generalize wr = X2 at *;obtain ⟨k0,k1,k2,k3,k4,k5⟩:=cs6 Bk.out;go_wp2;clear k0 k1 k2 k3 k4 k5 hlt;go_loopw [7] (fun vi wr => ∃ (k : Nat) (vss : List (List Value)) (H : Nat → Nat → Nat) (v : Value),k ≤ l5 ∧ vi = .int .i64 k ∧ Hid (aP (Cps b3 X2) X2 wr) ∧ Hid (wr.ownsRow X2.heap.size 65 6 v k vss.flatten) ∧ Hid (aS wr (fun k => X2.heap.size ≤ k) 6 ((c.ps.take k).map pdF) vss H) ∧ Hid (wr.heap[b3]? = some (.cells #[.slice p1 l1 q1,.slice p2 l2 q2,.slice p3 l3 q3,.slice p4 l4 q4,v,.int .i64 c.now] 37 (0,0)))) (fun vi _ => l5 - (intOf vi).toNat);case atStart => exact ⟨0,[],fun _ _ => 0,.slice none 0 0,by omega,rfl,aP.refl _ _,World.ownsRow_nil _ _ _ _,aS.nil _ _ _ _,BoX⟩
     case round =>
      obtain ⟨k,vss,H,v,hk,rfl,HK,HO,HV,Bo⟩:=hrel;obtain ⟨hXs,HBW,BkR,hKs⟩:=uq;by_cases hlt : k < l5
      ·obtain ⟨b,o,x,rfl,hb0,hx,hat⟩:=bQ HR.out.p hlt;obtain ⟨va,vl,vc,hvr,z0,z2,z4,c0,c1,c2,c3,c4,c5⟩:=aU hat;have hz8 : vl ≤ 8001:=by have h1:=hvr.1;have h2:=HS.out.ps k x hx;omega
       have HX:=ae hx;have HT:=ae hvr;have HZz0:=ae z0;have HZz2:=ae z2;have HZz4:=ae z4;clear hat hx hvr z0 z2 z4;replace c0:=(ak HBW.out hb0).trans c0;replace c1:=(ak HBW.out hb0).trans c1;replace c2:=(ak HBW.out hb0).trans c2;replace c3:=(ak HBW.out hb0).trans c3;replace c4:=(ak HBW.out hb0).trans c4;replace c5:=(ak HBW.out hb0).trans c5;obtain ⟨hbr,hkr,hor⟩:=tX;have hz : i5.zero = some (.agg #[.string ⟨#[]⟩,.int .i64 0,.string ⟨#[]⟩,.slice none 0 0,.string ⟨#[]⟩,.int .i64 0]) ∧ i5.size = 6 ∧ i5.bytes = 88:=by have:=HI5.out.2;simp only [Prod.mk.injEq] at this;exact this
       obtain ⟨k0,k1,k2,k3,k4,k5⟩:=cs6 BkR.out;go_wp2_with (first | (at_builtin;refine fD rfl _ _ rfl (wr.heap.size + 1) rfl (bK _ _ _) va vl vc rfl x.zs (HT.out.below (HBW.out.trans ((aF _ _ _).mono HBW.out.size))) hz8 ?_));intro a' l' c' w2 hT2 hb2;obtain ⟨hn2,-,hbx⟩:=rb hb2;obtain ⟨g,hg⟩:=hT2.fr;obtain ⟨hs2,hsl⟩:=Ai;have hb4 : Below wr.heap.size wr ((w2.setCell ⟨wr.heap.size,3,none⟩ (.slice a' l' c')).alloc (.cells #[.string x.n,.int .i64 x.c,.string x.z,.slice a' l' c',.string x.d,.int .i64 x.p] 65)):=(ag (Nat.le_refl _) hbx).alloc iR _;have HF4 : Hid (LFr ((w2.setCell ⟨wr.heap.size,3,none⟩ (.slice a' l' c')).alloc (.cells #[.string x.n,.int .i64 x.c,.string x.z,.slice a' l' c',.string x.d,.int .i64 x.p] 65)) g (fun k => X2.heap.size ≤ k) x.zs (.slice a' l' c')):=hg.aH (fun cu _ q => (Below.heap_alloc _ _ _ (by simp [World.setCell];exact aa q)).trans (Below.heap_setCell _ _ _ _ (fun e => by subst e;rw [hn2] at q;cases q))) (fun _ s => by have:=hsl _ s;show X2.heap.size ≤ g;omega);obtain ⟨HG,HB4,HO4⟩:=ux;obtain ⟨n0,n1,n2,n3,n4,n5⟩:=cs6 hn2;have fn0:=au hn2 0;have fn1:=au hn2 1;have fn2:=au hn2 2;have fn3:=au hn2 3;have fn4:=au hn2 4;have fn5:=au hn2 5;have bo2:=(hbx.block _ hor).trans Bo.out;obtain ⟨o0,o1,o2,o3,o4,o5⟩:=cs6 bo2;have hor2 : b3 < w2.heap.size:=aa bo2;have hne3 : ¬ b3 = wr.heap.size:=af
       clear hn2 hbx hT2 hg hb2 hsl hb4 bo2 k0 k1 k2 k3 k4 k5 c0 c1 c2 c3 c4 c5;go_wp2_with (first | (at_builtin;refine wpList_append_own _ rfl _ _ 35 rfl X2.heap.size 65 i5 (.agg #[.string ⟨#[]⟩,.int .i64 0,.string ⟨#[]⟩,.slice none 0 0,.string ⟨#[]⟩,.int .i64 0]) 6 88 Tryz.underlying35 HI5.out.1 hz.1 hz.2.1 hz.2.2 rfl al _ _ _ rfl HO4.out ⟨w2.heap.size,0,none⟩ 1 1 [.string x.n,.int .i64 x.c,.string x.z,.slice a' l' c',.string x.d,.int .i64 x.p] rfl rfl ?c1 ?c2 ?c3 ?c4 ?c5 ?_));case c1 => exact fj _ _ (by simp [World.setCell]) _ _
       case c2 => intro u hu;simp only [List.mem_cons,List.not_mem_nil,or_false] at hu;rcases hu with rfl | rfl | rfl | rfl | rfl | rfl <;> rfl
       case c3 => unfold maxLen;have:=HS.out.p;omega
       case c4 => have:=HS.out.p;omega
       case c5 => simp [World.setCell];omega
       rintro v' w5 hown5 hgrow -;obtain ⟨v1',v2',v3',rfl⟩:=bj hown5;clear n0 fn0 n1 fn1 n2 fn2 n3 fn3 n4 fn4 n5 fn5 o0 o1 o2 o3 o4 o5;have bo5:=qQ HO.out Bo.out hb3X2 HB4.out hgrow;obtain ⟨hs1,hs2',⟨H',hs3⟩,hs4⟩:=rP (f:=4) (r:=pdF x) (vs:=[.string x.n,.int .i64 x.c,.string x.z,.slice a' l' c',.string x.d,.int .i64 x.p]) (hh:=g) HK.out HO.out HV.out Bo.out hb3X2 HB4.out hown5 hgrow al al al rfl rfl (BA HZz0.out HZz2.out HZz4.out HF4.out) (fun i zs hi hz => HG.out zs (sr hi).2.symm hz) (fun i i' zs zs' h1 _ h2 _ => (sr h1).1.trans (sr h2).1.symm);have e1 : (c.ps.take (k + 1)).map pdF = (c.ps.take k).map pdF ++ [pdF x]:=by rw [List.take_add_one,HX.out];simp
       exact A1
      ·have hkl : k = l5:=af
       have h5:=HV.out;rw [List.take_of_length_le af] at h5;obtain ⟨p5,q5,hv,hR⟩:=h5.own HO.out bF al (fun g hg => (HO.out.lt g hg).1);have hl5 : (c.ps.map pdF).length = l5:=by simpa using hl5
       rw [hl5] at hv hR;subst hv;have R5:=ae (hR.j5 Bo.out al al);replace R2:=ae (R2.out.aH (fun k hk s => HK.out.block k hk (fun q9 => by rcases q9 with q9 | q9;exact s.2 q9;omega)) (fun _ _ s => s));replace R4:=ae (R4.out.aH (fun k hk s => HK.out.block k hk (fun q9 => by rcases q9 with q9 | q9;exact s.2 q9;omega)) (fun _ _ s => s));replace R1:=ae (R1.out.aH (fun k hk s => HK.out.block k hk (fun q9 => by rcases q9 with q9 | q9;exact s.2 q9;omega)) (fun _ _ s => s));replace R3:=ae (R3.out.aH (fun k hk s => HK.out.block k hk (fun q9 => by rcases q9 with q9 | q9;exact s.2 q9;omega)) (fun _ _ s => s));replace Br:=ae ((HK.out.block (w.heap.size + 1) af (fun s => by rcases s with s | s <;> omega)).trans Br.out);replace Bk:=BkR;replace BoX:=Bo;replace HBX:=HBW;have hb3X3 : b3 < wr.heap.size:=aa BoX.out;clear BkR Bo HBW h5 hR HV HO HK hl5 hkl hk hKs hXs;generalize wr = X3 at *;obtain ⟨k0,k1,k2,k3,k4,k5⟩:=cs6 Bk.out;obtain ⟨o0,o1,o2,o3,o4,o5⟩:=cs6 BoX.out;obtain ⟨r0,r1,r2,r3,r4,r5⟩:=cs6 Br.out;have hXs:=HBX.out.size;obtain ⟨fr0,fr1,fr2,fr3,fr4,fr5⟩:=eE;go_wp2;refine bodyPost_ret (v:=.agg #[.slice p1 l1 q1,.slice p2 l2 q2,.slice p3 l3 q3,.slice p4 l4 q4,.slice p5 l5 q5,.int .i64 c.now]) (by simp [results,Tryz.results43,go_sem, *]) rfl ⟨⟨p1,l1,q1,p2,l2,q2,p3,l3,q3,p4,l4,q4,p5,l5,q5⟩,rfl,⟨?_,?_,?_,?_,?_⟩,sb1 (sb1 (sb1 (sb1 (sb1 (sb1 (HBX.out))))))⟩
       ·exact (R1.out.aH (S':=fun k => w.heap.size ≤ k) (fun k hk s => d_ (by have s1 : X.heap.size ≤ k:=s.1;omega)) (fun k _ s => by have s1 : X.heap.size ≤ k:=s.1;show w.heap.size ≤ k;omega))
       ·exact (R2.out.aH (S':=fun k => w.heap.size ≤ k) (fun k hk s => d_ (by have s1 : W.heap.size ≤ k:=s.1;omega)) (fun k _ s => by have s1 : W.heap.size ≤ k:=s.1;show w.heap.size ≤ k;omega))
       ·exact (R3.out.aH (S':=fun k => w.heap.size ≤ k) (fun k hk s => d_ (by have s1 : X1.heap.size ≤ k:=s.1;omega)) (fun k _ s => by have s1 : X1.heap.size ≤ k:=s.1;show w.heap.size ≤ k;omega))
       ·exact (R4.out.aH (S':=fun k => w.heap.size ≤ k) (fun k hk s => d_ (by have s1 : W.heap.size ≤ k:=s.1;omega)) (fun k _ s => by have s1 : W.heap.size ≤ k:=s.1;show w.heap.size ≤ k;omega))
       ·exact (R5.out.aH (S':=fun k => w.heap.size ≤ k) (fun k hk s => d_ (by have s1 : X2.heap.size ≤ k:=s.1;omega)) (fun k _ s => by have s1 : X2.heap.size ≤ k:=s.1;show w.heap.size ≤ k;omega))

theorem dQ {m : Nat} {vss : List (List Value)} (hl : ∀ (j : Nat) vs,vss[j]? = some vs → vs.length = m) {k : Nat} (hk : k ≤ vss.length) : (vss.take k).flatten.length = k * m:=by
 rw [cV (m:=m) (fun j vs h => ?_),List.length_take,Nat.min_eq_left hk];rw [List.getElem?_take] at h;split at h
 ·exact hl j vs h
 ·cases h
theorem gS {m : Nat} {vss : List (List Value)} (hl : ∀ (j : Nat) vs,vss[j]? = some vs → vs.length = m) {k : Nat} : (vss.drop k).flatten.length = (vss.length - k) * m:=by
 rw [cV (m:=m) (fun j vs h => ?_),List.length_drop];rw [List.getElem?_drop] at h;exact hl _ vs h
theorem kZ {vss : List (List Value)} {k i : Nat} {u : Value} (h : (vss.take k).flatten[i]? = some u) : vss.flatten[i]? = some u:=by
 have h1 : vss.flatten = (vss.take k).flatten ++ (vss.drop k).flatten:=rk
 rw [h1,List.getElem?_append_left (List.getElem?_eq_some_iff.1 h).1];exact h
theorem lT {m : Nat} {vss : List (List Value)} (hl : ∀ (j : Nat) vs,vss[j]? = some vs → vs.length = m) {k i : Nat} {u : Value} (hk : k ≤ vss.length) (h : (vss.drop k).flatten[i]? = some u) : vss.flatten[k * m + i]? = some u:=by
 have h1 : vss.flatten = (vss.take k).flatten ++ (vss.drop k).flatten:=rk
 rw [h1,List.getElem?_append_right (by rw [dQ hl hk];omega),dQ hl hk,Nat.add_sub_cancel_left];exact h
theorem cw {P : Value → Prop} {vss : List (List Value)} (h : ∀ u ∈ vss.flatten,P u) (k : Nat) : (∀ u ∈ (vss.take k).flatten,P u) ∧ ∀ u ∈ (vss.drop k).flatten,P u:=by
 have h1 : vss.flatten = (vss.take k).flatten ++ (vss.drop k).flatten:=rk
 exact ⟨fun u hu => h u (by rw [h1];exact List.mem_append_left _ hu),fun u hu => h u (by rw [h1];exact List.mem_append_right _ hu)⟩

theorem mf {α : Type} {nm : α → ByteArray} {t : ByteArray} {xs : List α} {k : Nat} {x : α} (hr : aJ nm xs) (hx : xs[k]? = some x) (hn : nm x = t) : wo nm t xs = xs.take k ++ xs.drop (k + 1):=by
 have hk : k < xs.length:=(List.getElem?_eq_some_iff.1 hx).1;have e : xs = xs.take k ++ x :: xs.drop (k + 1):=by
  have h1 : xs.drop k = x :: xs.drop (k + 1):=by rw [List.drop_eq_getElem_cons hk];congr 1;exact (List.getElem?_eq_some_iff.1 hx).2
  rw [← h1,List.take_append_drop]
 have hno : ∀ (j : Nat) y,xs[j]? = some y → ¬ j = k → (!((nm y).toList == t.toList)) = true:=fun j y hj hne => by
  have : ¬ nm y = t:=fun q => hne (hr.inj hj hx (q.trans hn.symm)).1;simp [bo this]
 have h1 : (xs.take k).filter (fun x => !((nm x).toList == t.toList)) = xs.take k:=List.filter_eq_self.2 fun y hy => by
  obtain ⟨j,hj⟩:=List.getElem?_of_mem hy;rw [List.getElem?_take] at hj;split at hj
  ·exact hno j y hj af
  ·cases hj
 have h2 : (xs.drop (k + 1)).filter (fun x => !((nm x).toList == t.toList)) = xs.drop (k + 1):=List.filter_eq_self.2 fun y hy => by
  obtain ⟨j,hj⟩:=List.getElem?_of_mem hy;rw [List.getElem?_drop] at hj;exact hno _ y hj af
 unfold wo;conv => lhs;rw [e]
 rw [List.filter_append,List.filter_cons,h1,h2,aV hn];rfl

theorem gC (w : World) (t t' ty e e' : TypeId) (i : TypeInfo) (ht : Tryz.prog.underlying t = some (.slice e)) (ht' : Tryz.prog.underlying t' = some (.slice e')) (hi : Tryz.prog.info? e = some i) (a : Option Addr) (l c : Nat) (b : Value) : (Builtin.append_ #[t,t'] ty #[.slice a l c,b]).run Tryz.prog w = (Builtin.append_ #[t,t] ty #[.slice a l c,b]).run Tryz.prog w:=by
 simp [Builtin.append_,run_underlying ht,run_underlying ht',sizeOf,typeInfo,hi]
theorem bm {w : World} {ops : Array Oper} {rest : List Oper} {o : Oper} {a : Act} {Q : Exit → Act → World → Prop} (hgd : o.guard = none) (s x : Operand) (t t' : TypeId)
  (ho : o.op = .call { callee:=.builtin .append,args:=#[s,x],argTypes:=#[t,t'] })
  (base : Nat) (e e' : TypeId) (i : TypeInfo) (z : Value) (size bytes : Nat) (ht : Tryz.prog.underlying t = some (.slice e)) (ht' : Tryz.prog.underlying t' = some (.slice e')) (hi : Tryz.prog.info? e = some i) (hz : i.zero = some z)
  (hsize : i.size = size) (hby : i.bytes = bytes) (hzs : z.cells.size = size) (hsz : 0 < size)
  (v : Value) (n : Nat) (xs : List Value) (hs : a.eval s = v) (hown : w.ownsRow base e size v n xs)
  (ad : Addr) (m c : Nat) (news : List Value) (hx : a.eval x = .slice (some ad) m c) (hl : news.length = m * size) (hnews : ∀ j u,news[j]? = some u → w.cell? (ad.add j) = some u) (h1 : ∀ u ∈ news,u.oneCell' = true)
  (h63 : n + m ≤ maxLen) (hbytes : (n + m) * bytes ≤ 140737488355328) (hbase : base ≤ w.heap.size)
  (h : ∀ v' w',w'.ownsRow base e size v' (n + m) (xs ++ news) → w.grownBy w' v.ownBlock → wpList Tryz.prog ops Q rest (a.put o.dst v') w') : wpList Tryz.prog ops Q (o :: rest) a w:=by
 refine wpList_plain hgd fun K hK => ?_;obtain ⟨v',w',hr,h2,h3,h4⟩:=run_append_own (P:=Tryz.prog) w base t o.type e i z size bytes ht hi hz hsize hby hzs hsz v n xs hown ad m c news hl hnews h1 h63 hbytes hbase;obtain ⟨va,vl,vc,rfl⟩ : ∃ a l c,v = .slice a l c:=by
  exact vF
 rw [← gC w t t' o.type e e' i ht ht' hi] at hr;exact xj
theorem bg (w : World) (dT sT ty elem : TypeId) (g o dLen dCap : Nat) (a : Addr) (sLen sCap m : Nat) (cur : Array Value) (t : TypeId) (cs : List Value) (i : TypeInfo)
  (hu : Tryz.prog.underlying dT = some (.slice elem)) (hi : Tryz.prog.info? elem = some i) (hs : i.size = m)
  (hg : w.heap[g]? = some (.cells cur t (0,0))) (hn : cs.length = Nat.min sLen dLen * m)
  (hsrc : ∀ j v,cs[j]? = some v → w.cell? (a.add j) = some v) (hfit : o + cs.length ≤ cur.size) (h1 : ∀ v ∈ cs,v.oneCell' = true) :
  (Builtin.copy_ #[dT,sT] ty #[.slice (some ⟨g,o,none⟩) dLen dCap,.slice (some a) sLen sCap]).run Tryz.prog w =
   .ok (goInt (Nat.min sLen dLen)) (w.setRow g (cur.toList.take o ++ cs ++ cur.toList.drop (o + cs.length)).toArray):=by
 have hl:=run_loadCells_list (P:=Tryz.prog) w a cs hsrc;have hst:=run_storeCells_at Tryz.prog g o t cs 0 cur w hg (by simpa using hfit) h1;rw [hn] at hl;simp [Builtin.copy_,run_underlying hu,Builtin.lenOf,Builtin.firstCells,sizeOf,typeInfo,hi,hs,hl,hst]
theorem bN (w : World) {ops : Array Oper} {rest : List Oper} {o : Oper} {a : Act} {Q : Exit → Act → World → Prop} (hgd : o.guard = none) (d s : Operand) (t t' : TypeId)
  (ho : o.op = .call { callee:=.builtin .copy,args:=#[d,s],argTypes:=#[t,t'] }) (v u : Value) (hd : a.eval d = v) (hs : a.eval s = u) {v' : Value} {w' : World}
  (hr : (Builtin.copy_ #[t,t'] o.type #[v,u]).run Tryz.prog w = .ok v' w') (h : wpList Tryz.prog ops Q rest (a.put o.dst v') w') : wpList Tryz.prog ops Q (o :: rest) a w:=by
 refine wpList_plain hgd fun K hK => ?_;unfold Oper.wp execOp;simp only [ho,resolve,invoke,builtin,Sem.run_bind,Sem.run_pure,Result.andThen_ok,List.map_toArray,List.map_cons,List.map_nil,hd,hs,hr];exact hK _ _ h
theorem jq {a b c m : Nat} {X ys cur c1 : List Value} (hX : cur.take b = X) (hc : cur.length = c) (h1 : a + m ≤ b) (h2 : b + m ≤ c) (hy : ys.length = m) (h : c1 = cur.take (a + m) ++ X.drop a ++ cur.drop (a + m + (X.drop a).length)) : (c1.take a ++ (ys ++ c1.drop (a + m))).take (b + m) = X.take a ++ ys ++ X.drop a:=by
 have hXl : X.length = b:=by rw [← hX,List.length_take];omega
 have e1 : c1.take a = X.take a:=by
  rw [h,List.append_assoc,List.take_append_of_le_length iS,List.take_take,← hX,List.take_take];congr 1;omega
 have e2 : c1.drop (a + m) = X.drop a ++ cur.drop (a + m + (X.drop a).length):=by
  rw [h,List.append_assoc];exact List.drop_left' iS
 rw [e1,e2,← List.append_assoc,← List.append_assoc];exact List.take_left' Ab
theorem gQ {a b m : Nat} {X ys R R2 S : List Value} (hX : R.take a = X.take a) (hXl : X.length = b) (h1 : a ≤ b) (hy : ys.length = m) (h : R2 = R.take a ++ ys ++ S) (T : List Value) : (R2.take (a + m) ++ X.drop a ++ T).take (b + m) = X.take a ++ ys ++ X.drop a:=by
 have e1 : R2.take (a + m) = X.take a ++ ys:=by
  rw [h,hX];exact List.take_left' (by simp only [List.length_append,List.length_take];omega)
 rw [e1];exact List.take_left' Ab
theorem f_ (w : World) (g : Nat) (cs : Array Value) : w.grownBy (w.setRow g cs) (some g):=⟨rfl,rfl,rfl,by simp [World.setRow],fun k _ h => setRow_other w g k cs (fun e => h (by rw [e]))⟩
theorem cg {ops : Array Oper} {o : Oper} {a : Act} {w : World} {K : Act → World → Prop} {Q : Exit → Act → World → Prop} {E : Prop}
  (hg : o.guard = none) (d x : Operand) (dT sT : TypeId) (hop : o.op = Op.call { callee:=Callee.builtin Builtin.copy,args:=#[d,x],argTypes:=#[dT,sT] })
  (v u : Value) (hd : a.eval d = v) (hx : a.eval x = u) {v' : Value} {w' : World} (hr : (Builtin.copy_ #[dT,sT] o.type #[v,u]).run Tryz.prog w = .ok v' w') (hK : K (a.put o.dst v') w') :
  if Region.wanted o (yielded ops a.tmps) = true then Oper.wp Tryz.prog o a w K Q else E:=by
 have hw : Region.wanted o (yielded ops a.tmps) = true:=by simp [Region.wanted,hg]
 rw [if_pos hw];unfold Oper.wp;simp [execOp,hop,resolve,invoke,builtin,hd,hx,hr,Result.andThen];exact hK

def bh {α : Type} (p : Nat) (x : α) (xs : List α) : List α:=xs.take p ++ [x] ++ xs.drop p
theorem dD {α : Type} {p : Nat} {x : α} {xs : List α} (h : p ≤ xs.length) : (bh p x xs).length = xs.length + 1:=by
 simp only [bh,List.length_append,List.length_take,List.length_drop,List.length_cons,List.length_nil];omega
theorem jt {α β : Type} (f : α → β) (p : Nat) (x : α) (xs : List α) : (bh p x xs).map f = bh p (f x) (xs.map f):=by simp [bh,List.map_take,List.map_drop]
theorem iB {α : Type} {p : Nat} {x : α} {xs : List α} (h : p ≤ xs.length) (j : Nat) (hj : j < xs.length + 1) : (bh p x xs)[j]? = (xs ++ [x])[if j < p then j else if j = p then xs.length else j - 1]?:=by
 unfold bh;by_cases h1 : j < p
 ·rw [if_pos h1,List.append_assoc,List.getElem?_append_left iS,List.getElem?_append_left af,List.getElem?_take,if_pos h1]
 ·rw [if_neg h1];by_cases h2 : j = p
  ·subst h2;have hl : (xs.take j).length = j:=by rw [List.length_take,Nat.min_eq_left h]
   have e1 : (xs.take j ++ [x] ++ xs.drop j)[j]? = some x:=by
    rw [List.append_assoc,List.getElem?_append_right af,hl,Nat.sub_self];rfl
   rw [e1,if_pos rfl];simp
  ·rw [if_neg h2,List.getElem?_append_right (by simp only [List.length_append,List.length_take,List.length_cons,List.length_nil];omega),List.getElem?_append_left af,List.getElem?_drop];congr 1;simp only [List.length_append,List.length_take,List.length_cons,List.length_nil];omega
theorem gP {α : Type} {m p : Nat} {vss : List (List α)} (h : ∀ (j : Nat) vs,vss[j]? = some vs → vs.length = m) (hp : p ≤ vss.length) (vs : List α) : (bh p vs vss).flatten = vss.flatten.take (p * m) ++ vs ++ vss.flatten.drop (p * m):=by
 have hl : ((vss.take p).flatten).length = p * m:=by
  rw [cV (m:=m) (fun j v hv => by
   rw [List.getElem?_take] at hv;split at hv
   ·exact h j v hv
   ·cases hv),List.length_take,Nat.min_eq_left hp]
 have e : vss.flatten = (vss.take p).flatten ++ (vss.drop p).flatten:=rk
 have e1 : vss.flatten.take (p * m) = (vss.take p).flatten:=by rw [e];exact List.take_left' hl
 have e2 : vss.flatten.drop (p * m) = (vss.drop p).flatten:=by rw [e];exact List.drop_left' hl
 rw [e1,e2];simp [bh]
theorem aS.ins {w : World} {S : Nat → Prop} {m : Nat} {rs : List (List Fv)} {vss : List (List Value)} {H : Nat → Nat → Nat} (h : aS w S m rs vss H) {r : List Fv} {vs : List Value} {hh : Nat → Nat} (hr : r.length = m) (hvs : vs.length = m) (hc : ∀ (i : Nat) f,r[i]? = some f → ∃ v,vs[i]? = some v ∧ f.Fr w (hh i) S v)
  (hn : ∀ (i : Nat) zs,r[i]? = some (.l zs) → zs ≠ [] → ∀ (j : Nat) r' (i' : Nat) zs',rs[j]? = some r' → r'[i']? = some (.l zs') → zs' ≠ [] → ¬ H j i' = hh i)
  (h1 : ∀ (i i' : Nat) zs zs',r[i]? = some (.l zs) → zs ≠ [] → r[i']? = some (.l zs') → zs' ≠ [] → i = i') {p : Nat} (hp : p ≤ rs.length) : ∃ H',aS w S m (bh p r rs) (bh p vs vss) H':=by
 have hl:=h.len;have e1 : (bh p r rs).length = rs.length + 1:=dD hp;have e2 : (bh p vs vss).length = vss.length + 1:=dD af;refine ⟨_,(h.push hr hvs hc hn h1).DY (fun j => if j < p then j else if j = p then rs.length else j - 1) af (fun j hj => iB hp j af) (fun j hj => ?_) (fun j j' hj hj' e => ?_)⟩
 ·have:=iB (x:=vs) (xs:=vss) (p:=p) af j af;rw [hl] at this;exact this
 ·split at e <;> split at e
  ·exact e
  all_goals (try split at e) <;> (try split at e) <;> omega

end Rc
end Go.Proofs.YtdoldaceehdifaaGreatDoor

namespace Go.Proofs.YtdoldaceehdifaaGreatDoor
open Go.RowKit

def svB (c : Int) (z k : ByteArray) (x : Bool) (m : ByteArray) (y : Bool) (c' : Int) (k' : ByteArray) (x' : Bool) (t : ByteArray) : Bool :=
 (k.toList == k'.toList) && (x == x') && !y && m.toList.isEmpty && decide (c' ≤ c) && (t.toList.isEmpty || (z.toList == t.toList))

theorem BP {a b : Bool} (h : a = b) : Ending.returned (.bool a) = .returned (.bool b):=by rw [h]

theorem yX (n : ByteArray) (c : Int) (z : ByteArray) (k : ByteArray) (x : Bool) (m : ByteArray) (y : Bool) (a : Option Addr) (len cap : Nat) (n' : ByteArray) (c' : Int) (k' : ByteArray) (x' : Bool) (v' : ByteArray) (t : ByteArray) (w : World) :
  Calls Tryz.prog 168 #[.agg #[.string n,.int .i64 c,.string z,.string k,.bool x,.string m,.bool y,.slice a len cap],.agg #[.string n',.int .i64 c',.string k',.bool x',.string v'],.string t] w fun e w' => e = .returned (.bool (svB c z k x m y c' k' x' t)) ∧ Below w.heap.size w w':=by
 have HB:=ae (aF w (.cells #[.string n,.int .i64 c,.string z,.string k,.bool x,.string m,.bool y,.slice a len cap] 118) (.cells #[.string n',.int .i64 c',.string k',.bool x',.string v'] 120));unfold svB;cases h0 : (k.toList == k'.toList)
 ·exact ku
 cases h1 : (x == x')
 ·exact ku
 cases y;case true =>
  exact ku
 cases h2 : m.toList.isEmpty
 ·exact ku
 by_cases h3 : c' ≤ c;case neg =>
  have h3' : decide (c' ≤ c) = false:=by simpa using h3
  rw [h3'];exact ku
 have h3' : decide (c' ≤ c) = true:=by simpa using h3
 rw [h3'];cases h4 : t.toList.isEmpty
 ·cases h5 : (z.toList == t.toList);all_goals (
   go_enter Tryz.func168,Tryz.ntmps168
   go_wp2_with fail;go_ret
   exact ⟨rfl,HB.out⟩)
 ·exact ku

def ey (v u : Vd) : Bool:=decide (v.c < u.c) || ((v.c == u.c) && Op.bytesLess v.n.toList u.n.toList)
def stepB (sv : Vd → Bool) (acc : Option Vd) (v : Vd) : Option Vd:=if (sv v && (match acc with | none => true | some u => ey v u)) = true then some v else acc
def cJ (sv : Vd → Bool) (vs : List Vd) : Option Vd:=vs.foldl (stepB sv) none
def svV (c' : Int) (k' : ByteArray) (x' : Bool) (t : ByteArray) (v : Vd) : Bool:=svB v.c v.z v.k v.x v.m v.y c' k' x' t
theorem en {sv : Vd → Bool} {vs : List Vd} {i : Nat} {v : Vd} (h : vs[i]? = some v) : cJ sv (vs.take (i + 1)) = stepB sv (cJ sv (vs.take i)) v:=by
 unfold cJ;rw [List.take_add_one,h];simp
def cD (sv : Vd → Bool) (vs : List Vd) (i : Nat) (r : Int) : Prop :=
 (r = -1 ∧ cJ sv (vs.take i) = none) ∨ ∃ (j : Nat) (u : Vd),r = j ∧ j < vs.length ∧ vs[j]? = some u ∧ cJ sv (vs.take i) = some u
theorem cD.no {sv : Vd → Bool} {vs : List Vd} {i : Nat} {r : Int} {v : Vd} (h : cD sv vs i r) (hv : vs[i]? = some v) (hs : sv v = false) : cD sv vs (i + 1) r:=by
 unfold cD;rw [en hv];simp only [stepB,hs,Bool.false_and,Bool.false_eq_true,if_false];exact h
theorem cD.first {sv : Vd → Bool} {vs : List Vd} {i : Nat} {v : Vd} (h : cJ sv (vs.take i) = none) (hv : vs[i]? = some v) (hs : sv v = true) : cD sv vs (i + 1) i:=by
 refine .inr ⟨i,v,rfl,(List.getElem?_eq_some_iff.1 hv).1,hv,?_⟩;rw [en hv,h];simp [stepB,hs]
theorem cD.new {sv : Vd → Bool} {vs : List Vd} {i : Nat} {v u : Vd} (h : cJ sv (vs.take i) = some u) (hv : vs[i]? = some v) (hs : sv v = true) (hb : ey v u = true) : cD sv vs (i + 1) i:=by
 refine .inr ⟨i,v,rfl,(List.getElem?_eq_some_iff.1 hv).1,hv,?_⟩;rw [en hv,h];simp [stepB,hs,hb]
theorem cD.old {sv : Vd → Bool} {vs : List Vd} {i j : Nat} {v u : Vd} (hj : vs[j]? = some u) (h : cJ sv (vs.take i) = some u) (hv : vs[i]? = some v) (hb : ey v u = false) : cD sv vs (i + 1) j:=by
 refine .inr ⟨j,u,rfl,(List.getElem?_eq_some_iff.1 hj).1,hj,?_⟩;rw [en hv,h];simp [stepB,hb]

theorem tF (v : Vd) (va : Option Addr) (vl vc : Nat) (n' : ByteArray) (c' : Int) (k' : ByteArray) (x' : Bool) (v' : ByteArray) (t : ByteArray) (w : World) {b : Bool} (h : svV c' k' x' t v = b) :
  Calls Tryz.prog 168 #[.agg #[.string v.n,.int .i64 v.c,.string v.z,.string v.k,.bool v.x,.string v.m,.bool v.y,.slice va vl vc],.agg #[.string n',.int .i64 c',.string k',.bool x',.string v'],.string t] w fun e w' => e = .returned (.bool b) ∧ Below w.heap.size w w':=by
 subst h;exact yX v.n v.c v.z v.k v.x v.m v.y va vl vc n' c' k' x' v' t w

theorem oM (a : Option Addr) (len cap : Nat) (vs : List Vd) (n' : ByteArray) (c' : Int) (k' : ByteArray) (x' : Bool) (v' : ByteArray) (t : ByteArray) (w : World) (hr : dV w a len cap vs) :
  Calls Tryz.prog 154 #[.slice a len cap,.agg #[.string n',.int .i64 c',.string k',.bool x',.string v'],.string t] w fun e w' => ∃ r : Int,e = .returned (.int .i64 r) ∧ cD (svV c' k' x' t) vs len r ∧ Below w.heap.size w w':=by
 obtain ⟨HR,hvl,hlc⟩:=tW;clear hr;go_enter Tryz.func154,Tryz.ntmps154;go_wp2;go_loopw [7,8] (fun vk vi wr => ∃ (i : Nat) (r : Int),i ≤ len ∧ vk = .int .i64 r ∧ vi = .int .i64 i ∧ Hid (cD (svV c' k' x' t) vs i r) ∧ Hid (wr.heap[w.heap.size]? = some (.cells #[.string n',.int .i64 c',.string k',.bool x',.string v'] 120 (0,0))) ∧ Hid (Below w.heap.size w wr)) (fun _ vi _ => len - (intOf vi).toNat);case atStart => exact ⟨0,-1,by omega,rfl,rfl,.inl ⟨rfl,rfl⟩,Array.getElem?_push_size,an _ _⟩
 case round =>
  obtain ⟨i,r,hi,rfl,rfl,HA,HG,HB⟩:=hrel;by_cases hlt : i < len;case neg =>
   obtain rfl : i = len:=af
   go_wp2;go_ret;exact ⟨r,rfl,HA.out,HB.out⟩
  obtain ⟨b,o,v,rfl,hb,hv,-,va,vl,vc,-,p0,p1,p2,p3,p4,p5,p6,p7⟩:=(HR.out.below HB.out).at hlt;have hgl : w.heap.size < wr.heap.size:=aa HG.out;have HV:=ae hv;have hne:=Wd.ne wr;have e0 : ∀ q : Wd wr,q.w.cell? ⟨b,o + i * 8,none⟩ = some (.string v.n):=fun q => (q.cell hb).trans p0;have e1 : ∀ q : Wd wr,q.w.cell? ⟨b,o + i * 8 + 1,none⟩ = some (.int .i64 v.c):=fun q => (q.cell hb).trans p1;have e2 : ∀ q : Wd wr,q.w.cell? ⟨b,o + i * 8 + 2,none⟩ = some (.string v.z):=fun q => (q.cell hb).trans p2;have e3 : ∀ q : Wd wr,q.w.cell? ⟨b,o + i * 8 + 3,none⟩ = some (.string v.k):=fun q => (q.cell hb).trans p3;have e4 : ∀ q : Wd wr,q.w.cell? ⟨b,o + i * 8 + 4,none⟩ = some (.bool v.x):=fun q => (q.cell hb).trans p4;have e5 : ∀ q : Wd wr,q.w.cell? ⟨b,o + i * 8 + 5,none⟩ = some (.string v.m):=fun q => (q.cell hb).trans p5;have e6 : ∀ q : Wd wr,q.w.cell? ⟨b,o + i * 8 + 6,none⟩ = some (.bool v.y):=fun q => (q.cell hb).trans p6;have e7 : ∀ q : Wd wr,q.w.cell? ⟨b,o + i * 8 + 7,none⟩ = some (.slice va vl vc):=fun q => (q.cell hb).trans p7;have d0 : ∀ q : Wd wr,q.w.cell? ⟨w.heap.size,0,none⟩ = some (.string n'):=fun q => q.slot HG.out rfl;have d1 : ∀ q : Wd wr,q.w.cell? ⟨w.heap.size,1,none⟩ = some (.int .i64 c'):=fun q => q.slot HG.out rfl;have d2 : ∀ q : Wd wr,q.w.cell? ⟨w.heap.size,2,none⟩ = some (.string k'):=fun q => q.slot HG.out rfl;have d3 : ∀ q : Wd wr,q.w.cell? ⟨w.heap.size,3,none⟩ = some (.bool x'):=fun q => q.slot HG.out rfl;have d4 : ∀ q : Wd wr,q.w.cell? ⟨w.heap.size,4,none⟩ = some (.string v'):=fun q => q.slot HG.out rfl;clear hv p2 p3 p4 p5 p6 p7;cases hs : svV c' k' x' t v
  ·have HF:=ae (fun q : Wd wr => tF v va vl vc n' c' k' x' v' t q.w hs);have HS:=ae hs;clear hs p0 p1;go_wp2_with fail;refine aj av av ?_;repeat (go_big_quiet_step (first | (go_at_call 168;exact Calls.wide (HF.out _)) | fail))
   refine wpQuiet_nil ?_;rintro _ ⟨q,rfl⟩;go_wp2_with fail;exact ⟨⟨i + 1,_,by omega,rfl,by go_num,HA.out.no HV.out HS.out,(q.b.block _ hgl).trans HG.out,HB.out.trans (q.b.mono HB.out.size)⟩,by simp [intOf];omega⟩
  have HF:=ae (fun q : Wd wr => tF v va vl vc n' c' k' x' v' t q.w hs);have HS:=ae hs;clear hs;rcases HA.out with ⟨rfl,hn⟩ | ⟨j,u,rfl,hj,hu,hbu⟩
  ·have HN:=ae hn;clear hn p0 p1;go_wp2_with fail;refine aj av av ?_;repeat (go_big_quiet_step (first | (go_at_call 168;exact Calls.wide (HF.out _)) | fail))
   refine wpQuiet_nil ?_;rintro _ ⟨q,rfl⟩;go_wp2_with fail;exact ⟨⟨i + 1,_,by omega,rfl,by go_num,cD.first HN.out HV.out HS.out,(q.b.block _ hgl).trans HG.out,HB.out.trans (q.b.mono HB.out.size)⟩,by simp [intOf];omega⟩
  obtain ⟨b2,o2,u2,e2,hb2,hu2,-,ua,ul,uc,-,s0,s1,-,-,-,-,-,-⟩:=(HR.out.below HB.out).at (j:=j) af;rw [hu] at hu2;obtain rfl:=Option.some.inj hu2;cases e2;have g0 : ∀ q : Wd wr,q.w.cell? ⟨b,o + j * 8,none⟩ = some (.string u.n):=fun q => (q.cell hb).trans s0;have g1 : ∀ q : Wd wr,q.w.cell? ⟨b,o + j * 8 + 1,none⟩ = some (.int .i64 u.c):=fun q => (q.cell hb).trans s1;have HBU:=ae hbu;have HU:=ae hu;have hj0 : ¬ (j : Int) < 0:=af
  have hj1 : decide ((j : Int) < 0) = false:=aN
  have hjl : (j : Int) < len:=af
  clear hu hu2 hbu s0 s1 p0 p1 hb2;by_cases h1 : v.c < u.c
  ·have q1 : decide (v.c < u.c) = true:=by simpa using h1
   have HX:=ae (show ey v u = true by simp [ey,h1]);exact A0
  have q1 : decide (v.c < u.c) = false:=by simpa using h1
  by_cases h2 : v.c = u.c;case neg =>
   have q2 : (v.c == u.c) = false:=by simpa using h2
   have HX:=ae (show ey v u = false by simp [ey,h1,h2]);exact A2
  have q2 : (v.c == u.c) = true:=by simpa using h2
  cases q3 : Op.bytesLess v.n.toList u.n.toList
  ·have HX:=ae (show ey v u = false by simp [ey,h1,q3]);exact A2
  ·have HX:=ae (show ey v u = true by simp [ey,h2,q3]);clear h2;exact A0

def gT (w : World) (cb zb : Nat) (n' : ByteArray) (c' : Int) (k' : ByteArray) (x' : Bool) (v' : ByteArray) (t : ByteArray) : Prop :=
 w.heap[cb]? = some (.cells #[.string n',.int .i64 c',.string k',.bool x',.string v'] 120 (0,0)) ∧ w.heap[zb]? = some (.cells #[.string t] 9 (0,0))
theorem gT.below {w w1 : World} {cb zb : Nat} {n' : ByteArray} {c' : Int} {k' : ByteArray} {x' : Bool} {v' t : ByteArray} (h : gT w cb zb n' c' k' x' v' t) (hb : Below w.heap.size w w1) : gT w1 cb zb n' c' k' x' v' t :=
 ⟨(hb.block _ (aa h.1)).trans h.1,(hb.block _ (aa h.2)).trans h.2⟩

theorem zU (n : ByteArray) (c : Int) (z : ByteArray) (k : ByteArray) (x : Bool) (m : ByteArray) (y : Bool) (a : Option Addr) (len cap : Nat) (cb zb : Nat) (n' : ByteArray) (c' : Int) (k' : ByteArray) (x' : Bool) (v' : ByteArray) (t : ByteArray) (w : World) (hh : gT w cb zb n' c' k' x' v' t) :
  Calls Tryz.prog 199 #[.agg #[.string n,.int .i64 c,.string z,.string k,.bool x,.string m,.bool y,.slice a len cap],.pointer (some ⟨cb,0,none⟩),.pointer (some ⟨zb,0,none⟩)] w fun e w' => e = .returned (.bool (svB c z k x m y c' k' x' t)) ∧ Below w.heap.size w w':=by
 have hh1:=hh.below (an w (.cells #[.string n,.int .i64 c,.string z,.string k,.bool x,.string m,.bool y,.slice a len cap] 118));have HB:=ae (an w (.cells #[.string n,.int .i64 c,.string z,.string k,.bool x,.string m,.bool y,.slice a len cap] 118));have c1:=ah hh1.1 1;have c2:=ah hh1.1 2;have c3:=ah hh1.1 3;have c4:=ah hh1.2 0;simp only [List.getElem?_toArray,List.getElem?_cons_succ,List.getElem?_cons_zero] at c1 c2 c3 c4;clear hh hh1;unfold svB;cases y;case true =>
  exact vB
 case false =>
  cases h2 : m.toList.isEmpty
  ·skip;exact vB
  ·skip;cases h0 : (k.toList == k'.toList)
   ·exact uG
   ·cases h1 : (x == x')
    ·exact uG
    ·skip;cases h4 : t.toList.isEmpty
     ·cases h5 : (z.toList == t.toList)
      ·skip;exact BT
      ·exact vD
     ·exact vD

theorem mD (n' : ByteArray) (c' : Int) (k' : ByteArray) (x' : Bool) (v' : ByteArray) (t : ByteArray) (w : World) :
  Calls Tryz.prog 186 #[.agg #[.string n',.int .i64 c',.string k',.bool x',.string v'],.string t] w fun e w' => e = .returned (.func (.func 199) #[] #[.pointer (some ⟨w.heap.size,0,none⟩),.pointer (some ⟨w.heap.size + 1,0,none⟩)]) ∧ gT w' w.heap.size (w.heap.size + 1) n' c' k' x' v' t ∧ Below w.heap.size w w':=by
 go_enter Tryz.func186,Tryz.ntmps186;go_wp2;go_ret;exact ⟨rfl,⟨cK _ _ _,bK _ _ _⟩,aF _ _ _⟩

def Vd.Ok (v : Vd) : Prop:=rS v.n v.c v.z v.k v.x v.m v.y v.zs
def vZ : Vd:=⟨⟨#[]⟩,0,⟨#[]⟩,⟨#[]⟩,false,⟨#[]⟩,false,[]⟩
def ir (vs : List Vd) (n' : ByteArray) (c' : Int) (k' v' t : ByteArray) : Prop:=e_ n' c' k' v' ∧ cB t ∧ vs.length ≤ 8 ∧ ∀ (j : Nat) v,vs[j]? = some v → v.Ok
def l8 (vs : List Vd) (n' : ByteArray) (c' : Int) (k' : ByteArray) (x' : Bool) (v' : ByteArray) (t : ByteArray) (u : Vd) (p : Int) : Prop :=
 ((400 < vs.length ∨ 8000 < t.size) ∧ u = vZ ∧ p = 2) ∨ (¬ (400 < vs.length ∨ 8000 < t.size) ∧ ¬ ir vs n' c' k' v' t ∧ u = vZ ∧ p = 1) ∨
 (¬ (400 < vs.length ∨ 8000 < t.size) ∧ ir vs n' c' k' v' t ∧ cJ (svV c' k' x' t) vs = none ∧ u = vZ ∧ p = 6) ∨
 (¬ (400 < vs.length ∨ 8000 < t.size) ∧ ir vs n' c' k' v' t ∧ cJ (svV c' k' x' t) vs = some u ∧ p = 0)
def dx (vs : List Vd) (n' : ByteArray) (c' : Int) (k' : ByteArray) (x' : Bool) (v' : ByteArray) (t : ByteArray) (w : World) (e : Ending) (w' : World) : Prop :=
 ∃ u p a l c,e = .returned (.agg #[.string u.n,.int .i64 u.c,.string u.z,.string u.k,.bool u.x,.string u.m,.bool u.y,.slice a l c,.int .i64 p]) ∧ l8 vs n' c' k' x' v' t u p ∧ Ap.bJ u.zs w a l c w'
theorem zh {w w' : World} (hb : Below w.heap.size w w') : Ap.bJ [] w none 0 0 w':=⟨⟨rfl,Nat.le_refl _,by omega,fun j x hx => by simp at hx,.inl rfl⟩,.inl rfl,hb⟩
theorem dx.bad {vs : List Vd} {n' : ByteArray} {c' : Int} {k' : ByteArray} {x' : Bool} {v' t : ByteArray} {w w' : World} {p : Int} (h : l8 vs n' c' k' x' v' t vZ p) (hb : Below w.heap.size w w') :
  dx vs n' c' k' x' v' t w (.returned (.agg #[.string ⟨#[]⟩,.int .i64 0,.string ⟨#[]⟩,.string ⟨#[]⟩,.bool false,.string ⟨#[]⟩,.bool false,.slice none 0 0,.int .i64 p])) w':=⟨vZ,p,none,0,0,rfl,h,zh hb⟩
theorem eB {w w1 : World} {B b : Nat} {v0 v1 v2 v3 v4 v5 v6 v7 v8 : Value} (hB : B ≤ b) (h : Below B w w1) :
  Below B w (((((((((w1.setCell ⟨b,0,none⟩ (v0)).setCell ⟨b,1,none⟩ (v1)).setCell ⟨b,2,none⟩ (v2)).setCell ⟨b,3,none⟩ (v3)).setCell ⟨b,4,none⟩ (v4)).setCell ⟨b,5,none⟩ (v5)).setCell ⟨b,6,none⟩ (v6)).setCell ⟨b,7,none⟩ (v7)).setCell ⟨b,8,none⟩ (v8)) :=
 ((((((((h.setCell (p:=⟨b,0,none⟩) hB v0).setCell (p:=⟨b,1,none⟩) hB v1).setCell (p:=⟨b,2,none⟩) hB v2).setCell (p:=⟨b,3,none⟩) hB v3).setCell (p:=⟨b,4,none⟩) hB v4).setCell (p:=⟨b,5,none⟩) hB v5).setCell (p:=⟨b,6,none⟩) hB v6).setCell (p:=⟨b,7,none⟩) hB v7).setCell (p:=⟨b,8,none⟩) hB v8
theorem xP {zs : List ByteArray} {w w' : World} {a : Option Addr} {l p b X : Nat} {v0 v1 v2 v3 v4 v5 v6 v7 v8 : Value} (h : ay w' a l p zs ∧ (zs = [] ∨ ∃ g cur,a = some ⟨g,0,none⟩ ∧ X ≤ g ∧ w'.heap[g]? = some (.cells cur 9 (0,0))) ∧ Below w.heap.size w w') (hb : w.heap.size ≤ b) (hX : b < X) :
  Ap.bJ zs w a l p (((((((((w'.setCell ⟨b,0,none⟩ (v0)).setCell ⟨b,1,none⟩ (v1)).setCell ⟨b,2,none⟩ (v2)).setCell ⟨b,3,none⟩ (v3)).setCell ⟨b,4,none⟩ (v4)).setCell ⟨b,5,none⟩ (v5)).setCell ⟨b,6,none⟩ (v6)).setCell ⟨b,7,none⟩ (v7)).setCell ⟨b,8,none⟩ (v8)):=by
 have h9:=Ap.bJ.set (Ap.bJ.set (Ap.bJ.set (Ap.bJ.set (Ap.bJ.set (Ap.bJ.set (Ap.bJ.set (Ap.bJ.set (Ap.bJ.set h hb hX (i:=0) (v:=v0)) hb hX (i:=1) (v:=v1)) hb hX (i:=2) (v:=v2)) hb hX (i:=3) (v:=v3)) hb hX (i:=4) (v:=v4)) hb hX (i:=5) (v:=v5)) hb hX (i:=6) (v:=v6)) hb hX (i:=7) (v:=v7)) hb hX (i:=8) (v:=v8);refine ⟨h9.1,?_,h9.2.2⟩;rcases h9.2.1 with h | ⟨g,cur,h1,h2,h3⟩
 ·exact .inl h
 ·exact .inr ⟨g,cur,h1,by omega,h3⟩
theorem sy {zs : List ByteArray} {x : Bool} (h : dd zs (if x = true then 1 else 6)) : zs.length ≤ 6:=by
 have:=(gK h).1;omega

def Dn (n z t : ByteArray) : Prop:=gq n z ∧ aL t ∧ (z = ⟨#[]⟩ ∨ z = t)

theorem yj (n : ByteArray) (x y : Bool) (z t : ByteArray) (w : World) (hn : n.size ≤ 9223372036854775807) (hz : z.size ≤ 9223372036854775807) (ht : t.size ≤ 9223372036854775807) :
  Calls Tryz.prog 190 #[.agg #[.string n,.bool x,.bool y,.string z],.string t] w (ar (Dn n z t) w):=by
 go_enter Tryz.func190,Tryz.ntmps190;go_wp2_with fail;refine (fz n z x y _ hn hz).mono ?_;rintro e w1 ⟨r,rfl,hr,hb⟩;obtain ⟨g,hb1,-⟩:=b_ hb;have HB:=ae hb1;have c3 : w1.cell? ⟨w.heap.size,3,none⟩ = some (.string z):=ah g 3;clear g hb hb1;by_cases hq : r = true;case neg =>
  obtain ⟨HN,hrf⟩:=dB;clear hr;go_wp2_with fail;go_ret;exact ⟨false,rfl,⟨fun h => bM,fun h => (HN.out h.1).elim⟩,HB.out⟩
 have h0:=ae (hr.1 hq);subst hq;clear hr;go_wp2_with fail;refine (aW t _ ht).mono ?_;rintro e w2 ⟨r,rfl,hr,rfl⟩;by_cases hq : r = true;case neg =>
  obtain ⟨HN,hrf⟩:=dB;clear hr;go_wp2_with fail;go_ret;exact ⟨false,rfl,⟨fun h => bM,fun h => (HN.out h.2.1).elim⟩,HB.out⟩
 have h1:=ae (hr.1 hq);subst hq;clear hr;by_cases hz0 : z = ⟨#[]⟩
 ·subst hz0;go_wp2_with fail;go_ret;exact ⟨true,rfl,⟨fun _ => ⟨h0.out,h1.out,.inl rfl⟩,fun _ => rfl⟩,HB.out⟩
 have HZ:=ae hz0;have hq9 : z.toList.isEmpty = false:=aY hz0;by_cases hzt : z = t
 ·have hq8:=aV hzt;have HT:=ae hzt;clear hzt hz0;go_wp2_with fail;go_ret;exact ⟨true,rfl,⟨fun _ => ⟨h0.out,h1.out,.inr HT.out⟩,fun _ => rfl⟩,HB.out⟩
 ·have hq8:=bo hzt;have HT:=ae hzt;clear hzt hz0;go_wp2_with fail;go_ret;exact ⟨false,rfl,⟨fun h => bM,fun h => (h.2.2.elim HZ.out HT.out).elim⟩,HB.out⟩

theorem kG : (Tryz.prog.info? 5).map (fun i => (i.zero,i.size,i.bytes)) = some (some (.int .u8 0),1,1):=by kernel_rfl
theorem gz : (Tryz.prog.info? 5).map (·.size) = some 1:=by kernel_rfl

theorem dN {P : Program} {w : World} (dT sT ty : TypeId) (elem : TypeId) (hu : P.underlying dT = some (.slice elem)) (hsz : (P.info? elem).map (·.size) = some 1)
  (dp : Option Addr) (dLen dCap : Nat) (t : ByteArray)
  (g off : Nat) (cur : List Value) (e : TypeId) (hg : w.heap[g]? = some (.cells cur.toArray e (0,0))) (hle : t.size ≤ dLen) (hpos : 0 < t.size → dp = some ⟨g,off,none⟩)
  (hfit : off + t.size ≤ cur.length) (B : Nat) (w0 : World) (hb : Below B w0 w) (hBg : B ≤ g) :
  ∃ w',(Builtin.copy_ #[dT,sT] ty #[.slice dp dLen dCap,.string t]).run P w = .ok (.int .i64 (t.size : Nat)) w' ∧
   Hid (w'.heap[g]? = some (.cells (splice cur off (Lib.byteCells t.data.toList)).toArray e (0,0))) ∧ Below B w0 w':=by
 have hlen : (Lib.byteCells t.data.toList).length = t.size:=by rw [Lib.byteCells_length,← Lib.size_eq]
 by_cases h0 : t.size = 0
 ·have hrun:=Lib.run_copy_empty_string (P:=P) w dT sT ty elem dp dLen dCap t hu (by rw [hsz];rfl) h0;have hc : Lib.byteCells t.data.toList = []:=List.eq_nil_of_length_eq_zero af;rw [h0];exact ⟨w,hrun,show _ = _ by rw [hc];simpa [splice] using hg,hb⟩
 ·obtain rfl:=hpos af;have hrun:=Lib.run_copy_row_string (P:=P) w dT sT ty elem g off dLen dCap t cur.toArray e hu hsz hg hle (by simpa using hfit);refine ⟨_,hrun,?_,below_setRow hb hBg _⟩;show _ = _;rw [setRow_heap w g _ _ e _ hg];simp [splice,hlen]

theorem oc {w : World} {B g n : Nat} {e : TypeId} {xs : List Value} (h : w.ownsRow B e 1 (.slice (some ⟨g,0,none⟩) n n) n xs) :
  w.heap[g]? = some (.cells xs.toArray e (0,0)) ∧ xs.length = n ∧ B ≤ g:=by
 exact AV

theorem oH {Z X Y : List Value} (h : Z.length = X.length + Y.length) : splice (splice Z 0 X) X.length Y = X ++ Y:=by
 unfold splice;have h1 : List.drop (X.length + Y.length) Z = []:=List.drop_eq_nil_of_le af;simp [← List.append_assoc,h1]

theorem og {w : World} {g : Nat} (l : List UInt8) {n cap : Nat} (hn : l.length = n) (h : w.heap[g]? = some (.cells (Lib.byteCells l).toArray 5 (0,0))) :
  (convert 197 9 (.slice (some ⟨g,0,none⟩) n cap)).run Tryz.prog w = .ok (.string ⟨l.toArray⟩) w:=by
 subst hn;exact run_convert_bytes_back (P:=Tryz.prog) w 197 9 5 ⟨g,0,none⟩ cap l Tryz.underlying197 Tryz.underlying5 Tryz.underlying9 (fun j hj => by
  rw [Addr.add_lit];simp [World.cell?,h,Lib.byteCells,hj])
theorem dU (s : ByteArray) : (Lib.byteCells s.data.toList).length = s.size:=by rw [Lib.byteCells_length,← Lib.size_eq]
theorem nZ (x : ByteArray) (w : World) (h : x.size ≤ 1073741824) :
  Calls Tryz.prog 191 #[.string x,.string ByteArray.empty] w fun e w' => e = .returned (.string x) ∧ Below w.heap.size w w':=by
 obtain ⟨i0,hi,hz0,hz1,hz2⟩:=info_parts kG;go_enter Tryz.func191,Tryz.ntmps191;go_wp2_with (at_make;refine wpList_make_full _ rfl _ _ 197 rfl w.heap.size 5 i0 (.int .u8 0) 1 Tryz.underlying197 hi hz0 hz1 _ _ _ _ x.size rfl rfl af af fL cd (Nat.le_refl _) ?_);intro w1 hown hgrow;obtain ⟨hg1,hz,-⟩:=oc hown;obtain ⟨Z,hZ⟩ : ∃ Z,Z = (madeCells #[Value.int IntKind.u8 0] x.size).toList:=⟨_,rfl⟩;have hnx1 : Below w.heap.size w w1:=(Below.refl _ _).grown hgrow (Nat.le_refl _) (fun k hk => by cases hk);rw [← hZ] at hg1 hz;obtain ⟨w2,hcp,HG2,hnx2⟩:=dN (P:=Tryz.prog) 197 9 3 5 Tryz.underlying197 gz (some ⟨w.heap.size,0,none⟩) x.size x.size x w.heap.size 0 Z 5 hg1 af (fun _ => rfl) af w.heap.size w hnx1 (Nat.le_refl _);have hs2 : splice Z 0 (Lib.byteCells x.data.toList) = Lib.byteCells x.data.toList:=by
  unfold splice;have h1 : List.drop (0 + (Lib.byteCells x.data.toList).length) Z = []:=List.drop_eq_nil_of_le (by rw [dU];omega);rw [h1];simp
 rw [hs2] at HG2;have hcp2:=Lib.run_copy_empty_string (P:=Tryz.prog) w2 197 9 3 5 (some ⟨w.heap.size,0,none⟩) 0 0 ByteArray.empty Tryz.underlying197 av rfl;have hcv:=og (cap:=x.size) x.data.toList (Lib.size_eq x).symm HG2.out;clear hs2 hZ hown hgrow hg1 hi hz0 hz1 hz2 HG2 hnx1;go_wp2;go_ret;exact ⟨rfl,hnx2⟩

theorem nY (x y : ByteArray) (w : World) (h : x.size + y.size ≤ 1073741824) (hy : ¬ y = ByteArray.empty) :
  Calls Tryz.prog 191 #[.string x,.string y] w fun e w' => e = .returned (.string ⟨(x.data.toList ++ y.data.toList).toArray⟩) ∧ Below w.heap.size w w':=by
 obtain ⟨i0,hi,hz0,hz1,hz2⟩:=info_parts kG;go_enter Tryz.func191,Tryz.ntmps191;go_wp2_with (at_make;refine wpList_make_full _ rfl _ _ 197 rfl w.heap.size 5 i0 (.int .u8 0) 1 Tryz.underlying197 hi hz0 hz1 _ _ _ _ (x.size + y.size) rfl rfl af af fL cd (Nat.le_refl _) ?_);intro w1 hown hgrow;obtain ⟨hg1,hz,-⟩:=oc hown;obtain ⟨Z,hZ⟩ : ∃ Z,Z = (madeCells #[Value.int IntKind.u8 0] (x.size + y.size)).toList:=⟨_,rfl⟩;have hnx1 : Below w.heap.size w w1:=(Below.refl _ _).grown hgrow (Nat.le_refl _) (fun k hk => by cases hk);rw [← hZ] at hg1 hz;obtain ⟨w2,hcp,HG2,hnx2⟩:=dN (P:=Tryz.prog) 197 9 3 5 Tryz.underlying197 gz (some ⟨w.heap.size,0,none⟩) (x.size + y.size) (x.size + y.size) x w.heap.size 0 Z 5 hg1 af (fun _ => rfl) af w.heap.size w hnx1 (Nat.le_refl _);obtain ⟨w3,hcp2,HG3,hnx3⟩:=dN (P:=Tryz.prog) 197 9 3 5 Tryz.underlying197 gz (some ⟨w.heap.size,x.size,none⟩) y.size y.size y w.heap.size x.size _ 5 HG2.out af (fun _ => rfl) (by rw [length_splice _ _ _ (by rw [dU];omega)];omega) w.heap.size w hnx2 (Nat.le_refl _);have hs2 : splice (splice Z 0 (Lib.byteCells x.data.toList)) x.size (Lib.byteCells y.data.toList) = Lib.byteCells (x.data.toList ++ y.data.toList):=by
  have h1:=oH (Z:=Z) (X:=Lib.byteCells x.data.toList) (Y:=Lib.byteCells y.data.toList) (by rw [dU,dU];exact hz);rw [dU] at h1;rw [h1,Lib.byteCells_append]
 rw [hs2] at HG3;have hcv:=og (n:=x.size + y.size) (cap:=x.size + y.size) (x.data.toList ++ y.data.toList) (by rw [List.length_append,← Lib.size_eq,← Lib.size_eq]) HG3.out;clear hs2 hZ hown hgrow hg1 hi hz0 hz1 hz2 HG2 hnx1 HG3;go_wp2;go_ret;exact ⟨rfl,hnx3⟩

theorem lV (x y : ByteArray) : x ++ y = ⟨(x.data.toList ++ y.data.toList).toArray⟩:=by
 apply ByteArray.ext;simp

theorem qv (x y : ByteArray) (w : World) (h : x.size + y.size ≤ 1073741824) :
  Calls Tryz.prog 191 #[.string x,.string y] w fun e w' => e = .returned (.string (x ++ y)) ∧ Below w.heap.size w w':=by
 by_cases hy : y = ByteArray.empty
 ·subst hy;have:=nZ x w af;rw [show x ++ ByteArray.empty = x from by simp];exact this
 ·rw [lV];exact nY x y w h hy

def aA : ByteArray:=⟨#[118,95]⟩
def gn (n' k' v' n z t : ByteArray) : Prop:=k' = n ∧ v' = ⟨#[]⟩ ∧ (z = ⟨#[]⟩ ∨ z = t) ∧ n'.size ≤ 18
def yM (n' : ByteArray) (c' : Int) (k' v' n z t : ByteArray) : Prop:=e_ n' c' k' v' ∧ gq n z ∧ aL t
def yL (n0 : ByteArray) (c0 : Int) (z0 k0 : ByteArray) (x0 : Bool) (m0 : ByteArray) : Prop:=n0 = ⟨#[]⟩ ∧ c0 = 0 ∧ z0 = ⟨#[]⟩ ∧ k0 = ⟨#[]⟩ ∧ x0 = false ∧ m0 = ⟨#[]⟩
def CK (n' : ByteArray) (c' : Int) (k' : ByteArray) (x' : Bool) (v' n z t : ByteArray) (n0 : ByteArray) (c0 : Int) (z0 k0 : ByteArray) (x0 : Bool) (m0 : ByteArray) (p0 : Int) : Prop :=
 (8000 < t.size ∧ yL n0 c0 z0 k0 x0 m0 ∧ p0 = 2) ∨ (¬ 8000 < t.size ∧ ¬ yM n' c' k' v' n z t ∧ yL n0 c0 z0 k0 x0 m0 ∧ p0 = 1) ∨
 (¬ 8000 < t.size ∧ yM n' c' k' v' n z t ∧ ¬ gn n' k' v' n z t ∧ yL n0 c0 z0 k0 x0 m0 ∧ p0 = 10) ∨
 (¬ 8000 < t.size ∧ yM n' c' k' v' n z t ∧ gn n' k' v' n z t ∧ (n0 = aA ++ n' ∧ c0 = c' ∧ z0 = t ∧ k0 = k' ∧ x0 = x' ∧ m0 = n') ∧ p0 = 0)
def zY (n' : ByteArray) (c' : Int) (k' : ByteArray) (x' : Bool) (v' : ByteArray) (n z : ByteArray) (t : ByteArray) (w : World) (e : Ending) (w' : World) : Prop :=
 ∃ n0 c0 z0 k0 x0 m0 p0,e = .returned (.agg #[.string n0,.int .i64 c0,.string z0,.string k0,.bool x0,.string m0,.bool false,.slice none 0 0,.int .i64 p0]) ∧ CK n' c' k' x' v' n z t n0 c0 z0 k0 x0 m0 p0 ∧ Below w.heap.size w w'
theorem cm {w w1 : World} {B b : Nat} {v0 v1 v2 v3 v4 v5 v6 v7 v8 : Value} (hB : B ≤ b) (h : Below B w w1) :
  Below B w (((((((((w1.setCell ⟨b,0,none⟩ (v0)).setCell ⟨b,1,none⟩ (v1)).setCell ⟨b,2,none⟩ (v2)).setCell ⟨b,3,none⟩ (v3)).setCell ⟨b,4,none⟩ (v4)).setCell ⟨b,5,none⟩ (v5)).setCell ⟨b,6,none⟩ (v6)).setCell ⟨b,7,none⟩ (v7)).setCell ⟨b,8,none⟩ (v8)) :=
 ((((((((h.setCell (p:=⟨b,0,none⟩) hB v0).setCell (p:=⟨b,1,none⟩) hB v1).setCell (p:=⟨b,2,none⟩) hB v2).setCell (p:=⟨b,3,none⟩) hB v3).setCell (p:=⟨b,4,none⟩) hB v4).setCell (p:=⟨b,5,none⟩) hB v5).setCell (p:=⟨b,6,none⟩) hB v6).setCell (p:=⟨b,7,none⟩) hB v7).setCell (p:=⟨b,8,none⟩) hB v8
theorem xV {n' : ByteArray} (h : n'.size ≤ 18) : (⟨#[118,95]⟩ : ByteArray).size + n'.size ≤ 9223372036854775807:=by rw [show (⟨#[118,95]⟩ : ByteArray).size = 2 from rfl];omega

theorem tG (n' : ByteArray) (c' : Int) (k' : ByteArray) (x' : Bool) (v' : ByteArray) (n : ByteArray) (x : Bool) (y : Bool) (z : ByteArray) (t : ByteArray) (w : World) (hn' : n'.size ≤ 9223372036854775807) (hm : ¬ gn n' k' v' n z t) :
  Calls Tryz.prog 155 #[.agg #[.string n',.int .i64 c',.string k',.bool x',.string v'],.agg #[.string n,.bool x,.bool y,.string z],.string t] w fun e w' => e = .returned (.tuple #[.agg #[.string ⟨#[]⟩,.int .i64 0,.string ⟨#[]⟩,.string ⟨#[]⟩,.bool false,.string ⟨#[]⟩,.bool false,.slice none 0 0],.bool false]) ∧ Below w.heap.size w w':=by
 have HM:=ae hm;clear hm;by_cases h0 : k' = n;case neg =>
  have q0:=bo h0;clear h0;exact ky
 have q0:=aV h0;have H0:=ae h0;clear h0;by_cases h1 : v' = ⟨#[]⟩;case neg =>
  have q1:=aY h1;clear h1;exact ky
 have q1 : v'.toList.isEmpty = true:=(dt v').2 h1;have H1:=ae h1;clear h1;by_cases h3 : 18 < n'.size
 ·by_cases h2 : z = ⟨#[]⟩
  ·have q2 : z.toList.isEmpty = true:=(dt z).2 h2;clear h2;exact ky
  ·have q2:=aY h2;by_cases h4 : z = t
   ·have q4:=aV h4;clear h4 h2;exact ky
   ·have q4:=bo h4;clear h4 h2;exact ky
 by_cases h2 : z = ⟨#[]⟩
 ·exact absurd ⟨H0.out,H1.out,.inl h2,by omega⟩ HM.out
 have q2:=aY h2;by_cases h4 : z = t
 ·exact absurd ⟨H0.out,H1.out,.inr h4,by omega⟩ HM.out
 have q4:=bo h4;clear h4 h2;exact ky

theorem ra (n' : ByteArray) (c' : Int) (k' : ByteArray) (x' : Bool) (v' : ByteArray) (n : ByteArray) (x : Bool) (y : Bool) (z : ByteArray) (t : ByteArray) (w : World) (hm : gn n' k' v' n z t) :
  Calls Tryz.prog 155 #[.agg #[.string n',.int .i64 c',.string k',.bool x',.string v'],.agg #[.string n,.bool x,.bool y,.string z],.string t] w fun e w' => e = .returned (.tuple #[.agg #[.string (aA ++ n'),.int .i64 c',.string t,.string k',.bool x',.string n',.bool false,.slice none 0 0],.bool true]) ∧ Below w.heap.size w w':=by
 obtain ⟨h0,h1,h2,h3⟩:=hm;have q0:=aV h0;have q1 : v'.toList.isEmpty = true:=(dt v').2 h1;have q5:=xV h3;clear h0 h1;by_cases h4 : z = ⟨#[]⟩
 ·have q2 : z.toList.isEmpty = true:=(dt z).2 h4;exact xO
 ·have q2:=aY h4;have q4:=aV (h2.resolve_left h4);exact xO

theorem kH (n' : ByteArray) (c' : Int) (k' : ByteArray) (x' : Bool) (v' : ByteArray) (n : ByteArray) (x : Bool) (y : Bool) (z : ByteArray) (t : ByteArray) (w : World) (hn' : n'.size ≤ 9223372036854775807) (hk' : k'.size ≤ 9223372036854775807) (hv' : v'.size ≤ 9223372036854775807) (hn : n.size ≤ 9223372036854775807) (hz : z.size ≤ 9223372036854775807) (ht : t.size ≤ 9223372036854775807) :
  Calls Tryz.prog 173 #[.agg #[.string n',.int .i64 c',.string k',.bool x',.string v'],.agg #[.string n,.bool x,.bool y,.string z],.string t] w (zY n' c' k' x' v' n z t w):=by
 by_cases hl : 8000 < t.size
 ·have HL:=ae hl;go_enter Tryz.func173,Tryz.ntmps173;go_wp2_with fail;refine (fV t _ hl).mono ?_;rintro e w1 ⟨rfl,rfl⟩;go_wp2_with fail;exact bodyPost_ret (v:=.agg #[.string ⟨#[]⟩,.int .i64 0,.string ⟨#[]⟩,.string ⟨#[]⟩,.bool false,.string ⟨#[]⟩,.bool false,.slice none 0 0,.int .i64 2]) (by simp [results,Tryz.results173,go_sem]) rfl ⟨_,_,_,_,_,_,_,rfl,.inl ⟨HL.out,⟨rfl,rfl,rfl,rfl,rfl,rfl⟩,rfl⟩,br _ _ _ _⟩
 have HL:=ae hl;go_enter Tryz.func173,Tryz.ntmps173;go_wp2_with fail;refine (fW t _ hl).mono ?_;rintro e w1 ⟨rfl,rfl⟩;go_wp2_with fail;refine (ee n' c' k' x' v' _ hn' hk' hv').mono ?_;rintro e w1 ⟨r,rfl,hr,hb⟩;have g0:=(hb.block w.heap.size bF).trans (dJ _ _ _ _);have g1:=(hb.block (w.heap.size + 1) aN).trans (db _ _ _ _);have g2:=(hb.block (w.heap.size + 1 + 1) aN).trans (cz _ _ _ _);have HB:=ae ((br w _ _ _).trans (hb.mono bF));have HG0:=ae g0;have HG1:=ae g1;have HG2:=ae g2;obtain ⟨d0,d1,d2,d3,d4⟩:=cs5 g0;obtain ⟨e0,e1,e2,e3⟩:=cs4 g1;have r0 : w1.cell? ⟨w.heap.size + 1 + 1,0,none⟩ = some (.string ⟨#[]⟩):=ah g2 0;have r1 : w1.cell? ⟨w.heap.size + 1 + 1,1,none⟩ = some (.int .i64 0):=ah g2 1;have r2 : w1.cell? ⟨w.heap.size + 1 + 1,2,none⟩ = some (.string ⟨#[]⟩):=ah g2 2;have r3 : w1.cell? ⟨w.heap.size + 1 + 1,3,none⟩ = some (.string ⟨#[]⟩):=ah g2 3;have r4 : w1.cell? ⟨w.heap.size + 1 + 1,4,none⟩ = some (.bool false):=ah g2 4;have r5 : w1.cell? ⟨w.heap.size + 1 + 1,5,none⟩ = some (.string ⟨#[]⟩):=ah g2 5;have r6 : w1.cell? ⟨w.heap.size + 1 + 1,6,none⟩ = some (.bool false):=ah g2 6;have r7 : w1.cell? ⟨w.heap.size + 1 + 1,7,none⟩ = some (.slice none 0 0):=ah g2 7;have r8 : w1.cell? ⟨w.heap.size + 1 + 1,8,none⟩ = some (.int .i64 0):=ah g2 8;obtain ⟨q0,q1,q2,q3,q4,q5,q6,q7,q8⟩:=ru;clear g0 g1 g2 hb;by_cases hq : r = true;case neg =>
  obtain ⟨HN,hrf⟩:=dB;clear hr;go_wp2_with fail;exact bodyPost_ret (v:=.agg #[.string ⟨#[]⟩,.int .i64 0,.string ⟨#[]⟩,.string ⟨#[]⟩,.bool false,.string ⟨#[]⟩,.bool false,.slice none 0 0,.int .i64 1]) iT rfl ⟨_,_,_,_,_,_,_,rfl,.inr (.inl ⟨HL.out,fun h => HN.out h.1,⟨rfl,rfl,rfl,rfl,rfl,rfl⟩,rfl⟩),cm af HB.out⟩
 have h0:=ae (hr.1 hq);subst hq;clear hr;go_wp2_with fail;refine (fz n z x y _ hn hz).mono ?_;rintro e w2 ⟨r,rfl,hr,hb⟩;obtain ⟨g0,g1,g2,HB'⟩:=uo;clear HB HG0 HG1 HG2 d0 d1 d2 d3 d4 e0 e1 e2 e3 r0 r1 r2 r3 r4 r5 r6 r7 r8 q0 q1 q2 q3 q4 q5 q6 q7 q8;have HB:=HB';clear HB';have HG0:=ae g0;have HG1:=ae g1;have HG2:=ae g2;obtain ⟨d0,d1,d2,d3,d4⟩:=cs5 g0;obtain ⟨e0,e1,e2,e3⟩:=cs4 g1;have r0 : w2.cell? ⟨w.heap.size + 1 + 1,0,none⟩ = some (.string ⟨#[]⟩):=ah g2 0;have r1 : w2.cell? ⟨w.heap.size + 1 + 1,1,none⟩ = some (.int .i64 0):=ah g2 1;have r2 : w2.cell? ⟨w.heap.size + 1 + 1,2,none⟩ = some (.string ⟨#[]⟩):=ah g2 2;have r3 : w2.cell? ⟨w.heap.size + 1 + 1,3,none⟩ = some (.string ⟨#[]⟩):=ah g2 3;have r4 : w2.cell? ⟨w.heap.size + 1 + 1,4,none⟩ = some (.bool false):=ah g2 4;have r5 : w2.cell? ⟨w.heap.size + 1 + 1,5,none⟩ = some (.string ⟨#[]⟩):=ah g2 5;have r6 : w2.cell? ⟨w.heap.size + 1 + 1,6,none⟩ = some (.bool false):=ah g2 6;have r7 : w2.cell? ⟨w.heap.size + 1 + 1,7,none⟩ = some (.slice none 0 0):=ah g2 7;have r8 : w2.cell? ⟨w.heap.size + 1 + 1,8,none⟩ = some (.int .i64 0):=ah g2 8;obtain ⟨q0,q1,q2,q3,q4,q5,q6,q7,q8⟩:=ru;clear g0 g1 g2 hb;by_cases hq : r = true;case neg =>
  obtain ⟨HN,hrf⟩:=dB;clear hr;go_wp2_with fail;exact bodyPost_ret (v:=.agg #[.string ⟨#[]⟩,.int .i64 0,.string ⟨#[]⟩,.string ⟨#[]⟩,.bool false,.string ⟨#[]⟩,.bool false,.slice none 0 0,.int .i64 1]) iT rfl ⟨_,_,_,_,_,_,_,rfl,.inr (.inl ⟨HL.out,fun h => HN.out h.2.1,⟨rfl,rfl,rfl,rfl,rfl,rfl⟩,rfl⟩),cm af HB.out⟩
 have h1:=ae (hr.1 hq);subst hq;clear hr;go_wp2_with fail;refine (aW t _ ht).mono ?_;rintro e w3 ⟨r,rfl,hr,rfl⟩;by_cases hq : r = true;case neg =>
  obtain ⟨HN,hrf⟩:=dB;clear hr;go_wp2_with fail;exact bodyPost_ret (v:=.agg #[.string ⟨#[]⟩,.int .i64 0,.string ⟨#[]⟩,.string ⟨#[]⟩,.bool false,.string ⟨#[]⟩,.bool false,.slice none 0 0,.int .i64 1]) iT rfl ⟨_,_,_,_,_,_,_,rfl,.inr (.inl ⟨HL.out,fun h => HN.out h.2.2,⟨rfl,rfl,rfl,rfl,rfl,rfl⟩,rfl⟩),cm af HB.out⟩
 have h2:=ae (hr.1 hq);subst hq;clear hr;by_cases m0 : k' = n;case neg =>
  have q90:=bo m0;have M0:=ae m0;clear m0;go_wp2_with fail;exact bodyPost_ret (v:=.agg #[.string ⟨#[]⟩,.int .i64 0,.string ⟨#[]⟩,.string ⟨#[]⟩,.bool false,.string ⟨#[]⟩,.bool false,.slice none 0 0,.int .i64 10]) iT rfl ⟨_,_,_,_,_,_,_,rfl,.inr (.inr (.inl ⟨HL.out,⟨h0.out,h1.out,h2.out⟩,fun h => M0.out h.1,⟨rfl,rfl,rfl,rfl,rfl,rfl⟩,rfl⟩)),cm af HB.out⟩
 have q90:=aV m0;have M0:=ae m0;clear m0;by_cases m1 : v' = ⟨#[]⟩;case neg =>
  have q91:=aY m1;have M1:=ae m1;clear m1;go_wp2_with fail;exact bodyPost_ret (v:=.agg #[.string ⟨#[]⟩,.int .i64 0,.string ⟨#[]⟩,.string ⟨#[]⟩,.bool false,.string ⟨#[]⟩,.bool false,.slice none 0 0,.int .i64 10]) iT rfl ⟨_,_,_,_,_,_,_,rfl,.inr (.inr (.inl ⟨HL.out,⟨h0.out,h1.out,h2.out⟩,fun h => M1.out h.2.1,⟨rfl,rfl,rfl,rfl,rfl,rfl⟩,rfl⟩)),cm af HB.out⟩
 have q91 : v'.toList.isEmpty = true:=(dt v').2 m1;have M1:=ae m1;clear m1;go_wp2_with fail;refine (yj n x y z t _ hn hz ht).mono ?_;rintro e w4 ⟨r,rfl,hr,hb⟩;obtain ⟨g0,g1,g2,HB'⟩:=uo;clear HB HG0 HG1 HG2 d0 d1 d2 d3 d4 e0 e1 e2 e3 r0 r1 r2 r3 r4 r5 r6 r7 r8 q0 q1 q2 q3 q4 q5 q6 q7 q8;have HB:=HB';clear HB';have HG0:=ae g0;have HG1:=ae g1;have HG2:=ae g2;obtain ⟨d0,d1,d2,d3,d4⟩:=cs5 g0;obtain ⟨e0,e1,e2,e3⟩:=cs4 g1;have r0 : w4.cell? ⟨w.heap.size + 1 + 1,0,none⟩ = some (.string ⟨#[]⟩):=ah g2 0;have r1 : w4.cell? ⟨w.heap.size + 1 + 1,1,none⟩ = some (.int .i64 0):=ah g2 1;have r2 : w4.cell? ⟨w.heap.size + 1 + 1,2,none⟩ = some (.string ⟨#[]⟩):=ah g2 2;have r3 : w4.cell? ⟨w.heap.size + 1 + 1,3,none⟩ = some (.string ⟨#[]⟩):=ah g2 3;have r4 : w4.cell? ⟨w.heap.size + 1 + 1,4,none⟩ = some (.bool false):=ah g2 4;have r5 : w4.cell? ⟨w.heap.size + 1 + 1,5,none⟩ = some (.string ⟨#[]⟩):=ah g2 5;have r6 : w4.cell? ⟨w.heap.size + 1 + 1,6,none⟩ = some (.bool false):=ah g2 6;have r7 : w4.cell? ⟨w.heap.size + 1 + 1,7,none⟩ = some (.slice none 0 0):=ah g2 7;have r8 : w4.cell? ⟨w.heap.size + 1 + 1,8,none⟩ = some (.int .i64 0):=ah g2 8;obtain ⟨q0,q1,q2,q3,q4,q5,q6,q7,q8⟩:=ru;clear g0 g1 g2 hb;by_cases hq : r = true;case neg =>
  obtain ⟨HN,hrf⟩:=dB;clear hr;go_wp2_with fail;exact bodyPost_ret (v:=.agg #[.string ⟨#[]⟩,.int .i64 0,.string ⟨#[]⟩,.string ⟨#[]⟩,.bool false,.string ⟨#[]⟩,.bool false,.slice none 0 0,.int .i64 10]) iT rfl ⟨_,_,_,_,_,_,_,rfl,.inr (.inr (.inl ⟨HL.out,⟨h0.out,h1.out,h2.out⟩,fun h => HN.out ⟨h1.out,h2.out,h.2.2.1⟩,⟨rfl,rfl,rfl,rfl,rfl,rfl⟩,rfl⟩)),cm af HB.out⟩
 have M2:=ae (hr.1 hq).2.2;subst hq;clear hr;by_cases m3 : 18 < n'.size
 ·have M3:=ae m3;go_wp2_with fail;exact bodyPost_ret (v:=.agg #[.string ⟨#[]⟩,.int .i64 0,.string ⟨#[]⟩,.string ⟨#[]⟩,.bool false,.string ⟨#[]⟩,.bool false,.slice none 0 0,.int .i64 10]) iT rfl ⟨_,_,_,_,_,_,_,rfl,.inr (.inr (.inl ⟨HL.out,⟨h0.out,h1.out,h2.out⟩,fun h => by have h9:=h.2.2.2;have h8:=M3.out;omega,⟨rfl,rfl,rfl,rfl,rfl,rfl⟩,rfl⟩)),cm af HB.out⟩
 go_wp2_with fail;refine (qv ⟨#[118,95]⟩ n' _ (by rw [show (⟨#[118,95]⟩ : ByteArray).size = 2 from rfl];omega)).mono ?_;rintro e w5 ⟨rfl,hb⟩;obtain ⟨g0,g1,g2,HB'⟩:=uo;clear HB HG0 HG1 HG2 d0 d1 d2 d3 d4 e0 e1 e2 e3 r0 r1 r2 r3 r4 r5 r6 r7 r8 q0 q1 q2 q3 q4 q5 q6 q7 q8;have HB:=HB';clear HB';have HG0:=ae g0;have HG1:=ae g1;have HG2:=ae g2;obtain ⟨d0,d1,d2,d3,d4⟩:=cs5 g0;obtain ⟨e0,e1,e2,e3⟩:=cs4 g1;have r0 : w5.cell? ⟨w.heap.size + 1 + 1,0,none⟩ = some (.string ⟨#[]⟩):=ah g2 0;have r1 : w5.cell? ⟨w.heap.size + 1 + 1,1,none⟩ = some (.int .i64 0):=ah g2 1;have r2 : w5.cell? ⟨w.heap.size + 1 + 1,2,none⟩ = some (.string ⟨#[]⟩):=ah g2 2;have r3 : w5.cell? ⟨w.heap.size + 1 + 1,3,none⟩ = some (.string ⟨#[]⟩):=ah g2 3;have r4 : w5.cell? ⟨w.heap.size + 1 + 1,4,none⟩ = some (.bool false):=ah g2 4;have r5 : w5.cell? ⟨w.heap.size + 1 + 1,5,none⟩ = some (.string ⟨#[]⟩):=ah g2 5;have r6 : w5.cell? ⟨w.heap.size + 1 + 1,6,none⟩ = some (.bool false):=ah g2 6;have r7 : w5.cell? ⟨w.heap.size + 1 + 1,7,none⟩ = some (.slice none 0 0):=ah g2 7;have r8 : w5.cell? ⟨w.heap.size + 1 + 1,8,none⟩ = some (.int .i64 0):=ah g2 8;obtain ⟨q0,q1,q2,q3,q4,q5,q6,q7,q8⟩:=ru;clear g0 g1 g2 hb;go_wp2_with fail;exact bodyPost_ret (v:=.agg #[.string (aA ++ n'),.int .i64 c',.string t,.string k',.bool x',.string n',.bool false,.slice none 0 0,.int .i64 0]) (by simp [results,Tryz.results173,go_sem,aA, *]) rfl ⟨_,_,_,_,_,_,_,rfl,.inr (.inr (.inr ⟨HL.out,⟨h0.out,h1.out,h2.out⟩,⟨M0.out,M1.out,M2.out,by omega⟩,⟨rfl,rfl,rfl,rfl,rfl,rfl⟩,rfl⟩)),cm af HB.out⟩

end Go.Proofs.YtdoldaceehdifaaGreatDoor

namespace Go.Proofs.YtdoldaceehdifaaGreatDoor
open Go.RowKit
namespace Rc
open Mk

theorem lJ {α : Type} {nm : α → ByteArray} {ps : List α} {t : ByteArray} {k : Nat} {x y : α} (hr : aJ nm ps) (hx : ps[k]? = some x) (hn : nm x = t) : bh (pl nm (wo nm t ps) t) y (wo nm t ps) = ps.set k y:=by
 have hk : k < ps.length:=(List.getElem?_eq_some_iff.1 hx).1;have hw:=mf hr hx hn;have hpl : pl nm (wo nm t ps) t = k:=by
  rw [hw];have hlt : ∀ (j : Nat) z,j < k → (ps.take k ++ ps.drop (k + 1))[j]? = some z → Op.bytesLess (nm z).toList t.toList = true:=fun j z hj hz => by
   exact xm
  by_cases he : k + 1 < ps.length
  ·have h1 : (ps.take k).length = k:=by rw [List.length_take];omega
   have h2 : (ps.take k ++ ps.drop (k + 1))[k]? = some ps[k + 1]:=by
    exact wO
   refine nL hlt h2 ?_;have h3:=hr.lt (Nat.lt_succ_self k) hx (List.getElem?_eq_getElem he);rw [hn] at h3;cases h9 : Op.bytesLess (nm ps[k + 1]).toList t.toList
   ·rfl
   ·have h8:=cq _ _ _ h3 h9;rw [dj] at h8;cases h8
  ·exact xL
 exact wb
theorem z_ {w : World} {a : Option Addr} {len cap : Nat} {vs : List Vd} (h : aI w a len cap 8 (vs.map vdF)) : dV w a len cap vs:=by
 obtain ⟨h1,h2,h3,h5⟩:=h;refine ⟨by simpa using h1,h2,h3,?_⟩;rcases h5 with h5 | ⟨b,o,rfl,hlt,hc⟩
 ·exact .inl (by simpa using h5)
 ·refine .inr ⟨b,o,rfl,hlt,fun j v hv => ?_⟩;obtain ⟨va,vl,vc,hvr,z0,z2,z3,z5,c0,c1,c2,c3,c4,c5,c6,c7⟩:=aK (hc j (vdF v) (by rw [List.getElem?_map,hv];rfl));exact ⟨⟨z0,z2,z3,z5⟩,va,vl,vc,hvr,c0,c1,c2,c3,c4,c5,c6,c7⟩
def bdX (x : Xd) (n : ByteArray) : Xd:=⟨x.n,x.z,x.k,x.x,n⟩
def bdV (v : Vd) (n : ByteArray) : Vd:=⟨v.n,v.c,v.z,v.k,v.x,n,v.y,v.zs⟩
def cZ (c : Cl) (i j : Nat) (x : Xd) (u : Vd) : Cl:=⟨c.ns,c.ks,c.vs.set j (bdV u x.n),c.xs.set i (bdX x u.n),c.ps,c.now⟩
def mkV (x : Xd) (t : ByteArray) : Vd:=⟨aA ++ x.n,x.z,t,x.k,x.x,x.n,false,[]⟩
def cI (c : Cl) (i : Nat) (x : Xd) (t : ByteArray) : Cl:=⟨c.ns,c.ks,bh (pl Vd.n c.vs (aA ++ x.n)) (mkV x t) c.vs,c.xs.set i (bdX x (aA ++ x.n)),c.ps,c.now⟩
def fR (c : Cl) (x : Xd) (v : Vd) : Cl:=⟨c.ns,c.ks,bh (pl Vd.n (wo Vd.n v.n c.vs) v.n) v (wo Vd.n v.n c.vs),bh (pl Xd.n (wo Xd.n x.n c.xs) x.n) x (wo Xd.n x.n c.xs),c.ps,c.now⟩
theorem yU {α : Type} {nm : α → ByteArray} {t : ByteArray} {xs : List α} (h : ∀ (j : Nat) x,xs[j]? = some x → ¬ nm x = t) : wo nm t xs = xs:=List.filter_eq_self.2 fun y hy => by
 obtain ⟨j,hj⟩:=List.getElem?_of_mem hy;simp [bo (h j y hj)]
theorem nM {c : Cl} {i j : Nat} {x : Xd} {u : Vd} (hr : aC c) (hx : c.xs[i]? = some x) (hu : c.vs[j]? = some u) : fR c (bdX x u.n) (bdV u x.n) = cZ c i j x u:=by
 unfold fR cZ;rw [show (bdX x u.n).n = x.n from rfl,show (bdV u x.n).n = u.n from rfl,lJ (y:=bdV u x.n) hr.2.1.2.2.1.2.2 hu rfl,lJ (y:=bdX x u.n) hr.2.1.2.2.2.1.2.2 hx rfl]
theorem qg {c : Cl} {i : Nat} {x : Xd} {t : ByteArray} (hr : aC c) (hx : c.xs[i]? = some x) (hh : hit Vd.n c.vs (aA ++ x.n) = false) : fR c (bdX x (aA ++ x.n)) (mkV x t) = cI c i x t:=by
 unfold fR cI;have h1 : wo Vd.n (aA ++ x.n) c.vs = c.vs:=yU (fun j v hv e => by
  have:=(bU hr.2.1.2.2.1.2.2 hv e).2;rw [hh] at this;cases this)
 rw [show (bdX x (aA ++ x.n)).n = x.n from rfl,show (mkV x t).n = aA ++ x.n from rfl,h1,lJ (y:=bdX x (aA ++ x.n)) hr.2.1.2.2.2.1.2.2 hx rfl]
def aR (t z : ByteArray) : ByteArray:=if t = ⟨#[]⟩ then z else t
def dF (x : Xd) (k : Kd) (t : ByteArray) : Prop:=¬ aR t k.z = ⟨#[]⟩ ∧ gn x.n x.k x.v k.n k.z (aR t k.z)
def dL (c : Cl) (i : Nat) (x : Xd) (k : Kd) (t : ByteArray) (o : Co) : Prop :=
 (∃ j u,cJ (svV x.z x.k x.x t) c.vs = some u ∧ c.vs[j]? = some u ∧ o = ⟨cZ c i j x u,u.n,0⟩) ∨
 (cJ (svV x.z x.k x.x t) c.vs = none ∧ ((¬ dF x k t ∧ o = co0 6) ∨ (dF x k t ∧ ((hit Vd.n c.vs (aA ++ x.n) = true ∧ o = co0 7) ∨ (hit Vd.n c.vs (aA ++ x.n) = false ∧ ((¬ c.vs.length < 8 ∧ o = co0 9) ∨ (c.vs.length < 8 ∧ o = ⟨cI c i x (aR t k.z),aA ++ x.n,0⟩)))))))
theorem dL.same {c : Cl} {i : Nat} {x : Xd} {k : Kd} {t : ByteArray} {o o' : Co} (hr : aC c) (h : dL c i x k t o) (h' : dL c i x k t o') : o = o':=by
 rcases h with ⟨j,u,a1,a2,rfl⟩ | ⟨a1,a⟩ <;> rcases h' with ⟨j',u',b1,b2,rfl⟩ | ⟨b1,b⟩
 ·rw [a1] at b1;obtain rfl:=Option.some.inj b1;obtain ⟨rfl,-⟩:=hr.2.1.2.2.1.2.2.inj a2 b2 rfl;rfl
 ·rw [a1] at b1;cases b1
 ·rw [a1] at b1;cases b1
 ·rcases a with ⟨a2,rfl⟩ | ⟨a2,a⟩ <;> rcases b with ⟨b2,rfl⟩ | ⟨b2,b⟩
  ·rfl
  ·exact absurd b2 a2
  ·exact absurd a2 b2
  ·rcases a with ⟨a3,rfl⟩ | ⟨a3,a⟩ <;> rcases b with ⟨b3,rfl⟩ | ⟨b3,b⟩
   ·rfl
   ·rw [a3] at b3;cases b3
   ·rw [a3] at b3;cases b3
   ·rcases a with ⟨a4,rfl⟩ | ⟨a4,rfl⟩ <;> rcases b with ⟨b4,rfl⟩ | ⟨b4,rfl⟩
    ·rfl
    ·exact absurd b4 a4
    ·exact absurd a4 b4
    ·rfl
theorem AskWhy.only {c : Cl} {t : ByteArray} {n m : Nat} (h : AskWhy c t n) (h' : AskWhy c t m) : n = m:=by
 rcases n with _ | _ | _ | n <;> rcases m with _ | _ | _ | m <;> simp only [AskWhy] at h h' <;> first | rfl | exact absurd h h'.1 | exact absurd h' h.1 | exact absurd h'.2.1 h.2 | exact absurd h.2.1 h'.2
theorem AskWhy.not {c : Cl} {t : ByteArray} {n : Nat} {i : Nat} {x : Xd} (h : AskWhy c t n) (h1 : ¬ 8000 < t.size) (h2 : aC c) (hx : c.xs[i]? = some x) (hn : x.n = t) : False:=by
 rcases n with _ | _ | _ | n <;> simp only [AskWhy] at h
 ·exact h1 h
 ·exact h.2 h2
 ·exact h.2.2 ⟨i,x,hx,hn⟩

theorem cF {α : Type} {xs : List α} {j k : Nat} {u y z : α} (_hu : xs[j]? = some u) (h : (xs.set j y)[k]? = some z) : (k = j ∧ z = y) ∨ (¬ k = j ∧ xs[k]? = some z):=by
 rw [List.getElem?_set] at h;by_cases e : j = k
 ·rw [if_pos e] at h;split at h
  ·exact .inl ⟨e.symm,(Option.some.inj h).symm⟩
  ·cases h
 ·rw [if_neg e] at h;exact .inr ⟨fun q => e q.symm,h⟩
theorem eT {α : Type} {xs : List α} {j : Nat} {u y : α} (hu : xs[j]? = some u) : (xs.set j y)[j]? = some y:=by
 rw [List.getElem?_set,if_pos rfl,if_pos (List.getElem?_eq_some_iff.1 hu).1]
theorem cv {α : Type} {xs : List α} {j k : Nat} {y z : α} (hk : ¬ k = j) (h : xs[k]? = some z) : (xs.set j y)[k]? = some z:=by
 rw [List.getElem?_set,if_neg (fun e => hk e.symm)];exact h
theorem fK {α : Type} {nm : α → ByteArray} {xs : List α} {k : Nat} {x y : α} (h : aJ nm xs) (hx : xs[k]? = some x) (e : nm y = nm x) : aJ nm (xs.set k y):=by
 intro j a b ha hb;have hn : ∀ (q : Nat) z,(xs.set k y)[q]? = some z → ∃ z',xs[q]? = some z' ∧ nm z = nm z':=fun q z hz => by
  rcases cF hx hz with ⟨rfl,rfl⟩ | ⟨_,hz⟩
  ·exact ⟨x,hx,e⟩
  ·exact ⟨z,hz,rfl⟩
 obtain ⟨a',ha',ea⟩:=hn _ _ ha;obtain ⟨b',hb',eb⟩:=hn _ _ hb;rw [ea,eb];exact h j a' b' ha' hb'
theorem iD {α : Type} {nm : α → ByteArray} {xs : List α} {k : Nat} {x y : α} {t : ByteArray} (h : aJ nm xs) (hx : xs[k]? = some x) (e : nm y = nm x) (hh : hit nm xs t = true) : hit nm (xs.set k y) t = true:=by
 obtain ⟨z,hz,hn⟩:=da hh;generalize pl nm xs t = q at hz;by_cases hq : q = k
 ·subst hq;rw [hx] at hz;obtain rfl:=Option.some.inj hz;exact (bU (fK h hx e) (eT hx) (e.trans hn)).2
 ·exact (bU (fK h hx e) (cv hq hz) hn).2
theorem nO (t : ByteArray) : ∀ (vs : List Vd) (j : Nat) (u y : Vd),vs[j]? = some u → y.zs = u.zs → onOf t (vs.set j y) = onOf t vs
 | [],_,_,_,h,_ => by simp at h
 | v :: vs,0,u,y,h,e => by
  obtain rfl : v = u:=gZ
  rw [List.set_cons_zero];unfold onOf;rw [e]
 | v :: vs,j + 1,u,y,h,e => by
  have h' : vs[j]? = some u:=gZ
  simp [onOf,nO t vs j u y h' e]

theorem iA {α : Type} {p j : Nat} {x y : α} {xs : List α} (h : (bh p x xs)[j]? = some y) : y = x ∨ ∃ i : Nat,xs[i]? = some y:=by
 have h1:=List.mem_of_getElem? h;unfold bh at h1;simp only [List.mem_append,List.mem_singleton] at h1;rcases h1 with (h1 | h1) | h1
 ·exact .inr (List.getElem?_of_mem (List.mem_of_mem_take h1))
 ·exact .inl h1
 ·exact .inr (List.getElem?_of_mem (List.mem_of_mem_drop h1))
theorem Cs {α : Type} (p : Nat) (x : α) (xs : List α) : ∃ j : Nat,(bh p x xs)[j]? = some x:=List.getElem?_of_mem (by unfold bh;simp)
theorem jr {α : Type} (p : Nat) (x : α) {j : Nat} {y : α} {xs : List α} (h : xs[j]? = some y) : ∃ i : Nat,(bh p x xs)[i]? = some y:=by
 refine List.getElem?_of_mem ?_;have h1:=List.mem_of_getElem? h;rw [← List.take_append_drop p xs,List.mem_append] at h1;unfold bh;simp only [List.mem_append,List.mem_singleton];exact h1.elim (fun h => .inl (.inl h)) .inr
theorem zq (t : ByteArray) (p : Nat) (y : Vd) (vs : List Vd) (e : y.zs = []) : onOf t (bh p y vs) = onOf t vs:=by
 have h0 : ¬ InL y.zs t:=fun ⟨k,hk⟩ => by rw [e] at hk;simp at hk
 have h1 : onOf t [y] = 0:=by
  unfold onOf;rw [if_neg h0];simp [onOf]
 have h2:=dh t (vs.take p) (vs.drop p);rw [List.take_append_drop] at h2;unfold bh;rw [dh,dh,h1,h2];omega
theorem sA {x t : ByteArray} (h : Op.bytesLess x.toList t.toList = false) (hn : ¬ x = t) : Op.bytesLess t.toList x.toList = true:=by
 exact w_
theorem nR (b : Bool) : dd [] (if b = true then 1 else 6):=⟨by cases b <;> decide,fun i x h => by simp at h⟩
theorem BO {α : Type} {nm : α → ByteArray} {xs : List α} {y : α} {t : ByteArray} (h : aJ nm xs) (hn : nm y = t) (hh : hit nm xs t = false) : aJ nm (bh (pl nm xs t) y xs):=by
 have hp : pl nm xs t ≤ xs.length:=List.findIdx_le_length;have lo : ∀ (q : Nat) z,q < pl nm xs t → xs[q]? = some z → Op.bytesLess (nm z).toList t.toList = true:=fun q z hq hz => by
  have h1:=List.not_of_lt_findIdx (p:=fun x => !Op.bytesLess (nm x).toList t.toList) (xs:=xs) hq;obtain ⟨h2,rfl⟩:=List.getElem?_eq_some_iff.1 hz;simpa using h1
 have hi : ∀ (q : Nat) z,pl nm xs t ≤ q → xs[q]? = some z → Op.bytesLess t.toList (nm z).toList = true:=fun q z hq hz => by
  have hl:=(List.getElem?_eq_some_iff.1 hz).1;have h1:=List.findIdx_getElem (p:=fun x => !Op.bytesLess (nm x).toList t.toList) (xs:=xs) (w:=Nat.lt_of_le_of_lt hq hl);have h2 : xs[pl nm xs t]? = some (xs[pl nm xs t]'(Nat.lt_of_le_of_lt hq hl)):=List.getElem?_eq_getElem _;have h3 : Op.bytesLess (nm (xs[pl nm xs t]'(Nat.lt_of_le_of_lt hq hl))).toList t.toList = false:=by simpa [pl] using h1
  have h4:=sA h3 (fun e => by
   have:=(bU h h2 e).2;rw [hh] at this;cases this)
  rcases Nat.lt_or_eq_of_le hq with k | k
  ·exact cq _ _ _ h4 (h.lt k h2 hz)
  ·rw [← k,h2] at hz;obtain rfl:=Option.some.inj hz;exact h4
 intro j a b ha hb;have ja : j + 1 < xs.length + 1:=by
  have:=(List.getElem?_eq_some_iff.1 ha).1;rw [dD hp] at this;exact this
 rw [iB hp _ ja] at ha;rw [iB hp _ af] at hb;generalize pl nm xs t = p at *;rcases Nat.lt_trichotomy (j + 1) p with k | k | k
 ·rw [if_pos k,List.getElem?_append_left af] at ha;rw [if_pos af,List.getElem?_append_left af] at hb;exact h j a b ha hb
 ·rw [if_neg af,if_pos k] at ha;rw [if_pos af,List.getElem?_append_left af] at hb;obtain rfl : y = a:=by simpa using ha
  rw [hn];exact lo j b af hb
 ·rw [if_neg af,if_neg af,Nat.add_sub_cancel,List.getElem?_append_left af] at ha;rw [if_neg af] at hb;by_cases e : j = p
  ·rw [if_pos e] at hb;obtain rfl : y = b:=by simpa using hb
   rw [hn];exact hi j a af ha
  ·rw [if_neg e,List.getElem?_append_left af] at hb;obtain ⟨q,rfl⟩ : ∃ q,j = q + 1:=⟨j - 1,by omega⟩;exact h q a b ha hb

section
variable {c : Cl} {i j : Nat} {x : Xd} {u : Vd}
theorem kQ (hT : aC c) (hx : c.xs[i]? = some x) (hxv : x.v = ⟨#[]⟩) (hu : c.vs[j]? = some u) (hum : u.m = ⟨#[]⟩) {t s : ByteArray} (h : j6 c t s) : j6 (cZ c i j x u) t s:=by
 obtain ⟨i1,j1,x1,v1,a1,a2,a3,a4,a5,a6,a7⟩:=h;refine ⟨i1,j1,x1,v1,cv (fun e => ?_) a1,a2,cv (fun e => ?_) a3,a4,a5,a6,a7⟩
 ·exact wP
 ·subst e;rw [hu] at a3;obtain rfl:=Option.some.inj a3;have h1:=(hT.2.1.2.2.2.1.2.1 _ _ a1).1.1;rw [a2,← a6,hum] at h1;exact absurd h1 al
theorem sH (hT : aC c) (hx : c.xs[i]? = some x) (hxv : x.v = ⟨#[]⟩) (hu : c.vs[j]? = some u) (hum : u.m = ⟨#[]⟩) {t : ByteArray} {v : Vd} (h : bu c t v) : bu (cZ c i j x u) t v:=by
 have hb:=h;obtain ⟨i1,j1,x1,a1,a2,a3,a4⟩:=h;have h0 : ¬ x1.v = ⟨#[]⟩:=fun e => cC.ne hT.2.1 _ _ a3 (a4.trans e);have hB:=((hT.2.2.1.2 _ _ a1).2.resolve_left h0);obtain ⟨i2,j2,x2,v2,c1,c2,c3,c4,c5,c6,-⟩:=hB;obtain ⟨rfl,rfl⟩:=hT.2.1.2.2.1.2.2.inj a3 c3 (a4.trans c4.symm);refine ⟨i1,j1,x1,cv (fun e => ?_) a1,a2,cv (fun e => ?_) a3,a4⟩
 ·subst e;rw [hx] at a1;obtain rfl:=Option.some.inj a1;exact h0 hxv
 ·subst e;rw [hu] at a3;obtain rfl:=Option.some.inj a3;have h1:=(hT.2.1.2.2.2.1.2.1 _ _ a1).1.1;rw [← c6,hum] at h1;exact absurd h1 al
theorem jl {t : ByteArray} {v : Vd} (hT : aC c) (hx : c.xs[i]? = some x) (hxv : x.v = ⟨#[]⟩) (h : bu c t v) : ¬ t = x.n:=fun e => by
 obtain ⟨i1,j1,x1,a1,a2,a3,a4⟩:=h;obtain ⟨-,rfl⟩:=hT.2.1.2.2.2.1.2.2.inj a1 hx (a2.trans e);exact cC.ne hT.2.1 _ _ a3 (a4.trans hxv)
theorem sU (hx : c.xs[i]? = some x) (hu : c.vs[j]? = some u) (hz : x.z ≤ u.c) (hk : u.k = x.k) (hxx : u.x = x.x) : j6 (cZ c i j x u) x.n u.n :=
 ⟨i,j,bdX x u.n,bdV u x.n,eT hx,rfl,eT hu,rfl,rfl,rfl,hz,hk,hxx⟩
theorem qR (hT : aC c) (hx : c.xs[i]? = some x) (hxv : x.v = ⟨#[]⟩) (hu : c.vs[j]? = some u) (hum : u.m = ⟨#[]⟩) (huy : u.y = false) (hz : x.z ≤ u.c) (hk : u.k = x.k) (hxx : u.x = x.x) : aC (cZ c i j x u):=by
 have hV:=hT.2.1.2.2.1;have hX:=hT.2.1.2.2.2.1;have hux:=hV.2.1 _ _ hu;have hxo:=hX.2.1 _ _ hx;have hB:=sU hx hu hz hk hxx;refine ⟨hT.1,⟨hT.2.1.1,hT.2.1.2.1,⟨?_,?_,fK hV.2.2 hu rfl⟩,⟨?_,?_,fK hX.2.2 hx rfl⟩,hT.2.1.2.2.2.2⟩,⟨?_,?_⟩,⟨?_,hT.2.2.2.1.2.1,?_⟩,⟨?_,?_⟩,?_,?_⟩
 ·rw [show (cZ c i j x u).vs = c.vs.set j (bdV u x.n) from rfl,List.length_set];exact hV.1
 ·intro k v hv;rcases cF hu hv with ⟨-,rfl⟩ | ⟨-,hv⟩
  ·exact ⟨hux.1,hux.2.1,hux.2.2.1,hux.2.2.2.1,.inr hxo.1,fun e => absurd (show u.y = true from e) (by rw [huy];exact Bool.noConfusion),hux.2.2.2.2.2.2⟩
  ·exact hV.2.1 _ _ hv
 ·rw [show (cZ c i j x u).xs = c.xs.set i (bdX x u.n) from rfl,List.length_set];exact hX.1
 ·intro k v hv;rcases cF hx hv with ⟨-,rfl⟩ | ⟨-,hv⟩
  ·exact ⟨hxo.1,hxo.2.1,hxo.2.2.1,.inr hux.1⟩
  ·exact hX.2.1 _ _ hv
 ·intro k v hv;rcases cF hu hv with ⟨-,rfl⟩ | ⟨-,hv⟩
  ·exact ⟨(hT.2.2.1.1 _ _ hu).1,.inr hB⟩
  ·exact ⟨(hT.2.2.1.1 _ _ hv).1,(hT.2.2.1.1 _ _ hv).2.imp id (kQ hT hx hxv hu hum)⟩
 ·intro k v hv;rcases cF hx hv with ⟨-,rfl⟩ | ⟨-,hv⟩
  ·exact ⟨(hT.2.2.1.2 _ _ hx).1,.inr hB⟩
  ·exact ⟨(hT.2.2.1.2 _ _ hv).1,(hT.2.2.1.2 _ _ hv).2.imp id (kQ hT hx hxv hu hum)⟩
 ·intro k p hp;have h1:=hT.2.2.2.1.1 k p hp;refine ⟨fun q t ht => iD hX.2.2 hx rfl (h1.1 q t ht),h1.2.imp id ?_⟩;rintro ⟨i1,n,b1,b2,b3,b4⟩;exact wS
 ·intro k v hv;rcases cF hu hv with ⟨-,rfl⟩ | ⟨-,hv⟩
  ·exact xu
  ·exact hT.2.2.2.1.2.2 _ _ hv
 ·intro k v hv;rcases cF hu hv with ⟨-,rfl⟩ | ⟨-,hv⟩
  ·exact (hT.2.2.2.2.1.1 j u hu : AQ1 c u)
  ·exact hT.2.2.2.2.1.1 _ _ hv
 ·intro k n hn;have h1 : onOf n.n c.vs ≤ n.s:=hT.2.2.2.2.1.2 k n hn;show onOf n.n (c.vs.set j (bdV u x.n)) ≤ n.s;rw [nO n.n c.vs j u (bdV u x.n) hu rfl];exact h1
 ·intro k n hn q t ht;obtain ⟨i1,v,b1,b2,b3⟩:=hT.2.2.2.2.2.1 k n hn q t ht;by_cases e : i1 = j
  ·subst e;rw [hu] at b1;obtain rfl:=Option.some.inj b1;exact ⟨i1,bdV u x.n,eT hu,b2,b3⟩
  ·exact ⟨i1,v,cv e b1,b2,b3⟩
 ·intro k p hp h2;obtain ⟨i1,n,b1,b2,b3,b4⟩:=hT.2.2.2.2.2.2 k p hp h2;exact wS
end

section
variable {c : Cl} {i : Nat} {x : Xd} {t : ByteArray}
theorem kP (hT : aC c) (hx : c.xs[i]? = some x) (hxv : x.v = ⟨#[]⟩) {r s : ByteArray} (h : j6 c r s) : j6 (cI c i x t) r s:=by
 obtain ⟨i1,j1,x1,v1,a1,a2,a3,a4,a5,a6,a7⟩:=h;obtain ⟨j2,a3'⟩:=jr (pl Vd.n c.vs (aA ++ x.n)) (mkV x t) a3;refine ⟨i1,j2,x1,v1,cv (fun e => ?_) a1,a2,a3',a4,a5,a6,a7⟩;exact wP
theorem sG (hT : aC c) (hx : c.xs[i]? = some x) (hxv : x.v = ⟨#[]⟩) {r : ByteArray} {v : Vd} (h : bu c r v) : bu (cI c i x t) r v:=by
 obtain ⟨i1,j1,x1,a1,a2,a3,a4⟩:=h;obtain ⟨j2,a3'⟩:=jr (pl Vd.n c.vs (aA ++ x.n)) (mkV x t) a3;refine ⟨i1,j2,x1,cv (fun e => ?_) a1,a2,a3',a4⟩;subst e;rw [hx] at a1;obtain rfl:=Option.some.inj a1;exact cC.ne hT.2.1 _ _ a3 (a4.trans hxv)
theorem sz (hx : c.xs[i]? = some x) : j6 (cI c i x t) x.n (aA ++ x.n):=by
 obtain ⟨j,hj⟩:=Cs (pl Vd.n c.vs (aA ++ x.n)) (mkV x t) c.vs;exact ⟨i,j,bdX x (aA ++ x.n),mkV x t,eT hx,rfl,hj,rfl,rfl,rfl,Int.le_refl _,rfl,rfl⟩
theorem qm (hT : aC c) (hx : c.xs[i]? = some x) (hxv : x.v = ⟨#[]⟩) (hh : hit Vd.n c.vs (aA ++ x.n) = false) (hl : c.vs.length < 8) (hnm : aL (aA ++ x.n)) (ht : aL t) : aC (cI c i x t):=by
 have hV:=hT.2.1.2.2.1;have hX:=hT.2.1.2.2.2.1;have hxo:=hX.2.1 _ _ hx;have hB : j6 (cI c i x t) x.n (aA ++ x.n):=sz hx;refine ⟨hT.1,⟨hT.2.1.1,hT.2.1.2.1,⟨?_,?_,BO hV.2.2 rfl hh⟩,⟨?_,?_,fK hX.2.2 hx rfl⟩,hT.2.1.2.2.2.2⟩,⟨?_,?_⟩,⟨?_,hT.2.2.2.1.2.1,?_⟩,⟨?_,?_⟩,?_,?_⟩
 ·rw [show (cI c i x t).vs = bh (pl Vd.n c.vs (aA ++ x.n)) (mkV x t) c.vs from rfl,dD (show pl Vd.n c.vs (aA ++ x.n) ≤ c.vs.length from List.findIdx_le_length)];omega
 ·intro k v hv;rcases iA hv with rfl | ⟨k1,hv⟩
  ·exact ⟨hnm,hxo.2.1,ht,hxo.2.2.1,.inr hxo.1,fun e => absurd (show false = true from e) Bool.noConfusion,nR x.x⟩
  ·exact hV.2.1 _ _ hv
 ·rw [show (cI c i x t).xs = c.xs.set i (bdX x (aA ++ x.n)) from rfl,List.length_set];exact hX.1
 ·intro k v hv;rcases cF hx hv with ⟨-,rfl⟩ | ⟨-,hv⟩
  ·exact ⟨hxo.1,hxo.2.1,hxo.2.2.1,.inr hnm⟩
  ·exact hX.2.1 _ _ hv
 ·intro k v hv;rcases iA hv with rfl | ⟨k1,hv⟩
  ·exact ⟨(hT.2.2.1.2 _ _ hx).1,.inr hB⟩
  ·exact ⟨(hT.2.2.1.1 _ _ hv).1,(hT.2.2.1.1 _ _ hv).2.imp id (kP hT hx hxv)⟩
 ·intro k v hv;rcases cF hx hv with ⟨-,rfl⟩ | ⟨-,hv⟩
  ·exact ⟨(hT.2.2.1.2 _ _ hx).1,.inr hB⟩
  ·exact ⟨(hT.2.2.1.2 _ _ hv).1,(hT.2.2.1.2 _ _ hv).2.imp id (kP hT hx hxv)⟩
 ·intro k p hp;have h1:=hT.2.2.2.1.1 k p hp;refine ⟨fun q r hr => iD hX.2.2 hx rfl (h1.1 q r hr),h1.2.imp id ?_⟩;rintro ⟨i1,n,b1,b2,b3,b4⟩;exact wQ
 ·intro k v hv;rcases iA hv with rfl | ⟨k1,hv⟩
  ·exact xu
  ·exact hT.2.2.2.1.2.2 _ _ hv
 ·intro k v hv;rcases iA hv with rfl | ⟨k1,hv⟩
  ·intro q r hr;simp [mkV] at hr
  ·exact hT.2.2.2.2.1.1 _ _ hv
 ·intro k n hn;have h1 : onOf n.n c.vs ≤ n.s:=hT.2.2.2.2.1.2 k n hn;show onOf n.n (bh (pl Vd.n c.vs (aA ++ x.n)) (mkV x t) c.vs) ≤ n.s;rw [zq _ _ _ _ rfl];exact h1
 ·intro k n hn q r hr;obtain ⟨i1,v,b1,b2,b3⟩:=hT.2.2.2.2.2.1 k n hn q r hr;obtain ⟨i2,b1'⟩:=jr (pl Vd.n c.vs (aA ++ x.n)) (mkV x t) b1;exact ⟨i2,v,b1',b2,b3⟩
 ·intro k p hp h2;obtain ⟨i1,n,b1,b2,b3,b4⟩:=hT.2.2.2.2.2.2 k p hp h2;exact wQ
end

theorem qn (s : ByteArray) : (aA ++ s).size = 2 + s.size:=by rw [ByteArray.size_append];rfl
theorem qo {s : ByteArray} (h : aL s) (hs : s.size ≤ 18) : aL (aA ++ s):=by
 obtain ⟨h1,-,h3⟩:=h;have hz:=qn s;refine ⟨by omega,by omega,fun i hi => ?_⟩;by_cases h2 : i < 2
 ·have e : (aA ++ s)[i]'hi = aA[i]'(by exact h2):=ByteArray.getElem_append_left h2;rw [e];match i,h2 with
  | 0,_ => rfl
  | 1,_ => rfl
 ·have e : (aA ++ s)[i]'hi = s[i - 2]'(by omega):=ByteArray.getElem_append_right (by show 2 ≤ i;omega);rw [e];have:=h3 (i - 2) af;revert this;generalize (s[i - 2]'(by omega)).toNat = b;intro h;have hi0 : ¬ i = 0:=af
  unfold okB at h ⊢;rw [if_neg hi0];by_cases h4 : i - 2 = 0
  ·rw [if_pos h4] at h;simp [nbB,h]
  ·rw [if_neg h4] at h;exact h
theorem yV (sv : Vd → Bool) (acc : Option Vd) (v : Vd) : stepB sv acc v = acc ∨ (stepB sv acc v = some v ∧ sv v = true):=by
 unfold stepB;exact (Decidable.em _).elim (fun h => .inr ⟨if_pos h,(Bool.and_eq_true_iff.1 h).1⟩) (fun h => .inl (if_neg h))
theorem rQ (sv : Vd → Bool) {u : Vd} : ∀ (vs : List Vd) (acc : Option Vd),vs.foldl (stepB sv) acc = some u → acc = some u ∨ sv u = true
 | [],_,h => .inl h
 | v :: vs,acc,h => by
  rcases rQ sv vs (stepB sv acc v) h with h1 | h1
  ·rcases yV sv acc v with h2 | ⟨h2,h3⟩
   ·rw [h2] at h1;exact .inl h1
   ·rw [h2] at h1;obtain rfl:=Option.some.inj h1;exact .inr h3
  ·exact .inr h1
theorem rZ {t z : ByteArray} (ht : cB t) (hz : cB z) (h : ¬ aR t z = ⟨#[]⟩) : aL (aR t z):=by
 unfold aR at h ⊢;by_cases e : t = ⟨#[]⟩
 ·rw [if_pos e] at h ⊢;exact hz.resolve_left h
 ·rw [if_neg e];exact ht.resolve_left e
theorem sV {c : Cl} {i j : Nat} {x : Xd} {k : Kd} {t : ByteArray} {o : Co} (hT : aC c) (hx : c.xs[i]? = some x) (hxv : x.v = ⟨#[]⟩) (hk : c.ks[j]? = some k) (ht : cB t) (h : dL c i x k t o) (h0 : o.p = 0) : aC o.c:=by
 rcases h with ⟨j1,u,a1,a2,rfl⟩ | ⟨-,⟨-,rfl⟩ | ⟨a2,⟨-,rfl⟩ | ⟨a3,⟨-,rfl⟩ | ⟨a4,rfl⟩⟩⟩⟩
 ·have h1:=(rQ _ _ _ a1).resolve_left (fun e => by cases e);unfold svV svB at h1;simp only [Bool.and_eq_true_iff] at h1;obtain ⟨⟨⟨⟨⟨b1,b2⟩,b3⟩,b4⟩,b5⟩,-⟩:=h1;exact qR hT hx hxv a2 ((dt _).1 b4) (by simpa using b3) (of_decide_eq_true b5) (fp b1) (eq_of_beq b2)
 ·exact absurd h0 al
 ·exact absurd h0 al
 ·exact absurd h0 al
 ·exact qm hT hx hxv a3 a4 (qo (hT.2.1.2.2.2.1.2.1 _ _ hx).1 a2.2.2.2.2) (rZ ht (hT.2.1.2.1.2.1 _ _ hk).2 a2.1)

def fB (c : Cl) (v : Vd) (s : ByteArray) : Prop:=v.x = true ∧ ((∃ (j : Nat) (t : ByteArray),v.zs[j]? = some t ∧ ¬ t = s) ∨ ∃ (j : Nat) (p : Pd),c.ps[j]? = some p ∧ ¬ p.d = ⟨#[]⟩ ∧ ¬ p.d = s ∧ InL p.zs v.m)
def cW (c : Cl) (n : Nd) (t : ByteArray) (c' : Cl) (e : Int) : Prop:=∃ (i : Nat) (x : Xd),c.xs[i]? = some x ∧ x.n = t ∧
 ((∃ (j : Nat) (v : Vd),c.vs[j]? = some v ∧ v.n = x.v ∧ c' = c ∧ ((¬ v.z = n.z ∧ e = 8) ∨ (v.z = n.z ∧ fB c v n.n ∧ e = 10) ∨ (v.z = n.z ∧ ¬ fB c v n.n ∧ e = 0))) ∨
  (x.v = ⟨#[]⟩ ∧ ∃ (j : Nat) (k : Kd) (o : Co),c.ks[j]? = some k ∧ k.n = x.k ∧ dL c i x k n.z o ∧ c' = o.c ∧ ((k.x = false ∧ e = 11) ∨ (k.x = true ∧ e = o.p))))
theorem cW.same {c c1 c2 : Cl} {n : Nd} {t : ByteArray} {e1 e2 : Int} (hT : aC c) (h : cW c n t c1 e1) (h' : cW c n t c2 e2) : c1 = c2 ∧ e1 = e2:=by
 obtain ⟨i,x,a1,a2,a⟩:=h;obtain ⟨i',x',b1,b2,b⟩:=h';obtain ⟨rfl,rfl⟩:=hT.2.1.2.2.2.1.2.2.inj a1 b1 (a2.trans b2.symm);rcases a with ⟨j,v,a3,a4,rfl,a⟩ | ⟨a3,j,k,o,a4,a5,a6,rfl,a⟩ <;> rcases b with ⟨j',v',b3,b4,rfl,b⟩ | ⟨b3,j',k',o',b4,b5,b6,rfl,b⟩
 ·obtain ⟨-,rfl⟩:=hT.2.1.2.2.1.2.2.inj a3 b3 (a4.trans b4.symm);refine ⟨rfl,?_⟩;rcases a with ⟨p1,rfl⟩ | ⟨p1,p2,rfl⟩ | ⟨p1,p2,rfl⟩ <;> rcases b with ⟨q1,rfl⟩ | ⟨q1,q2,rfl⟩ | ⟨q1,q2,rfl⟩ <;> first | rfl | exact absurd q1 p1 | exact absurd p1 q1 | exact absurd q2 p2 | exact absurd p2 q2
 ·exact absurd (a4.trans b3) (cC.ne hT.2.1 _ _ a3)
 ·exact absurd (b4.trans a3) (cC.ne hT.2.1 _ _ b3)
 ·obtain ⟨-,rfl⟩:=hT.2.1.2.1.2.2.inj a4 b4 (a5.trans b5.symm);obtain rfl:=a6.same hT b6;refine ⟨rfl,?_⟩;rcases a with ⟨p1,rfl⟩ | ⟨p1,rfl⟩ <;> rcases b with ⟨q1,rfl⟩ | ⟨q1,rfl⟩
  ·rfl
  ·rw [p1] at q1;cases q1
  ·rw [p1] at q1;cases q1
  ·rfl
theorem dL.keeps {c : Cl} {i : Nat} {x : Xd} {k : Kd} {t : ByteArray} {o : Co} (hT : aC c) (hx : c.xs[i]? = some x) (h : dL c i x k t o) (h0 : o.p = 0) : o.c.ns = c.ns ∧ o.c.ks = c.ks ∧ o.c.ps = c.ps ∧ o.c.now = c.now ∧ ∀ s,hit Xd.n c.xs s = true → hit Xd.n o.c.xs s = true:=by
 rcases h with ⟨j1,u,-,-,rfl⟩ | ⟨-,⟨-,rfl⟩ | ⟨-,⟨-,rfl⟩ | ⟨-,⟨-,rfl⟩ | ⟨-,rfl⟩⟩⟩⟩
 ·exact ⟨rfl,rfl,rfl,rfl,fun s hs => iD hT.2.1.2.2.2.1.2.2 hx rfl hs⟩
 ·exact absurd h0 al
 ·exact absurd h0 al
 ·exact absurd h0 al
 ·exact ⟨rfl,rfl,rfl,rfl,fun s hs => iD hT.2.1.2.2.2.1.2.2 hx rfl hs⟩
theorem cW.right {c c' : Cl} {n : Nd} {t : ByteArray} (hT : aC c) (hn : aL n.z) (h : cW c n t c' 0) : aC c' ∧ c'.ns = c.ns ∧ c'.ks = c.ks ∧ c'.ps = c.ps ∧ c'.now = c.now ∧ ∀ s,hit Xd.n c.xs s = true → hit Xd.n c'.xs s = true:=by
 obtain ⟨i,x,a1,-,a⟩:=h;rcases a with ⟨j,v,-,-,rfl,-⟩ | ⟨a3,j,k,o,a4,-,a6,rfl,a⟩
 ·exact ⟨hT,rfl,rfl,rfl,rfl,fun _ h => h⟩
 ·rcases a with ⟨-,e⟩ | ⟨-,e⟩
  ·exact absurd e al
  ·exact ⟨sV hT a1 a3 a4 (.inr hn) a6 e.symm,a6.keeps hT a1 e.symm⟩
def cO (c : Cl) (n : Nd) (ts : List ByteArray) : Nat → Cl → Prop
 | 0,c' => c' = c
 | k + 1,c' => ∃ (c1 : Cl) (t : ByteArray),cO c n ts k c1 ∧ ts[k]? = some t ∧ cW c1 n t c' 0
theorem cO.right {c : Cl} {n : Nd} {ts : List ByteArray} (hT : aC c) (hn : aL n.z) : ∀ (k : Nat) (c' : Cl),cO c n ts k c' → aC c' ∧ c'.ns = c.ns ∧ c'.ks = c.ks ∧ c'.ps = c.ps ∧ c'.now = c.now ∧ ∀ s,hit Xd.n c.xs s = true → hit Xd.n c'.xs s = true
 | 0,c',h => by
  obtain rfl : c' = c:=h;exact ⟨hT,rfl,rfl,rfl,rfl,fun _ h => h⟩
 | k + 1,c',h => by
  obtain ⟨c1,t,h1,-,h3⟩:=h;obtain ⟨r1,r2,r3,r4,r5,r6⟩:=cO.right hT hn k c1 h1;obtain ⟨q1,q2,q3,q4,q5,q6⟩:=h3.right r1 hn;exact ⟨q1,q2.trans r2,q3.trans r3,q4.trans r4,q5.trans r5,fun s hs => q6 s (r6 s hs)⟩
theorem cO.same {c : Cl} {n : Nd} {ts : List ByteArray} (hT : aC c) (hn : aL n.z) : ∀ (k : Nat) (c1 c2 : Cl),cO c n ts k c1 → cO c n ts k c2 → c1 = c2
 | 0,_,_,h,h' => Eq.trans h (Eq.symm h')
 | k + 1,c1,c2,h,h' => by
  obtain ⟨d1,t,h1,h2,h3⟩:=h;obtain ⟨d2,t',g1,g2,g3⟩:=h';obtain rfl:=cO.same hT hn k d1 d2 h1 g1;rw [h2] at g2;obtain rfl:=Option.some.inj g2;exact (h3.same (cO.right hT hn k _ h1).1 g3).1
theorem cO.less {c : Cl} {n : Nd} {ts : List ByteArray} : ∀ (k j : Nat) (c' : Cl),j ≤ k → cO c n ts k c' → ∃ c1,cO c n ts j c1
 | 0,j,c',h,r => by
  obtain rfl : j = 0:=af
  exact ⟨c',r⟩
 | k + 1,j,c',h,r => by
  by_cases e : j = k + 1
  ·subst e;exact ⟨c',r⟩
  ·obtain ⟨c1,t,r1,-,-⟩:=r;exact cO.less k j c1 af r1
def oi (c : Cl) (n : Nd) (ts : List ByteArray) (c' : Cl) (e : Int) : Prop:=(cO c n ts ts.length c' ∧ e = 0) ∨ ∃ (k : Nat) (c1 : Cl) (t : ByteArray),cO c n ts k c1 ∧ ts[k]? = some t ∧ cW c1 n t c' e ∧ ¬ e = 0
theorem oi.same {c c1 c2 : Cl} {n : Nd} {ts : List ByteArray} {e1 e2 : Int} (hT : aC c) (hn : aL n.z) (h : oi c n ts c1 e1) (h' : oi c n ts c2 e2) : c1 = c2 ∧ e1 = e2:=by
 have gen : ∀ {k k' : Nat} {d d' d1 : Cl} {t : ByteArray} {e : Int},cO c n ts k d → ts[k]? = some t → cW d n t d1 e → ¬ e = 0 → cO c n ts k' d' → k' ≤ k:=fun {k k' d d' d1 t e} r ht hd he r' => by
  rcases Nat.lt_or_ge k k' with hk | hk
  ·obtain ⟨f,r2⟩:=cO.less k' (k + 1) d' hk r';obtain ⟨g,t',r3,ht',hd'⟩:=r2;obtain rfl:=cO.same hT hn k _ _ r r3;rw [ht] at ht';obtain rfl:=Option.some.inj ht';exact absurd (hd.same (cO.right hT hn k _ r).1 hd').2 he
  ·exact hk
 rcases h with ⟨a1,rfl⟩ | ⟨k,d,t,a1,a2,a3,a4⟩ <;> rcases h' with ⟨b1,rfl⟩ | ⟨k',d',t',b1,b2,b3,b4⟩
 ·exact ⟨cO.same hT hn _ _ _ a1 b1,rfl⟩
 ·have h1:=gen b1 b2 b3 b4 a1;have h2:=(List.getElem?_eq_some_iff.1 b2).1;omega
 ·have h1:=gen a1 a2 a3 a4 b1;have h2:=(List.getElem?_eq_some_iff.1 a2).1;omega
 ·have h1:=gen b1 b2 b3 b4 a1;have h2:=gen a1 a2 a3 a4 b1;obtain rfl : k = k':=af
  obtain rfl:=cO.same hT hn k _ _ a1 b1;rw [a2] at b2;obtain rfl:=Option.some.inj b2;exact a3.same (cO.right hT hn k _ a1).1 b3

def gV (W : World) (nb vb : Nat) (t : ByteArray) (v : Vd) (ua : Option Addr) (ul uc : Nat) : Prop:=W.heap[nb]? = some (.cells #[.string t] 9 (0,0)) ∧ W.heap[vb]? = some (.cells #[.string v.n,.int .i64 v.c,.string v.z,.string v.k,.bool v.x,.string v.m,.bool v.y,.slice ua ul uc] 118 (0,0))
theorem gV.below {W W' : World} {nb vb : Nat} {t : ByteArray} {v : Vd} {ua : Option Addr} {ul uc : Nat} (h : gV W nb vb t v ua ul uc) (hb : Below W.heap.size W W') : gV W' nb vb t v ua ul uc :=
 ⟨(hb.block _ (aa h.1)).trans h.1,(hb.block _ (aa h.2)).trans h.2⟩
def iq (p : Pd) (t m : ByteArray) : Prop:=p.d = t ∧ InL p.zs m

theorem za (p : Pd) (va : Option Addr) (vl vc nb vb : Nat) (t : ByteArray) (v : Vd) (ua : Option Addr) (ul uc : Nat) (w : World) (hr : ay w va vl vc p.zs) (hh : gV w nb vb t v ua ul uc) :
  Calls Tryz.prog 255 #[.agg #[.string p.n,.int .i64 p.c,.string p.z,.slice va vl vc,.string p.d,.int .i64 p.p],.pointer (some ⟨nb,0,none⟩),.pointer (some ⟨vb,0,none⟩)] w (ar (iq p t v.m) w):=by
 have HR:=ae hr;obtain ⟨h1,h2⟩:=hh;have n0:=cs1 h1;have hnl:=aa h1;obtain ⟨v0,v1,v2,v3,v4,v5,v6,v7⟩:=cs8 h2;have hvl:=aa h2;clear hr h1 h2;by_cases he : p.d = t
 ·have hq:=aV he;have HE:=ae he;clear he;go_enter Tryz.func255,Tryz.ntmps255;go_wp2_with fail;refine (bP va vl vc p.zs v.m _ (HR.out.below (an _ _))).mono ?_;rintro e w1 ⟨r,rfl,hi,hb⟩;have HB:=ae ((an w _).trans (hb.mono aN));clear hb;go_wp2;go_ret;exact ⟨r,rfl,⟨fun h => ⟨HE.out,hi.1 h⟩,fun h => hi.2 h.2⟩,HB.out⟩
 ·have hq:=bo he;have HE:=ae he;clear he;go_enter Tryz.func255,Tryz.ntmps255;go_wp2;go_ret;exact ar.f (fun h => HE.out h.1) (an _ _)

theorem y9 (a : Option Addr) (len cap : Nat) (ps : List Pd) (nb vb : Nat) (t : ByteArray) (v : Vd) (ua : Option Addr) (ul uc : Nat) (w : World) (hr : aI w a len cap 6 (ps.map pdF)) (hh : gV w nb vb t v ua ul uc) :
  Calls Tryz.prog 256 #[.slice a len cap,.func (.func 255) #[] #[.pointer (some ⟨nb,0,none⟩),.pointer (some ⟨vb,0,none⟩)]] w fun e w' => (∃ r : Int,e = .returned (.int .i64 r) ∧ ((0 ≤ r ∧ ∃ (j : Nat) (p : Pd),ps[j]? = some p ∧ iq p t v.m) ∨ (r = -1 ∧ ∀ (j : Nat) (p : Pd),ps[j]? = some p → ¬ iq p t v.m))) ∧ Below w.heap.size w w':=by
 have HR:=ae hr;have HH:=ae hh;have hlc : len ≤ 9223372036854775807:=Nat.le_trans hr.2.1 hr.2.2.1;have hxl : ps.length = len:=cY
 clear hr hh;go_enter Tryz.func256,Tryz.ntmps256;go_wp2;go_loopw [8] (fun i wr => ∃ k : Nat,k ≤ len ∧ i = .int .i64 k ∧ Hid (∀ (j : Nat) p,j < k → ps[j]? = some p → ¬ iq p t v.m) ∧ Hid (Below w.heap.size w wr)) (fun i _ => len - (intOf i).toNat);case atStart => exact ⟨0,by omega,rfl,fun _ _ h => absurd h af,Below.refl _ _⟩
 case round =>
  obtain ⟨k,hk,rfl,HE,HB⟩:=hrel;by_cases hlt : k < len
  ·obtain ⟨b,o,p,rfl,hb,hx,hat⟩:=bQ (HR.out.below HB.out) hlt;obtain ⟨va,vl,vc,hvr,z0,z2,z4,c0,c1,c2,c3,c4,c5⟩:=aU hat;have HX:=ae hx;have HV:=ae hvr;clear hat hx hvr z0 z2 z4;go_wp2_with fail;refine (za p va vl vc nb vb t v ua ul uc _ HV.out (HH.out.below HB.out)).mono ?_;exact A7
  ·exact uB

theorem y_ (a : Option Addr) (len cap : Nat) (ps : List Pd) (nb vb : Nat) (t : ByteArray) (v : Vd) (ua : Option Addr) (ul uc : Nat) (w : World) (hr : aI w a len cap 6 (ps.map pdF)) (hh : gV w nb vb t v ua ul uc) :
  Calls Tryz.prog 254 #[.slice a len cap,.func (.func 255) #[] #[.pointer (some ⟨nb,0,none⟩),.pointer (some ⟨vb,0,none⟩)]] w (ar (∃ (j : Nat) (p : Pd),ps[j]? = some p ∧ iq p t v.m) w):=by
 have HR:=ae hr;have HH:=ae hh;clear hr hh;go_enter Tryz.func254,Tryz.ntmps254;go_wp2_with fail;refine (y9 a len cap ps nb vb t v ua ul uc _ HR.out HH.out).mono ?_;exact xJ

theorem zx (d : Ad) (c : Cl) (v : Vd) (ua : Option Addr) (ul uc : Nat) (t : ByteArray) (w : World) (hr : aM w d c.raw) :
  Calls Tryz.prog 253 #[.agg #[.slice d.a1 d.l1 d.c1,.slice d.a2 d.l2 d.c2,.slice d.a3 d.l3 d.c3,.slice d.a4 d.l4 d.c4,.slice d.a5 d.l5 d.c5,.int .i64 c.now],.agg #[.string v.n,.int .i64 v.c,.string v.z,.string v.k,.bool v.x,.string v.m,.bool v.y,.slice ua ul uc],.string t] w (ar (∃ (j : Nat) (p : Pd),c.ps[j]? = some p ∧ iq p t v.m) w):=by
 obtain ⟨HR,HB⟩:=hQ;clear hr;go_enter Tryz.func253,Tryz.ntmps253;go_wp2_with fail;refine (y_ d.a5 d.l5 d.c5 c.ps (w.heap.size + 1 + 1) (w.heap.size + 1) t v ua ul uc _ (HR.out.p.below (HB.out.trans ((br _ _ _ _).mono HB.out.size))) ⟨cz _ _ _ _,db _ _ _ _⟩).mono ?_;exact xF

def inB (zs : List ByteArray) (t : ByteArray) : Bool:=zs.any fun z => z.toList == t.toList
theorem ed {zs : List ByteArray} {t : ByteArray} : inB zs t = true ↔ InL zs t:=by
 unfold inB;rw [List.any_eq_true];constructor
 ·rintro ⟨z,hz,he⟩;obtain ⟨j,hj⟩:=List.getElem?_of_mem hz;exact ⟨j,by rw [hj,fp he]⟩
 ·rintro ⟨j,hj⟩;exact ⟨t,List.mem_of_getElem? hj,aV rfl⟩
def qZ (c : Cl) (t m : ByteArray) : Bool:=c.ps.any fun p => (p.d.toList == t.toList) && inB p.zs m
theorem c8 {c : Cl} {t m : ByteArray} : qZ c t m = true ↔ ∃ (j : Nat) (p : Pd),c.ps[j]? = some p ∧ iq p t m:=by
 unfold qZ;rw [List.any_eq_true];constructor
 ·rintro ⟨p,hp,he⟩;obtain ⟨j,hj⟩:=List.getElem?_of_mem hp;rw [Bool.and_eq_true] at he;exact ⟨j,p,hj,fp he.1,ed.1 he.2⟩
 ·rintro ⟨j,p,hj,h1,h2⟩;exact ⟨p,List.mem_of_getElem? hj,by rw [Bool.and_eq_true];exact ⟨aV h1,ed.2 h2⟩⟩
def onB (c : Cl) (t : ByteArray) (v : Vd) : Bool:=inB v.zs t || qZ c t v.m
def dm (c : Cl) (t : ByteArray) (vs : List Vd) : List ByteArray:=(vs.filter (onB c t)).map Vd.n
theorem rO {c : Cl} {t : ByteArray} {xs : List Vd} {k : Nat} {x : Vd} (h : xs[k]? = some x) (hv : onB c t x = true) : dm c t (xs.take (k + 1)) = dm c t (xs.take k) ++ [x.n]:=by
 unfold dm;rw [List.take_add_one,h,List.filter_append,List.map_append];simp [hv]
theorem CF {c : Cl} {t : ByteArray} {xs : List Vd} {k : Nat} {x : Vd} (h : xs[k]? = some x) (hv : onB c t x = false) : dm c t (xs.take (k + 1)) = dm c t (xs.take k):=by
 unfold dm;rw [List.take_add_one,h,List.filter_append,List.map_append];simp [hv]
theorem yD {c : Cl} {t : ByteArray} {w : World} {a : Option Addr} {len cap : Nat} {xs : List Vd} (h : aI w a len cap 8 (xs.map vdF)) (j : Nat) (z : ByteArray) (hz : (dm c t xs)[j]? = some z) : z.size ≤ 9223372036854775807:=by
 have hm:=List.mem_of_getElem? hz;obtain ⟨x,hx,rfl⟩:=List.mem_map.1 hm;obtain ⟨i,hi⟩:=List.getElem?_of_mem ((List.mem_filter.1 hx).1);have hl : xs.length = len:=by simpa using h.1
 obtain ⟨b,o,y,-,-,hy,hat⟩:=bC h (j:=i) (by have:=(List.getElem?_eq_some_iff.1 hi).1;omega);rw [hi] at hy;cases hy;obtain ⟨_,_,_,_,z0,_⟩:=aK hat;exact z0

theorem yp (d : Ad) (c : Cl) (t : ByteArray) (w : World) (hr : aM w d c.raw) (h8 : c.vs.length ≤ 8) :
  Calls Tryz.prog 252 #[.agg #[.slice d.a1 d.l1 d.c1,.slice d.a2 d.l2 d.c2,.slice d.a3 d.l3 d.c3,.slice d.a4 d.l4 d.c4,.slice d.a5 d.l5 d.c5,.int .i64 c.now],.string t] w fun e w' => ∃ a l p,e = .returned (.slice a l p) ∧ bV w' a l p (dm c t c.vs) (fun k => w.heap.size ≤ k) ∧ Below w.heap.size w w':=by
 obtain ⟨a1,l1,y1,a2,l2,y2,a3,l3,y3,a4,l4,y4,a5,l5,y5⟩:=d;dsimp only;obtain ⟨HR,hl1,hm1,hl2,hm2,hl3,hm3,hl4,hm4,hl5,hm5⟩:=ew;clear hr;obtain ⟨i0,hi,hz0,hz1,hz2⟩:=info_parts eX;have HI0:=ae (And.intro hi (And.intro hz0 (And.intro hz1 hz2)));clear hi hz0 hz1 hz2;have h83 : l3 ≤ 8:=af
 go_enter Tryz.func252,Tryz.ntmps252;go_wp2;go_loopw [5,11] (fun vo vi wr => ∃ k n : Nat,k ≤ l3 ∧ n ≤ k ∧ vi = .int .i64 k ∧ Hid (wr.ownsRow (w.heap.size + 1) 9 1 vo n ((dm c t (c.vs.take k)).map Value.string)) ∧ Hid (Below w.heap.size w wr) ∧ Hid (wr.heap[w.heap.size]? = some (.cells #[.slice a1 l1 y1,.slice a2 l2 y2,.slice a3 l3 y3,.slice a4 l4 y4,.slice a5 l5 y5,.int .i64 c.now] 37 (0,0)))) (fun _ vi _ => l3 - (intOf vi).toNat);case atStart => exact ⟨0,0,by omega,by omega,rfl,World.ownsRow_nil _ _ _ _,an w _,heap_alloc_new w _⟩
 case round =>
  obtain ⟨k,n,hk,hn,rfl,HO,HB,Bk⟩:=hrel;have hBs:=HB.out.size;by_cases hlt : k < l3
  ·obtain ⟨b,o,v,rfl,hb,hx,hat⟩:=bC (HR.out.v.below HB.out) hlt;obtain ⟨va,vl,vc,hvr,z0,z2,z3,z5,c0,c1,c2,c3,c4,c5,c6,c7⟩:=aK hat;obtain ⟨HXv,HTv,HZv0,HZv2,HZv3,HZv5⟩:=kj;clear hat hx z0 z2 z3 z5 hvr;obtain ⟨k0,k1,k2,k3,k4,k5⟩:=cs6 Bk.out;have ltk_0:=aa Bk.out;have hkb : w.heap.size < wr.heap.size:=aa Bk.out;have HY:=ae (Bw.refl wr);go_wp2_with fail;refine (bP va vl vc v.zs t _ (HTv.out.below (an _ _))).mono ?_;rintro e w1 ⟨r,rfl,hi,hb⟩;clear k0 k1 k2 k3 k4 k5 ltk_0;obtain ⟨HA0,hbx⟩:=aG hb;replace Bk:=upK Bk hbx;have Bg:=ae HA0;replace HY:=ae (HY.out.below hbx);replace HB:=upB HB hbx;clear hb hbx HA0;have HI:=ae hi;clear hi c0 c1 c2 c3 c4 c5 c6 c7;cases r
   ·obtain ⟨k0,k1,k2,k3,k4,k5⟩:=cs6 Bk.out;have ltk_1:=aa Bk.out;obtain ⟨g0,g1,g2,g3,g4,g5,g6,g7⟩:=cs8 Bg.out;have ltg_1:=aa Bg.out;go_wp2_with fail;refine (zx ⟨a1,l1,y1,a2,l2,y2,(some ⟨b,o,none⟩),l3,y3,a4,l4,y4,a5,l5,y5⟩ c v va vl vc t _ (HR.out.below HB.out)).mono ?_;rintro e w2 ⟨r,rfl,hi2,hb⟩;clear k0 k1 k2 k3 k4 k5 ltk_1 g0 g1 g2 g3 g4 g5 g6 g7 ltg_1;replace Bk:=upK Bk hb;replace Bg:=upK Bg hb;replace HY:=ae (HY.out.below hb);replace HB:=upB HB hb;clear hb;have HI2:=ae hi2;clear hi2;cases r
    ·have hon : onB c t v = false:=by
      unfold onB;rw [Bool.or_eq_false_iff];exact ⟨by cases h : inB v.zs t;rfl;(have:=HI.out.2 (ed.1 h);cases this),by cases h : qZ c t v.m;rfl;(have:=HI2.out.2 (c8.1 h);cases this)⟩
     have HO3:=ae (bA HO.out HY.out.out);rw [← CF HXv.out hon] at HO3;obtain ⟨k0,k1,k2,k3,k4,k5⟩:=cs6 Bk.out;have ltk_2:=aa Bk.out;obtain ⟨g0,g1,g2,g3,g4,g5,g6,g7⟩:=cs8 Bg.out;have ltg_2:=aa Bg.out;go_wp2;exact ⟨⟨k + 1,n,by omega,by omega,by go_num,HO3,HB,Bk⟩,by simp [intOf];omega⟩
    ·have hon : onB c t v = true:=by unfold onB;rw [c8.2 (HI2.out.1 bS)];simp
     have HO1:=ae (bA HO.out HY.out.out);have hBs1:=HB.out.size;have hwl:=HY.out.le;obtain ⟨k0,k1,k2,k3,k4,k5⟩:=cs6 Bk.out;have ltk_2:=aa Bk.out;obtain ⟨g0,g1,g2,g3,g4,g5,g6,g7⟩:=cs8 Bg.out;have ltg_2:=aa Bg.out;go_wp2_with (first | (at_builtin;refine wpList_append_own _ rfl _ _ 63 rfl (w.heap.size + 1) 9 i0 (.string ⟨#[]⟩) 1 16 Tryz.underlying63 HI0.out.1 HI0.out.2.1 HI0.out.2.2.1 HI0.out.2.2.2 rfl al _ _ _ rfl (HO1.out.alloc _) ⟨w2.heap.size,0,none⟩ 1 1 [.string v.n] rfl rfl ?c1 ?c2 ?c3 ?c4 ?c5 ?_));case c1 =>
      exact wc
     case c2 => intro u hu;rw [List.mem_singleton.1 hu];rfl
     case c3 => unfold maxLen;omega
     case c4 => omega
     case c5 => simp;omega
     rintro v' w3 hown3 hgrow -;have HO3 : Hid (w3.ownsRow (w.heap.size + 1) 9 1 v' (n + 1) ((dm c t (c.vs.take (k + 1))).map Value.string)):=by
      show World.ownsRow _ _ _ _ _ _ _;rw [rO HXv.out hon,List.map_append];exact hown3
     have HB3:=ae ((HB.out.trans ((an w2 _).mono hBs1)).grown hgrow bF (fun g hg => by have:=(HO1.out.lt g hg).1;omega));exact A4
   ·have hon : onB c t v = true:=by unfold onB;rw [ed.2 (HI.out.1 bS)];rfl
    have HO1:=ae (bA HO.out HY.out.out);have hBs1:=HB.out.size;have hwl:=HY.out.le;obtain ⟨k0,k1,k2,k3,k4,k5⟩:=cs6 Bk.out;have ltk_1:=aa Bk.out;obtain ⟨g0,g1,g2,g3,g4,g5,g6,g7⟩:=cs8 Bg.out;have ltg_1:=aa Bg.out;go_wp2_with (first | (at_builtin;refine wpList_append_own _ rfl _ _ 63 rfl (w.heap.size + 1) 9 i0 (.string ⟨#[]⟩) 1 16 Tryz.underlying63 HI0.out.1 HI0.out.2.1 HI0.out.2.2.1 HI0.out.2.2.2 rfl al _ _ _ rfl (HO1.out.alloc _) ⟨w1.heap.size,0,none⟩ 1 1 [.string v.n] rfl rfl ?c1 ?c2 ?c3 ?c4 ?c5 ?_));case c1 =>
     exact wc
    case c2 => intro u hu;rw [List.mem_singleton.1 hu];rfl
    case c3 => unfold maxLen;omega
    case c4 => omega
    case c5 => simp;omega
    rintro v' w3 hown3 hgrow -;have HO3 : Hid (w3.ownsRow (w.heap.size + 1) 9 1 v' (n + 1) ((dm c t (c.vs.take (k + 1))).map Value.string)):=by
     show World.ownsRow _ _ _ _ _ _ _;rw [rO HXv.out hon,List.map_append];exact hown3
    have HB3:=ae ((HB.out.trans ((an w1 _).mono hBs1)).grown hgrow bF (fun g hg => by have:=(HO1.out.lt g hg).1;omega));exact A4
  ·have hkl : k = l3:=af
   have HO3:=HO;rw [List.take_of_length_le af] at HO3;obtain ⟨a',p',rfl,hT⟩:=bV.jj HO3.out (yD HR.out.v);have HTO:=ae hT;clear HO3 hT HO;go_wp2;go_ret;exact ⟨_,_,_,rfl,HTO.out.bs (fun k _ s => by have : w.heap.size + 1 ≤ k:=s;show w.heap.size ≤ k;omega),HB.out⟩

theorem yF {w : World} {b o : Nat} {v : Value} (h : w.cell? ⟨b,o,none⟩ = some v) : b < w.heap.size:=World.block_lt_of_cell? w _ h
def sw (w : World) (g : Nat) : Prop:=∃ T v,w.cell? ⟨g,0,none⟩ = some (.iface T v)
theorem sw.below {w w' : World} {g : Nat} (h : sw w g) (hb : Below w.heap.size w w') : sw w' g:=by
 obtain ⟨T,v,h⟩:=h;exact ⟨T,v,(ak hb (yF h)).trans h⟩
def Es3 (w : World) : Prop:=sw w 1 ∧ sw w 0 ∧ sw w 2
theorem Es3.below {w w' : World} (h : Es3 w) (hb : Below w.heap.size w w') : Es3 w':=⟨h.1.below hb,h.2.1.below hb,h.2.2.below hb⟩

theorem fI (w : World) (t t' ty e e' : TypeId) (i : TypeInfo) (ht : Tryz.prog.underlying t = some (.slice e)) (ht' : Tryz.prog.underlying t' = some (.slice e')) (hi : Tryz.prog.info? e = some i) (a : Option Addr) (l c : Nat) (b : Value) : (Builtin.append_ #[t,t'] ty #[.slice a l c,b]).run Tryz.prog w = (Builtin.append_ #[t,t] ty #[.slice a l c,b]).run Tryz.prog w:=by
 simp [Builtin.append_,run_underlying ht,run_underlying ht',sizeOf,typeInfo,hi]
theorem fo {w : World} {ops : Array Oper} {rest : List Oper} {o : Oper} {a : Act} {Q : Exit → Act → World → Prop} (hgd : o.guard = none) (s x : Operand) (t t' : TypeId)
  (ho : o.op = .call { callee:=.builtin .append,args:=#[s,x],argTypes:=#[t,t'] })
  (base : Nat) (e e' : TypeId) (i : TypeInfo) (z : Value) (size bytes : Nat) (ht : Tryz.prog.underlying t = some (.slice e)) (ht' : Tryz.prog.underlying t' = some (.slice e')) (hi : Tryz.prog.info? e = some i) (hz : i.zero = some z)
  (hsize : i.size = size) (hby : i.bytes = bytes) (hzs : z.cells.size = size) (hsz : 0 < size)
  (v : Value) (n : Nat) (xs : List Value) (hs : a.eval s = v) (hown : w.ownsRow base e size v n xs)
  (ad : Addr) (m c : Nat) (news : List Value) (hx : a.eval x = .slice (some ad) m c) (hl : news.length = m * size) (hnews : ∀ j u,news[j]? = some u → w.cell? (ad.add j) = some u) (h1 : ∀ u ∈ news,u.oneCell' = true)
  (h63 : n + m ≤ maxLen) (hbytes : (n + m) * bytes ≤ 140737488355328) (hbase : base ≤ w.heap.size)
  (h : ∀ v' w',w'.ownsRow base e size v' (n + m) (xs ++ news) → w.grownBy w' v.ownBlock → wpList Tryz.prog ops Q rest (a.put o.dst v') w') : wpList Tryz.prog ops Q (o :: rest) a w:=by
 refine wpList_plain hgd fun K hK => ?_;obtain ⟨v',w',hr,h2,h3,h4⟩:=run_append_own (P:=Tryz.prog) w base t o.type e i z size bytes ht hi hz hsize hby hzs hsz v n xs hown ad m c news hl hnews h1 h63 hbytes hbase;obtain ⟨va,vl,vc,rfl⟩ : ∃ a l c,v = .slice a l c:=by
  exact vF
 rw [← fI w t t' o.type e e' i ht ht' hi] at hr;exact xj
theorem fJ {w : World} {base : Nat} {t ty e : TypeId} {i : TypeInfo} {size : Nat} (ht : Tryz.prog.underlying t = some (.slice e)) (hi : Tryz.prog.info? e = some i) {v : Value} {n : Nat} {xs : List Value} (hown : w.ownsRow base e size v n xs) (ax : Option Addr) (cx : Nat) :
  (Builtin.append_ #[t,t] ty #[v,.slice ax 0 cx]).run Tryz.prog w = .ok v w:=by
 exact AR
theorem aX {w : World} {ops : Array Oper} {rest : List Oper} {o : Oper} {a : Act} {Q : Exit → Act → World → Prop} (hgd : o.guard = none) (s x : Operand) (t : TypeId)
  (ho : o.op = .call { callee:=.builtin .append,args:=#[s,x],argTypes:=#[t,t] })
  (base : Nat) (e : TypeId) (i : TypeInfo) (z : Value) (size bytes : Nat) (ht : Tryz.prog.underlying t = some (.slice e)) (hi : Tryz.prog.info? e = some i) (hz : i.zero = some z)
  (hsize : i.size = size) (hby : i.bytes = bytes) (hzs : z.cells.size = size) (hsz : 0 < size)
  (v : Value) (n : Nat) (xs : List Value) (hs : a.eval s = v) (hown : w.ownsRow base e size v n xs)
  (ax : Option Addr) (l c : Nat) (news : List Value) (hx : a.eval x = .slice ax l c) (hl : news.length = l * size) (hnews : ∀ (j : Nat) u,news[j]? = some u → ∃ ad : Addr,ax = some ad ∧ w.cell? (ad.add j) = some u) (h1 : ∀ u ∈ news,u.oneCell' = true)
  (h63 : n + l ≤ maxLen) (hbytes : (n + l) * bytes ≤ 140737488355328) (hbase : base ≤ w.heap.size)
  (h : ∀ v' w',w'.ownsRow base e size v' (n + l) (xs ++ news) → w.grownBy w' v.ownBlock → wpList Tryz.prog ops Q rest (a.put o.dst v') w') : wpList Tryz.prog ops Q (o :: rest) a w:=by
 rcases news with _ | ⟨u,news⟩
 ·have hl0 : l = 0:=by
   rcases Nat.eq_zero_or_pos l with e | e
   ·exact e
   ·have:=Nat.mul_pos e hsz;simp at hl;omega
  subst hl0;refine wpList_plain hgd fun K hK => ?_;have hr:=fJ (ty:=o.type) ht hi hown ax c;exact xv
 ·obtain ⟨ad,rfl,_⟩:=hnews 0 u rfl;exact fo hgd s x t t ho base e e i z size bytes ht ht hi hz hsize hby hzs hsz v n xs hs hown ad l c (u :: news) hx hl (fun j y hy => by
   obtain ⟨ad',e,h2⟩:=hnews j y hy;cases e;exact h2) h1 h63 hbytes hbase h

end Rc
end Go.Proofs.YtdoldaceehdifaaGreatDoor

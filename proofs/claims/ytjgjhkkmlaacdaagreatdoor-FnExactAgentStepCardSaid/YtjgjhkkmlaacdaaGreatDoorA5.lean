import Derived.Test.YtjgjhkkmlaacdaaGreatDoorA4
import Derived.Deep.Cut
import Derived.Deep.CutRange
import Derived.Laws.CopyRow
import Derived.Laws.Tables
import Derived.Laws.Rows
import Derived.Laws.CopyOwn
import Derived.Laws.StructEq
import Derived.Stop.LaidErr
import Derived.ChangeVars
import Derived.Deep.Strs
import Derived.Deep.Fields
import Derived.WideShapes
import Derived.ChangeArms
/-
 As Grow, where the last operation waits for some directly, and for the others by way of those.
-/
set_option maxRecDepth 100000
set_option maxHeartbeats 12800000
open And renaming intro→vA
open Array renaming getD_eq_getD_getElem?→vJ, getElem?_push_size→vP, getElem?_eq_some_iff→vT, getElem?_setIfInBounds→vY, length_toList→xp
open Bool renaming and_eq_true→vZ, or_eq_true→xk
open Go.Addr renaming add_lit→wv
open Go.Builtin renaming append_→wV, firstCells→xu
open Go.Calls renaming quiet_of_same→vW
open Go.DataW renaming trod_string→wF, trod→xe, trod_int→xr, trod_bool→xy
open Go.Op renaming bytesLess→vM
open Go.Region renaming binds→wB, ready→wC, wanted→wU
open Go.RowKit.Below renaming heap_setCell→vB, refl→vG, heap_alloc→vS, alloc→xn
open Go.Value renaming string→vU, ownBlock→xE
open Go.World renaming setCell→wm
open Int renaming le_trans→wi, add_assoc→wO
open List renaming getElem?_eq_some_iff→vz, getElem?_eq_getElem→vF, lookup→vH, take_of_length_le→vK, getElem?_map→vL, length_take→vX, getElem?_take→wb, getElem?_append_left→wh, length_map→wj, length_append→wk, setIfInBounds_toArray→wq, getElem?_append_right→wu, take_add_one→wA, mem_of_getElem?→wD, all_eq_true→wE, getElem?_eq_none→wG, mem_cons→wH, length_drop→wI, set_cons_zero→wM, range→wN, forall_mem_cons→wP, getElem?_of_mem→wR, set_cons_succ→wT, drop_eq_nil_of_le→wW, mem_filter→xg, map_set→xh, mem_singleton→xv, mem_append_right→xB, foldr→xD, getLast→xF
open Nat renaming le_refl→vD, le_trans→vI, lt_of_lt_of_le→vN, le_succ→vV, zero_add→we
open Option renaming map_eq_some_iff→vO
open Option.some renaming inj→vC, injEq→wJ
namespace Go.Proofs.YtjgjhkkmlaacdaaGreatDoor
theorem ou {p:Prop} (h:p:=by simp[results,Tryz.results29,go_sem, *]):p:=h
theorem ot {p:Prop} (h:p:=by simp[results,Tryz.results5,go_sem, *]):p:=h
theorem oq {p:Prop} (h:p:=by simp[results,Tryz.results18,go_sem]):p:=h
end Go.Proofs.YtjgjhkkmlaacdaaGreatDoor
namespace Go.Proofs.YtjgjhkkmlaacdaaGreatDoor
theorem jV {p:Prop} (h:p:=by
 obtain⟨f,hf⟩:=choose_lt each;refine⟨some ⟨b,o,none⟩,len,cap,(wN len).map f,by simpa using hcs,by simp,hl,hm',.inr ⟨b,o,rfl,hblt,fun j r hj=>?_⟩⟩;rw[vL,vL] at hj;by_cases hjl:j<len
 ·rw[List.getElem?_range hjl] at hj;obtain rfl:=vC hj;exact hf j hjl
 ·rw[wG bU] at hj;cases hj):p:=h
theorem tu {p:Prop} (h:p:=by
 rintro e w2 ⟨rfl,hb⟩;clear k0 k1 k2 k3 k4 k5 ltk_1;obtain⟨HA0,hbx⟩:=aJ hb;replace Bk:=upK Bk hbx;replace Br:=upK Br hbx;have Bg:=aa HA0;replace HB:=upB HB hbx;clear hb hbx HA0;clear hcc;obtain⟨r0,r1,r2,r3,r4,r5,r6,r7⟩:=cs8 Br;have ltr_2:=ae Br.out;obtain⟨fr0,fr1,fr2,fr3,fr4,fr5⟩:=eK;have fr6:=ar Br.out 6;have fr7:=ar Br.out 7;have hrl:w.heap.size+1<w2.heap.size:=ae Br.out;go_wp2;exact bodyPost_ret (v:=.agg #[.slice none 0 0,.slice none 0 0,.slice none 0 0,.slice none 0 0,.slice none 0 0,.int .i64 0,.string ⟨#[]⟩,.int .i64 cc]) (by simp[results,Tryz.results7,go_sem, *]) rfl ⟨ad0,co0 cc,rfl,HV.out,uv _ _,sb1 (sb1 (sb1 (sb1 (sb1 (sb1 (sb1 (sb1 (HB.out))))))))⟩):p:=h
theorem jJ {p:Prop} (h:p:=by
 cases hi;exact⟨_,(hc 0 af).trans e0,rfl,show b0.size<=_ by omega⟩):p:=h
theorem sW {p:Prop} (h:p:=by
 have HB:=HB41;clear HB41;have Bk:=Ck;clear Ck;have Bn:=Cn;clear Cn;have HO3:=aa (bf HO.out q1.b);rw[<-ux HY0.out HON.out] at HO3;go_wp2;exact⟨⟨k+1,m9,by omega,by omega,by go_num,HO3,HL.trans (q1.b.mono hLs)⟩,by simp[intOf];omega⟩):p:=h
theorem sH {p:Prop} (h:p:=by
 rcases HF6.2.2.2.2.2.2 with h9|⟨g9,c9,H9,e9,h9⟩
 ·have h8:=HF6.2.2.2.1;have h7:=h2.1;rw[h9] at h8;simp at h8;omega
 ·have h7:=h2.2;rw[h7] at e9;cases e9;exact h1 h9.inS):p:=h
theorem sF {p:Prop} (h:p:=by
 rintro e w' ⟨r',rfl,h',hb⟩;have e:r'=r:=by
  cases r <;> cases r'
  ·rfl
  ·exact (h.2 (h'.1 rfl)).symm
  ·exact h'.2 (h.1 rfl)
  ·rfl
 rw[e];exact⟨rfl,hb⟩):p:=h
theorem kV {p:Prop} (h:p:=by
 cases hi;exact⟨_,(hc 2 af).trans e2,rfl,show b2.size<=_ by omega⟩):p:=h
theorem kU {p:Prop} (h:p:=by
 go_enter Tryz.func21,Tryz.ntmps21;go_wp2;go_ret;exact⟨rfl,vG _ _⟩):p:=h
theorem pZ {p:Prop} (h:p:=by
 obtain⟨b,e,h3⟩:=HC.out j u hj;exact⟨b,e,vN (bn h3) HB.size,(aj HB.out (bn h3)).trans h3⟩):p:=h
theorem pR {p:Prop} (h:p:=by
 rw[<-hns];exact⟨by rw[List.length_set];exact HNN.1,HNN.2.1,HNN.2.2.1,.inr ⟨g,cur6,H6,rfl,hat6⟩⟩):p:=h
theorem pP {p:Prop} (h:p:=by
 rw[e] at g;exact⟨_,xs[i]'(by omega),vF hlc,by rw[g,vF]⟩):p:=h
theorem pK {p:Prop} (h:p:=by
 rw[<-hps] at hP;have HG:=aa (vA g1 (vA g2 (vA g3 (vA g4 hP))));have HB7:Hid (Below w.heap.size w w7):=HB6.trans (hK.low (X:=w.heap.size) HB6.size (fun k s=>Classical.byContradiction fun hk=>nb k af s));clear g1 g2 g3 g4 hP hK nb HF1 HF6 Bo6 Br6 HB6;obtain⟨o0,o1,o2,o3,o4,o5⟩:=cs6 Bo7;obtain⟨r0,r1,r2,r3,r4,r5,r6,r7⟩:=cs8 Br7;have fr0:=ar Br7.out 0;have fr1:=ar Br7.out 1;have fr2:=ar Br7.out 2;have fr3:=ar Br7.out 3;have fr4:=ar Br7.out 4;have fr5:=ar Br7.out 5;have fr6:=ar Br7.out 6;have fr7:=ar Br7.out 7;have hol:=ae Bo7.out;have hrl:=ae Br7.out;have hne5:¬w.heap.size+1=w3.heap.size:=af
 have hne6:¬w3.heap.size=w.heap.size+1:=af
 go_wp2;have hlo:=HLO.out;refine bodyPost_ret (v:=.agg #[.slice (some ⟨g,0,none⟩) m1 n1,.slice x2 m2 n2,.slice x3 m3 n3,.slice x4 m4 n4,.slice x5 m5 n5,.int .i64 c.now,.string ⟨#[]⟩,.int .i64 0]) ot rfl ⟨⟨some ⟨g,0,none⟩,m1,n1,x2,m2,n2,x3,m3,n3,x4,m4,n4,x5,m5,n5⟩,⟨db c t n f,⟨#[]⟩,0⟩,rfl,HV.out,?_,sb1 (sb1 (sb1 (sb1 (sb1 (sb1 (sb1 (sb1 (HB7.out))))))))⟩;have hk4:∀k,k<w7.heap.size->w1.heap.size<=k/\¬k=w3.heap.size->((((((((w7.setCell ⟨w.heap.size+1,0,none⟩ (.slice (some ⟨g,0,none⟩) m1 n1)).setCell ⟨w.heap.size+1,1,none⟩ (.slice x2 m2 n2)).setCell ⟨w.heap.size+1,2,none⟩ (.slice x3 m3 n3)).setCell ⟨w.heap.size+1,3,none⟩ (.slice x4 m4 n4)).setCell ⟨w.heap.size+1,4,none⟩ (.slice x5 m5 n5)).setCell ⟨w.heap.size+1,5,none⟩ (.int .i64 c.now)).setCell ⟨w.heap.size+1,6,none⟩ (.string ⟨#[]⟩)).setCell ⟨w.heap.size+1,7,none⟩ (.int .i64 0)).heap[k]?=w7.heap[k]?:=fun k _ h1=>by rw[vB _ _ _ _ (show k≠w.heap.size+1 by omega),vB _ _ _ _ (show k≠w.heap.size+1 by omega),vB _ _ _ _ (show k≠w.heap.size+1 by omega),vB _ _ _ _ (show k≠w.heap.size+1 by omega),vB _ _ _ _ (show k≠w.heap.size+1 by omega),vB _ _ _ _ (show k≠w.heap.size+1 by omega),vB _ _ _ _ (show k≠w.heap.size+1 by omega),vB _ _ _ _ (show k≠w.heap.size+1 by omega)]
 exact⟨(HG.1.aH hk4 (fun _ _ s=>s)).rl (fun k s=>loq),(HG.2.1.aH hk4 (fun _ _ s=>s)).rl (fun k s=>loq),(HG.2.2.1.aH hk4 (fun _ _ s=>s)).rl (fun k s=>loq),(HG.2.2.2.1.aH hk4 (fun _ _ s=>s)).rl (fun k s=>loq),(HG.2.2.2.2.aH hk4 (fun _ _ s=>s)).rl (fun k s=>loq)⟩):p:=h
theorem gq {p:Prop} (h:p:=by
 obtain⟨_,hl0,hc0⟩:=World.cells?_some k1;have:=hc0 0 af;rw[vF af] at this;rcases Nat.lt_or_ge b w.heap.size with h1|h1
 ·exact h1
 ·simp[Addr.add,World.cell?,Array.getElem?_eq_none h1] at this):p:=h
theorem gp {p:Prop} (h:p:=by
 obtain⟨_,hl0,hc0⟩:=World.cells?_some k1;have:=hc0 0 af;rw[vF af] at this;simpa[Addr.add] using World.cell?_spot this):p:=h
theorem gj {p:Prop} (h:p:=by
 have:=hc0 j hj;rw[add_add,wv] at this;rw[Nat.add_assoc];exact this):p:=h
theorem gi {p:Prop} (h:p:=by
 exact⟨none,0,0,[],by simpa using hcs,rfl,vD _,by omega,.inl rfl⟩):p:=h
theorem pD {p:Prop} (h:p:=by
 exact o_):p:=h
theorem gh {p:Prop} (h:p:=by
 subst h0;exact⟨some a,0,cap,[],by simpa using hcs,rfl,hl,hm',.inl rfl⟩):p:=h
theorem pC {p:Prop} (h:p:=by
 refine Obl.plain rfl ?_;intro ac wg K hsz hW hf hK;clear hsz;have e6:=hf 6 ak;simp[aq,vH] at e6;clear hf;obtain⟨n0,n1,n2,n3,n4,n5,n6⟩:=cs7 ((hW.block _ (ae BnW.out)).trans BnW.out);exact bT):p:=h
theorem pB {p:Prop} (h:p:=by
 refine Obl.plain rfl ?_;intro ac wg K hsz hW hf hK;clear hsz;have e2:=hf 2 ak;simp[aq,vH] at e2;exact o8):p:=h
theorem pd {p:Prop} (h:p:=by
 clear hf;obtain⟨p0,p1,p2,p3,p4,p5⟩:=cs6 ((hW.block _ (ae Bp.out)).trans Bp.out);exact bT):p:=h
theorem pb {p:Prop} (h:p:=by
 refine Obl.plain rfl ?_;intro ac wg K hsz hW hf hK;clear hsz;have e37:=hf 37 ak;simp[aq,vH] at e37;clear hf;exact bT):p:=h
theorem o_ {p:Prop} (h:p:=by
 refine Obl.plain rfl ?_;intro ac wg K hsz hW hf hK;clear hsz;have e5:=hf 5 ak;simp[aq,vH] at e5;clear hf;exact bT):p:=h
theorem o8 {p:Prop} (h:p:=by
 clear hf;obtain⟨k0,k1,k2,k3,k4,k5⟩:=cs6 ((hW.block _ (ae BkW.out)).trans BkW.out);exact bT):p:=h
theorem o7 {p:Prop} (h:p:=by
 clear hf;obtain⟨o0,o1,o2,o3,o4,o5⟩:=cs6 ((hW.block _ (ae BoW.out)).trans BoW.out);exact bT):p:=h
theorem ru {p:Prop} (h:p:=by
 have fr0:=ar Br.out 0;have fr1:=ar Br.out 1;have fr2:=ar Br.out 2;have fr3:=ar Br.out 3;have fr4:=ar Br.out 4;have fr5:=ar Br.out 5;have fr6:=ar Br.out 6;have fr7:=ar Br.out 7;have fr8:=ar Br.out 8;have fr9:=ar Br.out 9;have fr10:=ar Br.out 10;have fr11:=ar Br.out 11;have fr12:=ar Br.out 12;have fr13:=ar Br.out 13;have fr14:=ar Br.out 14;have hrl:w.heap.size+1<w1.heap.size:=ae Br.out;have hkl:w.heap.size<w1.heap.size:=ae Bk.out;have hn1:¬w.heap.size+1=w1.heap.size:=af
 have hn2:¬w1.heap.size=w.heap.size+1:=af
 exact vA fr0 (vA fr1 (vA fr2 (vA fr3 (vA fr4 (vA fr5 (vA fr6 (vA fr7 (vA fr8 (vA fr9 (vA fr10 (vA fr11 (vA fr12 (vA fr13 (vA fr14 (vA hrl (vA hkl (vA hn1 hn2)))))))))))))))))):p:=h
theorem um {p:Prop} (h:p:=by
 have k0:=fun q:Wd W=>q.slot (o:=0) Bc3.out rfl;have k1:=fun q:Wd W=>q.slot (o:=1) Bc3.out rfl;have k2:=fun q:Wd W=>q.slot (o:=2) Bc3.out rfl;have k3:=fun q:Wd W=>q.slot (o:=3) Bc3.out rfl;have k4:=fun q:Wd W=>q.slot (o:=4) Bc3.out rfl;have k5:=fun q:Wd W=>q.slot (o:=5) Bc3.out rfl;have p0:∀q:Wd W,q.w.cell? ⟨g,k*6,none⟩=some (.string x.n):=fun q=>(q.cell hbl2).trans c0;have p1:∀q:Wd W,q.w.cell? ⟨g,k*6+1,none⟩=some (.int .i64 x.c):=fun q=>(q.cell hbl2).trans c1;have p2:∀q:Wd W,q.w.cell? ⟨g,k*6+2,none⟩=some (.string x.z):=fun q=>(q.cell hbl2).trans c2;have p3:∀q:Wd W,q.w.cell? ⟨g,k*6+3,none⟩=some (.slice pa pq pc):=fun q=>(q.cell hbl2).trans c3;have p4:∀q:Wd W,q.w.cell? ⟨g,k*6+4,none⟩=some (.string x.d):=fun q=>(q.cell hbl2).trans c4;have p5:∀q:Wd W,q.w.cell? ⟨g,k*6+5,none⟩=some (.int .i64 1):=fun q=>(q.cell hbl2).trans c5;exact vA k0 (vA k1 (vA k2 (vA k3 (vA k4 (vA k5 (vA p0 (vA p1 (vA p2 (vA p3 (vA p4 p5))))))))))):p:=h
theorem sC {p:Prop} (h:p:=by
 have Ck:=aa ((hk.block (w.heap.size) (ae Bk.out) (fun s=>by have s1:=s.1;have s2:=s.2;have q3:=HQ3.out;have q4:=HQ4.out;have q5:=HQ5.out;omega)).trans Bk.out);have Ca:=aa ((hk.block (w3.heap.size) (ae Ba.out) (fun s=>by have s1:=s.1;have s2:=s.2;have q3:=HQ3.out;have q4:=HQ4.out;have q5:=HQ5.out;omega)).trans Ba.out);have Cx:=aa ((hk.block (w4.heap.size) (ae Bx.out) (fun s=>by have s1:=s.1;have s2:=s.2;have q3:=HQ3.out;have q4:=HQ4.out;have q5:=HQ5.out;omega)).trans Bx.out);have Cg:=aa ((hk.block (w5.heap.size) (ae Bg.out) (fun s=>by have s1:=s.1;have s2:=s.2;have q3:=HQ3.out;have q4:=HQ4.out;have q5:=HQ5.out;omega)).trans Bg.out);exact vA Ck (vA Ca (vA Cx Cg))):p:=h
theorem gX {p:Prop} (h:p:=by
 have hlm:len<=m:=by rw[hmm];split <;> omega
 have hm':cap<=9223372036854775807:=by unfold maxLen at hm;omega
 exact vA hlm hm'):p:=h
theorem sz {p:Prop} (h:p:=by
 have n0:=fun q:Wd wr=>q.slot (o:=0) Gn.out rfl;have yd:=fun q:Wd wr=>(q.cell hbl).trans hc1;have von:=fun q:Wd wr=>(q.cell hb3).trans hc7;have hne0:=Wd.ne wr;have HC0:=aa (fun q:Wd wr=>fX ⟨a1,l1,y1,a2,l2,y2,(some ⟨b3,o3,none⟩),l3,y3,a4,l4,y4,a5,l5,y5⟩ c.now c.vs y.n q.w (HR.v.below (HW.trans (q.b.mono HW.size))) HT.2.1.2.2.1.2.2 HV.1 HV.2);exact vA n0 (vA yd (vA von (vA hne0 HC0)))):p:=h
theorem sy {p:Prop} (h:p:=by
 have Bo7:=aa ((hK.block _ (ae Bo6.out) (nb _ af)).trans Bo6.out);have Br7:=aa ((hK.block _ (ae Br6.out) (nb _ af)).trans Br6.out);have g1:=HF1.beside HF6.2.2.2 hK ak;have g2:=HF6.1.beside HF6.2.2.2 hK ak;have g3:=HF6.2.1.beside HF6.2.2.2 hK ak;have g4:=HF6.2.2.1.beside HF6.2.2.2 hK ak;exact vA Bo7 (vA Br7 (vA g1 (vA g2 (vA g3 g4))))):p:=h
theorem si {p:Prop} (h:p:=by
 have HOW:Hid ((q3.w.alloc (.cells #[] 112)).ownsRow q3.w.heap.size 112 2 (.slice (some ⟨q3.w.heap.size,0,none⟩) 0 0) 0 []):=World.ownsRow_made q3.w #[] 0 (vD _) (Nat.zero_le _) aW;have hik:(k:Int)<=cap:=af
 have hkn:k<=cap:=af
 exact vA HOW (vA hik hkn)):p:=h
end Go.Proofs.YtjgjhkkmlaacdaaGreatDoor
namespace Go.Proofs.YtjgjhkkmlaacdaaGreatDoor
open Go.RowKit
namespace Gt

def growB (n:Nat) (front:List Oper) (back:Option Oper):Bool:=
 let ops:=(front++back.toList).toArray
 decide ((front.filterMap (·.dst)).Nodup) && front.all (fun o=>match o.dst with|some t=>decide (t<n)|none=>true) &&
 (wN front.length).all (fun j=>match front[j]? with
  | some o=>(o.looksAt ops).all (fun t=>(wN front.length).all fun i=>match front[i]? with
    | some p=>p.dst !=some t || (decide (i<j) && o.after.any fun e=>e.on==i && wB .any e)
    | none=>true)
  | none=>true) &&
 (wN ops.size).all (fun j=>match ops[j]? with|some o=>o.after.all (fun e=>decide (e.on<j))|none=>true) &&
 (match back with|some o=>(wN front.length).all (fun i=>o.after.any fun e=>wB .any e && (e.on==i || match front[e.on]? with|some p=>p.after.any (fun e'=>e'.on==i && wB .any e')|none=>false))|none=>true)

section
variable {P:Program} {ops:Array Oper} {Q:Exit->Act->World->Prop} {W:World} {a0:Act} {back:Option Oper}
theorem cC {n:Nat} {front:List Oper} {back:Option Oper} (h:growB n front back=true):
  (front.filterMap (·.dst)).Nodup/\(∀o∈front,∀t,o.dst=some t->t<n)/\
  (∀(j:Nat) (o:Oper),front[j]?=some o->∀t∈o.looksAt (front++back.toList).toArray,∀(i:Nat) (p:Oper),front[i]?=some p->p.dst=some t->i<j/\∃e∈o.after,e.on=i/\wB .any e=true)/\
  (∀(j:Nat) o,(front++back.toList).toArray[j]?=some o->∀e∈o.after,e.on<j)/\
  (∀o,back=some o->∀i,i<front.length->∃e∈o.after,wB .any e=true/\(e.on=i\/∃p,front[e.on]?=some p/\∃e'∈p.after,e'.on=i/\wB .any e'=true)):=by
 unfold growB at h;simp only[vZ,decide_eq_true_eq] at h;obtain⟨⟨⟨⟨h1,h2⟩,h3⟩,h4⟩,h5⟩:=h;refine⟨h1,?_,?_,?_,?_⟩
 ·intro o ho t ht;have:=wE.1 h2 o ho;rw[ht] at this;simpa using this
 ·exact tn
 ·exact sX
 ·intro o ho i hi;subst ho;have:=wE.1 h5 i (List.mem_range.2 hi);obtain⟨k,hk,hx⟩:=Array.any_eq_true.1 this;simp only[vZ,xk,beq_iff_eq] at hx;refine⟨_,Array.getElem_mem hk,hx.1,hx.2.imp id fun h9=>?_⟩;split at h9
  ·next p hp=>
   obtain⟨k',hk',hx'⟩:=Array.any_eq_true.1 h9;simp only[vZ,beq_iff_eq] at hx';exact⟨p,hp,_,Array.getElem_mem hk',hx'.1,hx'.2⟩
  ·cases h9

structure Ac (front:List Oper) (φs:List Fact) (W:World) (a0:Act) (listed:Array Bool) (a:Act) (w:World):Prop where
 old:At front φs W a0 listed a w
 cl:∀(j:Nat) (o:Oper),front[j]?=some o->listed.getD j false=true->∀e∈o.after,wB .any e=true->listed.getD e.on false=true
theorem bX {front:List Oper} {φs:List Fact} (hops:ops=(front++back.toList).toArray) (hB:growB a0.tmps.size front back=true) (hlen:φs.length=front.length)
  (hs:∀(i:Nat) (o:Oper) (φ:Fact),front[i]?=some o->φs[i]?=some φ->φ.cf/\Obl P ops Q W a0 (knAll [] (front.take i) (φs.take i)) o φ) (hf:Fin P ops Q W a0 back (knAll [] front φs)):
  ∀(fuel:Nat) (listed:Array Bool) (a:Act) (w:World),listed.size=ops.size->listed.toList.count false<=fuel->(∀o,back=some o->listed.getD front.length false=false)->Ac front φs W a0 listed a w->wpAny P .any ops Q fuel listed a w:=by
 obtain⟨hn,hin,hdep,hlt,hback⟩:=cC hB;rw[<-hops] at hdep hlt;have hsz:ops.size=front.length+back.toList.length:=by rw[hops];simp
 have hend:∀(listed:Array Bool) (a:Act) (w:World),listed.size=ops.size->(∀i,i<ops.size->listed.getD i false=true)->(∀o,back=some o->listed.getD front.length false=false)->Ac front φs W a0 listed a w->Q .normal a w:=by
  intro listed a w hz hall hb h;have h1:=Fin.last hf hlen hin h.old (fun i hi=>hall i af);exact oS
 intro fuel;induction fuel with
 | zero=>
  intro listed a w hz hc hb h;have hall:∀i,i<ops.size->listed.getD i false=true:=fun i hi=>dO af i af;refine⟨?_,hend listed a w hz hall hb h⟩
  cases hr:wC .any ops listed with
  | nil=>rfl
  | cons j js=>
   have hm:j∈wC .any ops listed:=by rw[hr];simp
   obtain⟨h1,o,ho,-⟩:=mem_ready.1 hm;have hj:=(vT.1 ho).1;rw[<-bK af,hall j hj] at h1
   cases h1
 | succ fuel ih=>
  intro listed a w hz hc hb h;refine⟨fun hr=>hend listed a w hz (dH hz hlt hr) hb h,fun j hj=>?_⟩;obtain⟨hun,o,ho,hall⟩:=mem_ready.1 hj;have hjs:j<ops.size:=(vT.1 ho).1;have hcs:=count_set (listed:=listed) (i:=j) af hun
  by_cases hjf:j<front.length
  ·have hof:front[j]?=some o:=by rw[hops] at ho;simpa[wh hjf] using ho
   have hφ:φs[j]?=some (φs[j]'(by omega)):=vF _;obtain⟨hm,hob⟩:=hs j o _ hof hφ
   have hfacts:∀t∈o.looksAt ops,aq a0 (knAll [] (front.take j) (φs.take j)) a w t:=by
    intro t ht;unfold aq
    cases hk:(knAll [] (front.take j) (φs.take j)).lookup t with
    | some φ=>
     rcases bO _ _ _ hk with ⟨i,p,h1,h2,h3⟩|h1
     ·have hij:i<j:=by have:=(vz.1 h1).1;simp at this;omega
      rw[wb,if_pos hij] at h1 h3;obtain⟨-,e,he,hon,hbi⟩:=hdep j o hof t ht i p h1 h2;have hl:=hall e he hbi;rw[hon] at hl;exact h.old.known i p φ h1 h3 t h2 hl
     ·simp at h1
    | none=>
     refine h.old.other t (fun i p hp hd=>?_)
     exfalso
     obtain⟨hij,-⟩:=hdep j o hof t ht i p hp hd;have hi:=(vz.1 hp).1;exact (bP _ _ _ hk).2 i p (φs[i]'(by omega)) mn mu hd
   have h1:=hob a w (wpAny P .any ops Q fuel (listed.setIfInBounds j true)) h.old.size h.old.below hfacts (fun v w' hbw hv=>by
    refine ih _ _ _ (by simpa using hz) af (fun o' ho'=>?_) ⟨h.old.step hn hin (fun i o φ h1 h2=>(hs i o φ h1 h2).1) hof hφ af hbw hv,fun j' o' ho' hl e he hbe=>(by
     by_cases ej:j=j'
     ·subst ej;obtain rfl:o=o':=vC (hof.symm.trans ho');exact Gs.uh (hall e he hbe)
     ·exact Gs.uh (h.cl j' o' ho' (Gs.ue ej hl) e he hbe))⟩
    have h2:=hb o' ho'
    have e:¬j=front.length:=af
    simpa[vJ,vY,e] using h2)
   unfold wpOp;rw[ho]
   simp only
   split
   ·rename_i hw;rw[if_pos hw] at h1;exact .inl h1
   ·rename_i hw;rw[if_neg hw] at h1;exact h1
  ·cases hk:back with
   | none=>rw[hk] at hsz;simp at hsz;omega
   | some b=>
    have hjn:j=front.length:=by rw[hk] at hsz;simp at hsz;omega
    subst hjn
    have hob:o=b:=by
     rw[hops,hk] at ho
     simp at ho
     exact ho.symm
    subst hob
    have hfl:∀i,i<front.length->listed.getD i false=true:=fun i hi=>by
     obtain⟨e,he,hbi,hon⟩:=hback o hk i hi;have hl:=hall e he hbi
     rcases hon with hon|⟨p,hp,e',he',hon,hbi'⟩
     ·rwa [hon] at hl
     ·have:=h.cl e.on p hp hl e' he' hbi'
      rwa [hon] at this
    have h1:=Fin.last hf hlen hin h.old hfl;rw[hk] at h1
    have h2:=h1 (wpAny P .any ops Q fuel (listed.setIfInBounds front.length true)) (fun a' w' hq=>by
     have hr:wC .any ops (listed.setIfInBounds front.length true)=[]:=by
      cases hr:wC .any ops (listed.setIfInBounds front.length true) with
      | nil=>rfl
      | cons i is=>
       have hm:i∈wC .any ops (listed.setIfInBounds front.length true):=by rw[hr];simp
       obtain⟨h3,o',ho',-⟩:=mem_ready.1 hm;have hi:=(vT.1 ho').1
       exfalso
       by_cases e:front.length=i
       ·subst e
        simp[vJ,show front.length<listed.size from by omega] at h3
       ·have h4:=hfl i (by rw[hk] at hsz;simp at hsz;omega);rw[bK af] at h4
        simp[vJ,e] at h3 h4
        rw[h3] at h4
        cases h4
     cases fuel with
     | zero=>exact⟨hr,hq⟩
     | succ fuel=>exact⟨fun _=>hq,fun i hi=>by rw[hr] at hi;cases hi⟩)
    unfold wpOp;rw[ho]
    simp only
    split
    ·rename_i hw;rw[if_pos hw] at h2;exact .inl h2
    ·rename_i hw;rw[if_neg hw] at h2;exact h2
end
theorem bg {P:Program} {id:Nat} {Q:Exit->Act->World->Prop} {a0:Act} {W:World} {l:List Oper} {front:List Oper} {last:Oper} (hm:P.follows .mixedOrders=true) (hf:l.dropLast=front) (hb:l.getLast?=some last) (hB:growB a0.tmps.size front (some last)=true)
  (h:Grow P l.toArray Q W a0 (some last) front []):(Code.region id l.toArray true).wp P Q a0 W:=by
 obtain⟨φs,hlen,hs,hfi⟩:=Grow.spec _ _ h;have hl:l=front++(some last).toList:=by
  exact kS
 refine wp_region_any hm (bX (by rw[hl]) hB hlen hs hfi _ _ _ _ aW ?_ (fun o ho=>?_) ⟨⟨rfl,rfl,(vG _ _).drew,fun i o φ h1 h2 t ht hx=>?_,fun t _=>rfl⟩,fun j o h1 hx=>?_⟩)
 ·exact mF
 ·exact aY _ _
 ·rw[aY] at hx;cases hx
 ·rw[aY] at hx;cases hx
end Gt
namespace Gu

def waits (front:List Oper) (i:Nat):Nat->Array Edge->Bool
 | 0,after=>after.any fun e=>wB .any e && e.on==i
 | f+1,after=>after.any fun e=>wB .any e && (e.on==i || match front[e.on]? with|some p=>waits front i f p.after|none=>false)
theorem fW {front:List Oper} {i:Nat} {listed:Array Bool} (hc:∀(j:Nat) (o:Oper),front[j]?=some o->listed.getD j false=true->∀e∈o.after,wB .any e=true->listed.getD e.on false=true):∀(f:Nat) (after:Array Edge),waits front i f after=true->(∀e∈after,wB .any e=true->listed.getD e.on false=true)->listed.getD i false=true
 | 0,after,h,ha=>by
  obtain⟨k,hk,hx⟩:=Array.any_eq_true.1 h;simp only[vZ,beq_iff_eq] at hx;have:=ha _ (Array.getElem_mem hk) hx.1
  rwa [hx.2] at this
 | f+1,after,h,ha=>by
  obtain⟨k,hk,hx⟩:=Array.any_eq_true.1 h;simp only[vZ,xk,beq_iff_eq] at hx;have h1:=ha _ (Array.getElem_mem hk) hx.1
  rcases hx.2 with h2|h2
  ·rwa [h2] at h1
  ·split at h2
   ·next p hp=>exact fW hc f p.after h2 (fun e he hb=>hc _ p hp h1 e he hb)
   ·cases h2
def mS (P:Program) (ops:Array Oper) (Q:Exit->Act->World->Prop) (s t:Oper) (a:Act) (w:World):Prop:=
 ∀K:Act->World->Prop,(∀a' w',(∀K':Act->World->Prop,(∀a w,Q .normal a w->K' a w)->if wU t (yielded ops a'.tmps)=true then t.wp P a' w' K' Q else K' (a'.put t.dst undef) w')->K a' w')->if wU s (yielded ops a.tmps)=true then s.wp P a w K Q else K (a.put s.dst undef) w
def Fin (P:Program) (ops:Array Oper) (Q:Exit->Act->World->Prop) (W:World) (a0:Act) (s t:Oper) (known:List (Tmp×Fact)):Prop:=
 ∀(x:Tmp->Value) (w:World),Below W.heap.size W w->(∀p∈known,p.2 (x p.1) w)->mS P ops Q s t (aU a0 known x) w
def Grow (P:Program) (ops:Array Oper) (Q:Exit->Act->World->Prop) (W:World) (a0:Act) (s t:Oper):List Oper->List (Tmp×Fact)->Prop
 | [],known=>Fin P ops Q W a0 s t known
 | o ::rest,known=> ∃φ:Fact,φ.cf/\Obl P ops Q W a0 known o φ/\Grow P ops Q W a0 s t rest (kn o.dst φ known)
section
variable {P:Program} {ops:Array Oper} {Q:Exit->Act->World->Prop} {W:World} {a0:Act} {s t:Oper}
theorem Grow.step {o:Oper} {rest:List Oper} {known:List (Tmp×Fact)} {d:Tmp} (φ:Fact) (hd:o.dst=some d) (hφ:φ.cf) (ho:Obl P ops Q W a0 known o φ)
  (h:Grow P ops Q W a0 s t rest ((d,φ) ::known)):Grow P ops Q W a0 s t (o ::rest) known:=⟨φ,hφ,ho,(by rw[hd];exact h)⟩
theorem Grow.stepC {o:Oper} {rest:List Oper} {known:List (Tmp×Fact)} {d:Tmp} (c:Value) (hd:o.dst=some d) (ho:Obl P ops Q W a0 known o (fun v _=>v=c))
  (h:Grow P ops Q W a0 s t rest ((d,fun v _=>v=c) ::known)):Grow P ops Q W a0 s t (o ::rest) known:=Grow.step _ hd (Fact.dz c) ho h
theorem Grow.done {known:List (Tmp×Fact)} (h:Fin P ops Q W a0 s t known):Grow P ops Q W a0 s t [] known:=h
theorem Grow.spec:∀(l:List Oper) (known:List (Tmp×Fact)),Grow P ops Q W a0 s t l known->∃φs:List Fact,φs.length=l.length/\
  (∀(i:Nat) (o:Oper) (φ:Fact),l[i]?=some o->φs[i]?=some φ->φ.cf/\Obl P ops Q W a0 (knAll known (l.take i) (φs.take i)) o φ)/\Fin P ops Q W a0 s t (knAll known l φs)
 | [],known,h=>⟨[],rfl,fun i o φ h=>by simp at h,by rw[bH];exact h⟩
 | o ::l,known,h=>by
  exact oY
def growB (n:Nat) (front:List Oper) (s t:Oper):Bool:=
 let ops:=(front++[s,t]).toArray
 decide ((front.filterMap (·.dst)).Nodup) && front.all (fun o=>match o.dst with|some d=>decide (d<n)|none=>true) &&
 (wN front.length).all (fun j=>match front[j]? with
  | some o=>(o.looksAt ops).all (fun d=>(wN front.length).all fun i=>match front[i]? with
    | some p=>p.dst !=some d || (decide (i<j) && o.after.any fun e=>e.on==i && wB .any e)
    | none=>true)
  | none=>true) &&
 (wN ops.size).all (fun j=>match ops[j]? with|some o=>o.after.all (fun e=> !wB .any e || decide (e.on<j))|none=>true) &&
 (wN front.length).all (fun i=>waits front i 12 s.after) && t.after.any (fun e=>wB .any e && e.on==front.length)
theorem cC {n:Nat} {front:List Oper} (h:growB n front s t=true):
  (front.filterMap (·.dst)).Nodup/\(∀o∈front,∀d,o.dst=some d->d<n)/\
  (∀(j:Nat) (o:Oper),front[j]?=some o->∀d∈o.looksAt (front++[s,t]).toArray,∀(i:Nat) (p:Oper),front[i]?=some p->p.dst=some d->i<j/\∃e∈o.after,e.on=i/\wB .any e=true)/\
  (∀(j:Nat) o,(front++[s,t]).toArray[j]?=some o->∀e∈o.after,wB .any e=true->e.on<j)/\
  (∀i,i<front.length->waits front i 12 s.after=true)/\∃e∈t.after,wB .any e=true/\e.on=front.length:=by
 unfold growB at h;simp only[vZ,decide_eq_true_eq] at h;obtain⟨⟨⟨⟨⟨h1,h2⟩,h3⟩,h4⟩,h5⟩,h6⟩:=h;refine⟨h1,?_,?_,?_,?_,?_⟩
 ·intro o ho d hd;have:=wE.1 h2 o ho;rw[hd] at this;simpa using this
 ·intro j o ho d hd i p hp hpd;have hj:j<front.length:=(vz.1 ho).1;have hi:i<front.length:=(vz.1 hp).1;have:=wE.1 h3 j (List.mem_range.2 hj);rw[ho] at this;have:=wE.1 this d hd;have:=wE.1 this i (List.mem_range.2 hi);rw[hp] at this;simp only[hpd,bne_self_eq_false,Bool.false_or,vZ,decide_eq_true_eq] at this;exact py
 ·intro j o ho e he hbe;have hj:j<(front++[s,t]).toArray.size:=(vT.1 ho).1;have:=wE.1 h4 j (List.mem_range.2 hj);rw[ho] at this;have:=Array.all_eq_true.1 this;obtain⟨k,hk,rfl⟩:=Array.mem_iff_getElem.1 he;have h9:=this k hk;rw[hbe] at h9;simpa using h9
 ·intro i hi;exact wE.1 h5 i (List.mem_range.2 hi)
 ·obtain⟨k,hk,hx⟩:=Array.any_eq_true.1 h6;simp only[vZ,beq_iff_eq] at hx;exact⟨_,Array.getElem_mem hk,hx.1,hx.2⟩
theorem Fin.last {front:List Oper} {φs:List Fact} {listed:Array Bool} {a:Act} {w:World} (hf:Fin P ops Q W a0 s t (knAll [] front φs)) (hlen:φs.length=front.length) (hin:∀o∈front,∀d,o.dst=some d->d<a0.tmps.size)
  (h:At front φs W a0 listed a w) (hall:∀i,i<front.length->listed.getD i false=true):mS P ops Q s t a w:=by
 have h9:∃x,a=aU a0 (knAll [] front φs) x/\∀p∈knAll [] front φs,p.2 (x p.1) w:=Go.Proofs.YtjgjhkkmlaacdaaGreatDoor.Fin.last (P:=P) (ops:=ops) (Q:=fun _ a' w'=> ∃x,a'=aU a0 (knAll [] front φs) x/\∀p∈knAll [] front φs,p.2 (x p.1) w') (back:=none) (fun x _ _ h2=>⟨x,rfl,h2⟩) hlen hin h hall;obtain⟨x,e,h2⟩:=h9;have h3:=hf x w h.below h2;rw[<-e] at h3;exact h3
theorem kG {fuel:Nat} {listed:Array Bool} {a:Act} {w:World} {j:Nat} {o:Oper} (ho:ops[j]?=some o) (h1:if wU o (yielded ops a.tmps)=true then o.wp P a w (wpAny P .any ops Q fuel (listed.setIfInBounds j true)) Q else wpAny P .any ops Q fuel (listed.setIfInBounds j true) (a.put o.dst undef) w):wpOp P ops Q j (wpAny P .any ops Q fuel (listed.setIfInBounds j true)) a w:=by
 unfold wpOp;rw[ho];simp only;split
 ·rename_i hw;rw[if_pos hw] at h1;exact .inl h1
 ·rename_i hw;rw[if_neg hw] at h1;exact h1
theorem k_ {listed:Array Bool} (hz:listed.size=ops.size) (hall:∀i,i<ops.size->listed.getD i false=true):wC .any ops listed=[]:=by
 cases hr:wC .any ops listed with
 | nil=>rfl
 | cons j js=>
  have hm:j∈wC .any ops listed:=by rw[hr];simp
  obtain⟨h1,o,ho,-⟩:=mem_ready.1 hm;have hj:=(vT.1 ho).1;rw[<-bK af,hall j hj] at h1
  cases h1
theorem rM {fuel:Nat} {listed:Array Bool} {a:Act} {w:World} (hz:listed.size=ops.size) (hall:∀i,i<ops.size->listed.getD i false=true) (hq:Q .normal a w):wpAny P .any ops Q fuel listed a w:=by
 have hr:=k_ hz hall;cases fuel with
 | zero=>exact⟨hr,hq⟩
 | succ fuel=>exact⟨fun _=>hq,fun i hi=>by rw[hr] at hi;cases hi⟩
theorem bX {front:List Oper} {φs:List Fact} (hops:ops=(front++[s,t]).toArray) (hB:growB a0.tmps.size front s t=true) (hlen:φs.length=front.length)
  (hs:∀(i:Nat) (o:Oper) (φ:Fact),front[i]?=some o->φs[i]?=some φ->φ.cf/\Obl P ops Q W a0 (knAll [] (front.take i) (φs.take i)) o φ) (hf:Fin P ops Q W a0 s t (knAll [] front φs)):
  ∀(fuel:Nat) (listed:Array Bool) (a:Act) (w:World),listed.size=ops.size->listed.toList.count false<=fuel->listed.getD front.length false=false->listed.getD (front.length+1) false=false->Gt.Ac front φs W a0 listed a w->wpAny P .any ops Q fuel listed a w:=by
 obtain⟨hn,hin,hdep,hlt,hwait,e2,he2,hb2,hon2⟩:=cC hB;rw[<-hops] at hdep hlt;have hsz:ops.size=front.length+2:=by rw[hops];simp
 have hos:ops[front.length]?=some s:=by rw[hops];simp
 have hot:ops[front.length+1]?=some t:=by rw[hops];simp
 intro fuel;induction fuel with
 | zero=>
  intro listed a w hz hc hb hb' h;have h9:=dO (by omega:listed.toList.count false=0) front.length af;rw[hb] at h9
  cases h9
 | succ fuel ih=>
  intro listed a w hz hc hb hb' h;refine⟨fun hr=>?_,fun j hj=>?_⟩
  ·have h9:=Gs.dH hz hlt hr front.length af;rw[hb] at h9
   cases h9
  obtain⟨hun,o,ho,hall⟩:=mem_ready.1 hj;have hjs:j<ops.size:=(vT.1 ho).1;have hcs:=count_set (listed:=listed) (i:=j) af hun
  by_cases hjf:j<front.length
  ·have hof:front[j]?=some o:=by rw[hops] at ho;simpa[wh hjf] using ho
   have hφ:φs[j]?=some (φs[j]'(by omega)):=vF _;obtain⟨hm,hob⟩:=hs j o _ hof hφ
   have hfacts:∀t∈o.looksAt ops,aq a0 (knAll [] (front.take j) (φs.take j)) a w t:=by
    intro t ht;unfold aq
    cases hk:(knAll [] (front.take j) (φs.take j)).lookup t with
    | some φ=>
     rcases bO _ _ _ hk with ⟨i,p,h1,h2,h3⟩|h1
     ·have hij:i<j:=by have:=(vz.1 h1).1;simp at this;omega
      rw[wb,if_pos hij] at h1 h3;obtain⟨-,e,he,hon,hbi⟩:=hdep j o hof t ht i p h1 h2;have hl:=hall e he hbi;rw[hon] at hl;exact h.old.known i p φ h1 h3 t h2 hl
     ·simp at h1
    | none=>
     refine h.old.other t (fun i p hp hd=>?_)
     exfalso
     obtain⟨hij,-⟩:=hdep j o hof t ht i p hp hd;have hi:=(vz.1 hp).1;exact (bP _ _ _ hk).2 i p (φs[i]'(by omega)) mn mu hd
   have hkeep:∀i,¬j=i->listed.getD i false=false->(listed.setIfInBounds j true).getD i false=false:=fun i e h2=>by
    simpa[vJ,vY,e] using h2
   exact kG ho (hob a w _ h.old.size h.old.below hfacts (fun v w' hbw hv=>ih _ _ _ (by simpa using hz) af (hkeep _ af hb) (hkeep _ af hb') ⟨h.old.step hn hin (fun i o φ h1 h2=>(hs i o φ h1 h2).1) hof hφ af hbw hv,fun j' o' ho' hl e he hbe=>(by
     by_cases ej:j=j'
     ·subst ej;obtain rfl:o=o':=vC (hof.symm.trans ho');exact Gs.uh (hall e he hbe)
     ·exact Gs.uh (h.cl j' o' ho' (Gs.ue ej hl) e he hbe))⟩))
  ·by_cases hj1:j=front.length
   ·subst hj1;obtain rfl:s=o:=vC (hos.symm.trans ho);have hfl:=fun i hi=>fW h.cl 12 s.after (hwait i hi) (fun e he hbe=>hall e he hbe);refine kG ho (Fin.last hf hlen hin h.old hfl _ (fun a' w' ht=>?_))
    have hz2:(listed.setIfInBounds front.length true).size=ops.size:=by simpa using hz
    have hl2:∀i,i<front.length+1->(listed.setIfInBounds front.length true).getD i false=true:=fun i hi=>by
     by_cases e:front.length=i
     ·subst e
      simp[vJ,show front.length<listed.size from by omega]
     ·exact Gs.uh (hfl i af)
    have hu2:(listed.setIfInBounds front.length true).getD (front.length+1) false=false:=by
     have e:¬front.length=front.length+1:=af
     simpa[vJ,vY,e] using hb'
    cases fuel with
    | zero=>
     have h9:=dO (by omega:(listed.setIfInBounds front.length true).toList.count false=0) (front.length+1) af;rw[hu2] at h9
     cases h9
    | succ fuel=>
     refine⟨fun hr=>?_,fun i hi=>?_⟩
     ·have h9:=Gs.dH hz2 hlt hr (front.length+1) af;rw[hu2] at h9
      cases h9
     ·obtain⟨hun2,o2,ho2,-⟩:=mem_ready.1 hi;have his:i<ops.size:=(vT.1 ho2).1
      have hie:i=front.length+1:=Classical.byContradiction fun e=>by
       have h9:=hl2 i af;rw[bK af] at h9;rw[h9] at hun2
       cases hun2
      subst hie;obtain rfl:t=o2:=vC (hot.symm.trans ho2);refine kG ho2 (ht _ (fun a3 w3 hq=>rM (by simpa using hz2) (fun i hi=>?_) hq))
      by_cases e:front.length+1=i
      ·subst e
       simp[vJ,show front.length+1<listed.size from by omega]
      ·exact Gs.uh (hl2 i af)
   ·obtain rfl:j=front.length+1:=af
    obtain rfl:t=o:=vC (hot.symm.trans ho);have h9:=hall e2 he2 hb2;rw[hon2,bK af] at h9;rw[bK af] at hb;rw[hb] at h9
    cases h9
end
theorem ko {P:Program} {id:Nat} {Q:Exit->Act->World->Prop} {a0:Act} {W:World} {l:List Oper} {front:List Oper} {s t:Oper} (hm:P.follows .mixedOrders=true) (hfr:l.dropLast.dropLast=front) (hss:l.dropLast.getLast?=some s) (htt:l.getLast?=some t) (hB:growB a0.tmps.size front s t=true)
  (h:Grow P l.toArray Q W a0 s t front []):(Code.region id l.toArray true).wp P Q a0 W:=by
 have hl:l=front++[s,t]:=by
  obtain⟨l',rfl⟩:=List.getLast?_eq_some_iff.1 htt;rw[List.dropLast_concat] at hfr hss;obtain⟨l2,rfl⟩:=List.getLast?_eq_some_iff.1 hss;rw[List.dropLast_concat] at hfr;rw[<-hfr];simp
 obtain⟨φs,hlen,hs,hfi⟩:=Grow.spec _ _ h;refine wp_region_any hm (bX (by rw[hl]) hB hlen hs hfi _ _ _ _ aW ?_ ?_ ?_ ⟨⟨rfl,rfl,(vG _ _).drew,fun i o φ h1 h2 d hd hx=>?_,fun d _=>rfl⟩,fun j o h1 hx=>?_⟩)
 ·exact mF
 ·exact aY _ _
 ·exact aY _ _
 ·rw[aY] at hx;cases hx
 ·rw[aY] at hx;cases hx
end Gu
end Go.Proofs.YtjgjhkkmlaacdaaGreatDoor

namespace Go.Proofs.YtjgjhkkmlaacdaaGreatDoor
open Go.RowKit
namespace Rc
open Mk

def u9 (c:Cl) (d:Ad) (t:ByteArray) (E:Nat->Addr) (w0 w:World) (e:Ending) (w':World):Prop:=
 Below w.heap.size w w'/\((∃i,i<9/\cE c t i/\e=.returned (.tuple #[.agg #[.int .i64 0,.int .i64 0,.string ⟨#[]⟩,.string ⟨#[]⟩,.int .i64 0,.int .i64 0,.int .i64 0,.bool false,.slice none 0 0,.slice none 0 0,.slice none 0 0,.slice none 0 0,.slice none 0 0,.slice none 0 0,.int .i64 0],.iface 208 (.pointer (some (E i)))]))\/(∃(n:Nd) (va:Option Addr) (vl vc:Nat),c_ c t n/\e=.returned (.tuple #[.agg #[.int .i64 n.u,.int .i64 c.now,.string n.n,.string n.z,.int .i64 n.c,.int .i64 n.s,.int .i64 n.u,.bool n.d,.slice va vl vc,.slice d.a1 d.l1 d.c1,.slice d.a2 d.l2 d.c2,.slice d.a3 d.l3 d.c3,.slice d.a4 d.l4 d.c4,.slice d.a5 d.l5 d.c5,.int .i64 c.now],.nilIface])/\av w0 va vl vc n.zs))
def u_ (c:Cl) (d:Ad) (t:ByteArray) (x:Bool) (E:Nat->Addr) (w0 w:World) (e:Ending) (w':World):Prop:=
 Below w.heap.size w w'/\((∃i,i<9/\cE c t i/\e=.returned (.tuple #[.agg #[.int .i64 0,.int .i64 0,.string ⟨#[]⟩,.string ⟨#[]⟩,.int .i64 0,.int .i64 0,.int .i64 0,.bool false,.slice none 0 0,.slice none 0 0,.slice none 0 0,.slice none 0 0,.slice none 0 0,.slice none 0 0,.int .i64 0],.iface 208 (.pointer (some (E i)))]))\/(∃(n:Nd) (va:Option Addr) (vl vc:Nat),c_ c t n/\((¬n.d=x/\e=.returned (.tuple #[.agg #[.int .i64 n.u,.int .i64 c.now,.string n.n,.string n.z,.int .i64 n.c,.int .i64 n.s,.int .i64 n.u,.bool n.d,.slice va vl vc,.slice d.a1 d.l1 d.c1,.slice d.a2 d.l2 d.c2,.slice d.a3 d.l3 d.c3,.slice d.a4 d.l4 d.c4,.slice d.a5 d.l5 d.c5,.int .i64 c.now],.iface 208 (.pointer (some (E 8)))]))\/(n.d=x/\e=.returned (.tuple #[.agg #[.int .i64 n.u,.int .i64 c.now,.string n.n,.string n.z,.int .i64 n.c,.int .i64 n.s,.int .i64 n.u,.bool n.d,.slice va vl vc,.slice d.a1 d.l1 d.c1,.slice d.a2 d.l2 d.c2,.slice d.a3 d.l3 d.c3,.slice d.a4 d.l4 d.c4,.slice d.a5 d.l5 d.c5,.int .i64 c.now],.nilIface])/\av w0 va vl vc n.zs))))

theorem kf (d:Ad) (now:Int) (n:Nd) (va:Option Addr) (vl vc:Nat) (w:World):
  Calls Tryz.prog 87 #[.agg #[.slice d.a1 d.l1 d.c1,.slice d.a2 d.l2 d.c2,.slice d.a3 d.l3 d.c3,.slice d.a4 d.l4 d.c4,.slice d.a5 d.l5 d.c5,.int .i64 now],.agg #[.string n.n,.string n.z,.int .i64 n.c,.int .i64 n.s,.int .i64 n.u,.bool n.d,.slice va vl vc]] w fun e w'=>e=.returned (.agg #[.int .i64 n.u,.int .i64 now])/\Below w.heap.size w w':=by
 go_enter Tryz.func87,Tryz.ntmps87;go_wp2;exact bodyPost_ret (v:=.agg #[.int .i64 n.u,.int .i64 now]) (by simp[results,Tryz.results87,go_sem]) rfl ⟨rfl,bQ _ _ _ _⟩

theorem nF (d:Ad) (c:Cl) (t:ByteArray) (E:Nat->Addr) (w0:World) (w:World) (hr0:aI w0 d c.raw) (hb0:Below w0.heap.size w0 w) (hG:Ers w E):
  Calls Tryz.prog 62 #[.agg #[.slice d.a1 d.l1 d.c1,.slice d.a2 d.l2 d.c2,.slice d.a3 d.l3 d.c3,.slice d.a4 d.l4 d.c4,.slice d.a5 d.l5 d.c5,.int .i64 c.now],.string t] w (u9 c d t E w0 w):=by
 have HR0:=aa hr0;have HB0:=aa hb0;obtain⟨HE,HB⟩:=gd;clear hr0 hb0 hG;go_enter Tryz.func62,Tryz.ntmps62;go_wp2_with fail;refine (lM d c t E w0 _ HR0.out (HB0.trans ((HB.trans ((aD _ _ _).mono HB.size)).mono HB0.size)) (HE.below (HB.trans ((aD _ _ _).mono HB.size)))).mono ?_;rintro e w1 ⟨hb,hf⟩;obtain⟨HA0,HA1,hbx⟩:=bN hb;have Bk:=aa HA0;have Br:=aa HA1;replace HB:=upB HB hbx;clear hb hbx HA0 HA1;rcases hf with ⟨i,hi8,hwhy,rfl⟩|⟨n,va,vl,vc,hok,rfl,hvr⟩
 ·have HWY:=aa hwhy;clear hwhy;obtain⟨r0,r1,r2,r3,r4,r5,r6,r7,r8,r9,r10,r11,r12,r13,r14⟩:=dj Br.out;obtain⟨fr0,fr1,fr2,fr3,fr4,fr5,fr6,fr7,fr8,fr9,fr10,fr11,fr12,fr13,fr14,hrl,hkl,hn1,hn2⟩:=ru;go_wp2;exact bodyPost_ret (v:=.tuple #[.agg #[.int .i64 0,.int .i64 0,.string ⟨#[]⟩,.string ⟨#[]⟩,.int .i64 0,.int .i64 0,.int .i64 0,.bool false,.slice none 0 0,.slice none 0 0,.slice none 0 0,.slice none 0 0,.slice none 0 0,.slice none 0 0,.int .i64 0],.iface 208 (.pointer (some (E i)))]) (by simp[results,Tryz.results62,go_sem, *]) rfl ⟨xn (sb1 (sb1 (sb1 (sb1 (sb1 (sb1 (sb1 (sb1 (sb1 (sb1 (sb1 (sb1 (sb1 (sb1 (sb1 (HB.out)))))))))))))))) gW _,.inl ⟨i,hi8,HWY.out,rfl⟩⟩
 have HOK:=aa hok;have HVR:=aa hvr;clear hok hvr;go_wp2_with fail;obtain⟨W,hW0⟩:∃W,W=w1.alloc (.cells (nov n va vl vc) 56):=⟨_,rfl⟩;have BkW:=aa ((vS w1 (.cells (nov n va vl vc) 56) _ (ae Bk.out)).trans Bk.out);have BrW:=aa ((vS w1 (.cells (nov n va vl vc) 56) _ (ae Br.out)).trans Br.out);have BnW:=aa (heap_alloc_new w1 (.cells (nov n va vl vc) 56));have HBX:=aa (HB.trans ((ai w1 (.cells (nov n va vl vc) 56)).mono HB.size));rw[<-hW0] at BkW BrW BnW HBX ⊢;clear hW0 Bk Br HB;rename_i K0 hK0;refine Gu.ko an rfl rfl rfl an ?_;refine' Gu.Grow.stepC _ rfl ?_ ?_;rotate_left 1
 ·exact pB
 refine' Gu.Grow.stepC _ rfl ?_ ?_;rotate_left 1
 ·exact pC
 refine Gu.Grow.step (fun v _=>v=.agg #[.int .i64 n.u,.int .i64 c.now]) rfl (Fact.dz _) ?_ ?_
 ·refine Obl.plain rfl ?_;intro ac wg K hsz hW hf hK;clear hsz;have e18:=hf 18 ak;simp[aq,vH] at e18;have e19:=hf 19 ak;simp[aq,vH] at e19;clear hf;go_simp;refine (kf d c.now n va vl vc _).mono ?_;rintro e w6 ⟨rfl,hb6⟩;exact hK _ _ hb6 rfl
 refine' Gu.Grow.stepC _ rfl ?_ ?_;rotate_left 1
 ·exact pC
 refine' Gu.Grow.stepC _ rfl ?_ ?_;rotate_left 1
 ·exact pB
 refine' Gu.Grow.stepC _ rfl ?_ ?_;rotate_left 1
 ·refine Obl.plain rfl ?_;intro ac wg K hsz hW hf hK;clear hsz;have e20:=hf 20 ak;simp[aq,vH] at e20;have e21:=hf 21 ak;simp[aq,vH] at e21;have e22:=hf 22 ak;simp[aq,vH] at e22;clear hf;exact bT
 refine Gu.Grow.done ?_;intro q wz hW hf;simp only[wP] at hf;obtain⟨h23,h22,h21,h20,h19,h18,-⟩:=hf;have HWZ:=aa hW;have Br6:=upK BrW hW;clear hW;obtain⟨r0,r1,r2,r3,r4,r5,r6,r7,r8,r9,r10,r11,r12,r13,r14⟩:=dj Br6.out;have fr0:=ar Br6.out 0;have fr1:=ar Br6.out 1;have fr2:=ar Br6.out 2;have fr3:=ar Br6.out 3;have fr4:=ar Br6.out 4;have fr5:=ar Br6.out 5;have fr6:=ar Br6.out 6;have fr7:=ar Br6.out 7;have fr8:=ar Br6.out 8;have fr9:=ar Br6.out 9;have fr10:=ar Br6.out 10;have fr11:=ar Br6.out 11;have fr12:=ar Br6.out 12;have fr13:=ar Br6.out 13;have fr14:=ar Br6.out 14;have hrl:=ae Br6.out;intro K hK;rw[if_pos (by rfl)];simp only[aU,xD,Act.put,wq,wM,wT,h23,h22,h21,h20,h19,h18];go_simp;refine hK _ _ ?_;clear hK K;intro K hK;rw[if_pos (by rfl)];go_simp;refine hK _ _ ?_;refine hK0 _ _ ?_;clear hK hK0 K K0;go_wp2;exact bodyPost_ret (v:=.tuple #[.agg #[.int .i64 n.u,.int .i64 c.now,.string n.n,.string n.z,.int .i64 n.c,.int .i64 n.s,.int .i64 n.u,.bool n.d,.slice va vl vc,.slice d.a1 d.l1 d.c1,.slice d.a2 d.l2 d.c2,.slice d.a3 d.l3 d.c3,.slice d.a4 d.l4 d.c4,.slice d.a5 d.l5 d.c5,.int .i64 c.now],.nilIface]) (by simp[results,Tryz.results62,go_sem, *]) rfl ⟨sb1 (sb1 (sb1 (sb1 (sb1 (sb1 (sb1 (sb1 (sb1 (sb1 (sb1 (sb1 (sb1 (sb1 (sb1 (HBX.trans (HWZ.mono HBX.size)))))))))))))))),.inr ⟨n,va,vl,vc,HOK.out,rfl,HVR.out⟩⟩

theorem qD (d:Ad) (c:Cl) (t:ByteArray) (x:Bool) (E:Nat->Addr) (w0:World) (w:World) (hr0:aI w0 d c.raw) (hb0:Below w0.heap.size w0 w) (hG:Ers w E):
  Calls Tryz.prog 29 #[.agg #[.slice d.a1 d.l1 d.c1,.slice d.a2 d.l2 d.c2,.slice d.a3 d.l3 d.c3,.slice d.a4 d.l4 d.c4,.slice d.a5 d.l5 d.c5,.int .i64 c.now],.string t,.bool x] w (u_ c d t x E w0 w):=by
 have HR0:=aa hr0;have HB0:=aa hb0;obtain⟨HE,HB⟩:=gd;clear hr0 hb0 hG;go_enter Tryz.func29,Tryz.ntmps29;go_wp2_with fail;refine (nF d c t E w0 _ HR0.out (HB0.trans ((HB.trans ((aD _ _ _).mono HB.size)).mono HB0.size)) (HE.below (HB.trans ((aD _ _ _).mono HB.size)))).mono ?_;rintro e w1 ⟨hb,hf⟩;obtain⟨HA0,HA1,hbx⟩:=bN hb;have Bk:=aa HA0;have Br:=aa HA1;replace HB:=upB HB hbx;clear hb hbx HA0 HA1;rcases hf with ⟨i,hi8,hwhy,rfl⟩|⟨n,va,vl,vc,hok,rfl,hvr⟩
 ·have HWY:=aa hwhy;clear hwhy;obtain⟨r0,r1,r2,r3,r4,r5,r6,r7,r8,r9,r10,r11,r12,r13,r14⟩:=dj Br.out;obtain⟨fr0,fr1,fr2,fr3,fr4,fr5,fr6,fr7,fr8,fr9,fr10,fr11,fr12,fr13,fr14,hrl,hkl,hn1,hn2⟩:=ru;go_wp2;exact bodyPost_ret (v:=.tuple #[.agg #[.int .i64 0,.int .i64 0,.string ⟨#[]⟩,.string ⟨#[]⟩,.int .i64 0,.int .i64 0,.int .i64 0,.bool false,.slice none 0 0,.slice none 0 0,.slice none 0 0,.slice none 0 0,.slice none 0 0,.slice none 0 0,.int .i64 0],.iface 208 (.pointer (some (E i)))]) ou rfl ⟨xn (sb1 (sb1 (sb1 (sb1 (sb1 (sb1 (sb1 (sb1 (sb1 (sb1 (sb1 (sb1 (sb1 (sb1 (sb1 (HB.out)))))))))))))))) gW _,.inl ⟨i,hi8,HWY.out,rfl⟩⟩
 have HOK:=aa hok;have HVR:=aa hvr;clear hok hvr;have ev:=(HE.below HB.out).v8;have evl:=bn ev;by_cases hd:n.d=x;rotate_left
 ·have HD:=aa hd;have hdb:(n.d==x)=false:=by simpa using hd
  clear hd;obtain⟨r0,r1,r2,r3,r4,r5,r6,r7,r8,r9,r10,r11,r12,r13,r14⟩:=dj Br.out;obtain⟨fr0,fr1,fr2,fr3,fr4,fr5,fr6,fr7,fr8,fr9,fr10,fr11,fr12,fr13,fr14,hrl,hkl,hn1,hn2⟩:=ru;go_wp2;exact bodyPost_ret (v:=.tuple #[.agg #[.int .i64 n.u,.int .i64 c.now,.string n.n,.string n.z,.int .i64 n.c,.int .i64 n.s,.int .i64 n.u,.bool n.d,.slice va vl vc,.slice d.a1 d.l1 d.c1,.slice d.a2 d.l2 d.c2,.slice d.a3 d.l3 d.c3,.slice d.a4 d.l4 d.c4,.slice d.a5 d.l5 d.c5,.int .i64 c.now],.iface 208 (.pointer (some (E 8)))]) ou rfl ⟨xn (sb1 (sb1 (sb1 (sb1 (sb1 (sb1 (sb1 (sb1 (sb1 (sb1 (sb1 (sb1 (sb1 (sb1 (sb1 (HB.out)))))))))))))))) gW _,.inr ⟨n,va,vl,vc,HOK.out,.inl ⟨HD.out,rfl⟩⟩⟩
 have HD:=aa hd;have hdb:(n.d==x)=true:=by simpa using hd
 clear hd;obtain⟨r0,r1,r2,r3,r4,r5,r6,r7,r8,r9,r10,r11,r12,r13,r14⟩:=dj Br.out;obtain⟨fr0,fr1,fr2,fr3,fr4,fr5,fr6,fr7,fr8,fr9,fr10,fr11,fr12,fr13,fr14,hrl,hkl,hn1,hn2⟩:=ru;go_wp2;exact bodyPost_ret (v:=.tuple #[.agg #[.int .i64 n.u,.int .i64 c.now,.string n.n,.string n.z,.int .i64 n.c,.int .i64 n.s,.int .i64 n.u,.bool n.d,.slice va vl vc,.slice d.a1 d.l1 d.c1,.slice d.a2 d.l2 d.c2,.slice d.a3 d.l3 d.c3,.slice d.a4 d.l4 d.c4,.slice d.a5 d.l5 d.c5,.int .i64 c.now],.nilIface]) ou rfl ⟨xn (sb1 (sb1 (sb1 (sb1 (sb1 (sb1 (sb1 (sb1 (sb1 (sb1 (sb1 (sb1 (sb1 (sb1 (sb1 (HB.out)))))))))))))))) gW _,.inr ⟨n,va,vl,vc,HOK.out,.inr ⟨HD.out,rfl,HVR.out⟩⟩⟩

theorem qM (d:Ad) (c:Cl) (n:Nd) (ma:Option Addr) (ml mc:Nat) (u0 now0:Int) (f:Pd->Int) (w:World) (hr:aI w d c.raw) (hs:Sm c) (hx:av w ma ml mc n.zs) (hvl:ml<=8001) (z0:n.n.size<=9223372036854775807) (z1:n.z.size<=9223372036854775807) (hf:∀(k:Nat) (p:Pd) (pa:Option Addr) (pq pc:Nat) (W:World),c.ps[k]?=some p->p.d=n.n->Below w.heap.size w W->av W pa pq pc p.zs->Calls Tryz.prog 68 #[.agg #[.int .i64 u0,.int .i64 now0,.string n.n,.string n.z,.int .i64 n.c,.int .i64 n.s,.int .i64 n.u,.bool n.d,.slice ma ml mc,.slice d.a1 d.l1 d.c1,.slice d.a2 d.l2 d.c2,.slice d.a3 d.l3 d.c3,.slice d.a4 d.l4 d.c4,.slice d.a5 d.l5 d.c5,.int .i64 c.now],.agg #[.string p.n,.int .i64 p.c,.string p.z,.slice pa pq pc,.string p.d,.int .i64 p.p]] W fun e W'=>e=.returned (.int .i64 (f p))/\Below W.heap.size W W'):
  Calls Tryz.prog 33 #[.agg #[.int .i64 u0,.int .i64 now0,.string n.n,.string n.z,.int .i64 n.c,.int .i64 n.s,.int .i64 n.u,.bool n.d,.slice ma ml mc,.slice d.a1 d.l1 d.c1,.slice d.a2 d.l2 d.c2,.slice d.a3 d.l3 d.c3,.slice d.a4 d.l4 d.c4,.slice d.a5 d.l5 d.c5,.int .i64 c.now]] w fun e w'=> ∃d',e=.returned (.agg #[.slice d'.a1 d'.l1 d'.c1,.slice d'.a2 d'.l2 d'.c2,.slice d'.a3 d'.l3 d'.c3,.slice d'.a4 d'.l4 d'.c4,.slice d'.a5 d'.l5 d'.c5,.int .i64 c.now])/\bF w' d' (phC (nx c n) n.n f).raw (fun k=>w.heap.size<=k)/\Below w.heap.size w w':=by
 have HR:=aa hr;have HX:=aa hx;have HF:=aa hf;have HB:=aa (vG w.heap.size w);clear hr hx hf;go_enter Tryz.func33,Tryz.ntmps33;go_wp2_with fail;refine (qK d c n ma ml mc u0 now0 _ (HR.below (HB.trans ((aD _ _ _).mono HB.size))) hs (HX.below (HB.trans ((aD _ _ _).mono HB.size))) hvl z0 z1).mono ?_;rintro e w1 ⟨d',rfl,ho,hb⟩;have HQ2:=aa hb.size;simp only[ct] at HQ2 ho;obtain⟨HA0,HA1,hbx⟩:=bN hb;have Bg:=aa HA0;have Br:=aa HA1;replace HB:=upB HB hbx;clear hb hbx HA0 HA1;obtain⟨P,hP⟩:=ho;obtain⟨x1,m1,n1,x2,m2,n2,x3,m3,n3,x4,m4,n4,x5,m5,n5⟩:=d';have HP:=aa hP;have hq2:w.heap.size+1+1<=w1.heap.size:=HQ2.out;have hpl:c.ps.length=m5:=by have h6:(c.ps.map pdF).length=m5:=hP.p.1;rw[wj] at h6;exact h6
 have hlm:m5<=9223372036854775807:=vI hP.p.2.1 hP.p.2.2.1;clear hP;have HO0:Hid (au (w1.alloc (.cells (clo6 x1 m1 n1 x2 m2 n2 x3 m3 n3 x4 m4 n4 x5 m5 n5 c.now) 36)) x5 m5 n5 6 107 ((mpL (phF n.n f) c.ps 0).map pdF) (fun k=>(w.heap.size+1+1<=k/\P k=5)/\k<w1.heap.size)):=by
  show au _ _ _ _ _ _ _ _;rw[j7];exact (HP.p.cX (S':=(fun k=>(w.heap.size+1+1<=k/\P k=5)/\k<w1.heap.size)) (fun k hk s=>⟨s,hk⟩)).below (ai w1 (.cells (clo6 x1 m1 n1 x2 m2 n2 x3 m3 n3 x4 m4 n4 x5 m5 n5 c.now) 36))
 have hnb:∀k,¬((w.heap.size+1+1<=k/\P k=5)/\k<w1.heap.size)->¬(0<m5/\x5=some ⟨k,0,none⟩):=fun k h1 h2=>by
  rcases HP.p.2.2.2 with h9|⟨g9,c9,H9,e9,h9⟩
  ·have h8:=HP.p.1;have h7:=h2.1;rw[h9] at h8;simp at h8;omega
  ·have h7:=h2.2;rw[show x5=some ⟨g9,0,none⟩ from e9] at h7;cases h7;exact h1 ⟨h9.inS,ae h9.blk⟩
 have HNB:=aa hnb;have HBV:=aa (HB.trans ((ai w1 (.cells (clo6 x1 m1 n1 x2 m2 n2 x3 m3 n3 x4 m4 n4 x5 m5 n5 c.now) 36)).mono HB.size));have BgV:=aa ((vS w1 (.cells (clo6 x1 m1 n1 x2 m2 n2 x3 m3 n3 x4 m4 n4 x5 m5 n5 c.now) 36) _ (ae Bg.out)).trans Bg.out);have BrV:=aa ((vS w1 (.cells (clo6 x1 m1 n1 x2 m2 n2 x3 m3 n3 x4 m4 n4 x5 m5 n5 c.now) 36) _ (ae Br.out)).trans Br.out);have BoV:=aa (heap_alloc_new w1 (.cells (clo6 x1 m1 n1 x2 m2 n2 x3 m3 n3 x4 m4 n4 x5 m5 n5 c.now) 36));clear hnb;go_wp2;obtain⟨V,hV⟩:∃V,V=(w1.alloc (.cells (clo6 x1 m1 n1 x2 m2 n2 x3 m3 n3 x4 m4 n4 x5 m5 n5 c.now) 36)):=⟨_,rfl⟩;have hvs:V.heap.size=w1.heap.size+1:=by rw[hV];exact ct _ _
 rw[<-hV] at HO0 HBV BgV BrV BoV ⊢;have HVE:=aa hV;clear hV Bg Br;go_loopw [11] (fun vi wr=> ∃k:Nat,k<=m5/\vi=.int .i64 k/\Hid (au wr x5 m5 n5 6 107 ((mpL (phF n.n f) c.ps k).map pdF) (fun k=>(w.heap.size+1+1<=k/\P k=5)/\k<w1.heap.size))/\Hid (az (fun k=>0<m5/\x5=some ⟨k,0,none⟩) V wr)) (fun vi _=>m5 - (intOf vi).toNat);case atStart=>exact⟨0,by omega,rfl,HO0,az.refl _ _⟩
 case round=>
  obtain⟨k,hk,rfl,HO,HK⟩:=hrel;clear HO0;have hks:=HK.size;have Bg:=aa ((HK.block _ (ae BgV.out) (HNB.out _ (fun h=>by have:=h.1.1;omega))).trans BgV.out);have Br:=aa ((HK.block _ (ae BrV.out) (HNB.out _ (fun h=>by have:=h.1.1;omega))).trans BrV.out);have Bo:=aa ((HK.block _ (ae BoV.out) (HNB.out _ (fun h=>by have:=h.2;omega))).trans BoV.out);have HB:=aa (HBV.trans (HK.low (X:=w.heap.size) HBV.size (fun k s=>Classical.byContradiction fun hk=>HNB.out k (fun h=>by have:=h.1.1;omega) s)));clear BgV BrV BoV;by_cases hlt:k<m5
  ·obtain⟨x,hx0⟩:∃x,c.ps[k]?=some x:=⟨_,vF af⟩;have HX0:=aa hx0;have hLk:((mpL (phF n.n f) c.ps k).map pdF)[k]?=some (pdF x):=by rw[vL,gw af,hx0];rfl
   obtain⟨g,hg,hS2⟩:=HO.st (az.refl (fun k=>(w.heap.size+1+1<=k/\P k=5)/\k<w1.heap.size) wr) hLk;subst hg;obtain⟨b2,o2,x2',hae,hbl,hx2,hat⟩:=bB HO.row hlt;cases hae;rw[gw af,hx0] at hx2;obtain rfl:=vC hx2;obtain⟨pa,pq,pc,hpr,-,-,-,c0,c1,c2,c3,c4,c5⟩:=aL hat;have HPR:=aa hpr;have hgS:(w.heap.size+1+1<=g/\P g=5)/\g<w1.heap.size:=by obtain⟨⟨cur,H,h1,_⟩,_⟩:=hS2;exact h1.inS
   obtain⟨⟨hg1,hg3⟩,hg2⟩:=hgS;rw[we] at c0 c1 c2 c3 c4 c5;have HC5:=aa c5;have HFR:=aa (hS2.bW (k*6+5));have hk1:(k:Int)<m5:=af
   have hk0:¬(k:Int)<0:=af
   clear hat hx2 hx0 hS2 hLk hpr;have hol:=ae Bo.out;have hgl:=ae Bg.out;obtain⟨g0,g1,g2,g3,g4,g5,g6,g7,g8,g9,g10,g11,g12,g13,g14⟩:=dj Bg.out;by_cases he:x.d=n.n
   ·have HHE:=aa he;have hq:=aP he;clear he;go_wp2_with fail;obtain⟨W,hW0⟩:∃W,W=wr.alloc (.cells (pov x pa pq pc) 107):=⟨_,rfl⟩;have BgW:=aa ((vS wr (.cells (pov x pa pq pc) 107) _ (ae Bg.out)).trans Bg.out);have BoW:=aa ((vS wr (.cells (pov x pa pq pc) 107) _ (ae Bo.out)).trans Bo.out);have BpW:=aa (heap_alloc_new wr (.cells (pov x pa pq pc) 107));have HBW:=aa (ai wr (.cells (pov x pa pq pc) 107));rw[<-hW0] at BgW BoW BpW HBW ⊢;clear hW0 c0 c1 c2 c3 c4 c5 g0 g1 g2 g3 g4 g5 g6 g7 g8 g9 g10 g11 g12 g13 g14;rename_i K0 hK0;refine Gt.bg an rfl rfl an ?_;refine' Grow.stepC _ rfl ?_ ?_;rotate_left 1
    ·exact kO
    refine' Grow.stepC _ rfl ?_ ?_;rotate_left 1
    ·refine Obl.plain rfl ?_;intro ac wg K hsz hW hf hK;clear hsz;have e22:=hf 22 ak;simp[aq,vH] at e22;exact o7
    refine' Grow.stepC _ rfl ?_ ?_;rotate_left 1
    ·refine Obl.plain rfl ?_;intro ac wg K hsz hW hf hK;clear hsz;have e4:=hf 4 ak;simp[aq,vH] at e4;clear hf;exact bT
    refine' Grow.stepC _ rfl ?_ ?_;rotate_left 1
    ·refine Obl.plain rfl ?_;intro ac wg K hsz hW hf hK;clear hsz;have e1:=hf 1 ak;simp[aq,vH] at e1;clear hf;obtain⟨g0,g1,g2,g3,g4,g5,g6,g7,g8,g9,g10,g11,g12,g13,g14⟩:=dj ((hW.block _ (ae BgW.out)).trans BgW.out);exact bT
    refine' Grow.stepC _ rfl ?_ ?_;rotate_left 1
    ·refine Obl.plain rfl ?_;intro ac wg K hsz hW hf hK;clear hsz;have e5:=hf 5 ak;simp[aq,vH] at e5;clear hf;obtain⟨p0,p1,p2,p3,p4,p5⟩:=cs6 ((hW.block _ (ae BpW.out)).trans BpW.out);exact bT
    refine Grow.step (fun v _=>v=.int .i64 (f x)) rfl (Fact.dz _) ?_ ?_
    ·refine Obl.plain rfl ?_;intro ac wg K hsz hW hf hK;clear hsz;have e25:=hf 25 ak;simp[aq,vH] at e25;have e26:=hf 26 ak;simp[aq,vH] at e26;clear hf;go_simp;refine (HF.out k x pa pq pc _ HX0.out HHE.out (HB.trans ((HBW.trans (hW.mono HBW.size)).mono HB.size)) (HPR.below (HBW.trans (hW.mono HBW.size)))).mono ?_;rintro e w6 ⟨rfl,hb6⟩;exact hK _ _ hb6 rfl
    refine' Grow.stepC _ rfl ?_ ?_;rotate_left 1
    ·refine Obl.plain rfl ?_;intro ac wg K hsz hW hf hK;clear hsz;have e23:=hf 23 ak;simp[aq,vH] at e23;have e24:=hf 24 ak;simp[aq,vH] at e24;clear hf;exact bT
    refine' Grow.stepC _ rfl ?_ ?_;rotate_left 1
    ·refine Obl.plain rfl ?_;intro ac wg K hsz hW hf hK;clear hsz;have e28:=hf 28 ak;simp[aq,vH] at e28;clear hf;exact bT
    refine Grow.done ?_;intro q wz hW hf;simp only[wP] at hf;obtain⟨h29,h28,h27,h26,h25,h24,h23,h22,-⟩:=hf;have HWZ:=upB HBW hW;have hfz:wz.frozen? ⟨g,k*6+5,none⟩=false:=by
     have h8:=HFR.out;simp only[World.frozen?,HWZ.block g af] at h8 ⊢;exact h8
    have hcz:wz.cell? ⟨g,k*6+5,none⟩=some (.int .i64 x.p):=(aj HWZ.out af).trans HC5.out;intro K hK;rw[if_pos (by rfl)];simp only[aU,xD,Act.put,wq,wM,wT,h29,h28,h27,h26,h25,h24,h23,h22];simp only[xF];go_simp;refine hK _ _ ?_;refine hK0 _ _ ?_;clear hK hK0 K K0;clear hfz hcz;have HR2:=aa (au.ui HO.out HWZ.out HX0.out (iu (f:=f) HHE.out));have HK2:=aa ((HK.below HWZ.out).set (g:=g) (i:=k*6+5) (v:=.int .i64 (f x)) ⟨by omega,rfl⟩);go_wp2;exact⟨⟨k+1,by omega,by go_num,HR2,HK2⟩,by simp[intOf];omega⟩
   have HHE:=aa he;have hq:=bk he;clear he;go_wp2;refine⟨⟨k+1,by omega,by go_num,?_,HK.below (ai wr (.cells (pov x pa pq pc) 107))⟩,by simp[intOf];omega⟩;show au _ _ _ _ _ _ _ _;rw[j8 HX0.out (qi HHE.out)];exact HO.below (ai wr (.cells (pov x pa pq pc) 107))
  have hk1:¬(k:Int)<m5:=af
  have HO2:=HO;rw[mO af] at HO2;obtain⟨r0,r1,r2,r3,r4,r5⟩:=cs6 Br;obtain⟨fr0,fr1,fr2,fr3,fr4,fr5⟩:=eK;obtain⟨o0,o1,o2,o3,o4,o5⟩:=cs6 Bo;have hrl:=ae Br.out;have hol:=ae Bo.out;have hne:¬w.heap.size+1=w1.heap.size:=af
  have hne2:¬w1.heap.size=w.heap.size+1:=af
  go_wp2;refine bodyPost_ret (v:=.agg #[.slice x1 m1 n1,.slice x2 m2 n2,.slice x3 m3 n3,.slice x4 m4 n4,.slice x5 m5 n5,.int .i64 c.now]) (by simp[results,Tryz.results33,go_sem, *]) rfl ⟨⟨x1,m1,n1,x2,m2,n2,x3,m3,n3,x4,m4,n4,x5,m5,n5⟩,rfl,?_,sb1 (sb1 (sb1 (sb1 (sb1 (sb1 (HB.out))))))⟩;have h9:=HP.uu (w3:=wr) (w4:=((((((wr.setCell ⟨w.heap.size+1,0,none⟩ (.slice x1 m1 n1)).setCell ⟨w.heap.size+1,1,none⟩ (.slice x2 m2 n2)).setCell ⟨w.heap.size+1,2,none⟩ (.slice x3 m3 n3)).setCell ⟨w.heap.size+1,3,none⟩ (.slice x4 m4 n4)).setCell ⟨w.heap.size+1,4,none⟩ (.slice x5 m5 n5)).setCell ⟨w.heap.size+1,5,none⟩ (.int .i64 c.now))) HO2.out (fun k h1 h2=>(HK.block k af (HNB.out k (fun h=>h2 h.1.2))).trans (by rw[HVE.out];exact vS _ _ _ h1)) (fun k h1 h2=>by rw[vB _ _ _ _ (show k≠w.heap.size+1 by omega),vB _ _ _ _ (show k≠w.heap.size+1 by omega),vB _ _ _ _ (show k≠w.heap.size+1 by omega),vB _ _ _ _ (show k≠w.heap.size+1 by omega),vB _ _ _ _ (show k≠w.heap.size+1 by omega),vB _ _ _ _ (show k≠w.heap.size+1 by omega)]);exact h9.cX (fun k _ s=>by have s1:w.heap.size+1+1<=k:=s;show w.heap.size<=k;omega)

theorem gG (d:Ad) (c:Cl) (t:ByteArray) (E:Nat->Addr) (w:World) (hr:aI w d c.raw) (hG:Ers w E):
  Calls Tryz.prog 7 #[.agg #[.slice d.a1 d.l1 d.c1,.slice d.a2 d.l2 d.c2,.slice d.a3 d.l3 d.c3,.slice d.a4 d.l4 d.c4,.slice d.a5 d.l5 d.c5,.int .i64 c.now],.string t] w (vh (fh c t) w):=by
 have HR:=aa hr;obtain⟨HE,HB⟩:=gd;clear hr hG;go_enter Tryz.func7,Tryz.ntmps7;go_wp2_with fail;refine (qD d c t false E w _ HR.out (HB.trans ((aD _ _ _).mono HB.size)) (HE.below (HB.trans ((aD _ _ _).mono HB.size)))).mono ?_;rintro e w1 ⟨hb,hf⟩;obtain⟨HA0,HA1,hbx⟩:=bN hb;have Bk:=aa HA0;have Br:=aa HA1;replace HB:=upB HB hbx;clear hb hbx HA0 HA1;rcases hf with ⟨i,hi8,hwhy,rfl⟩|⟨n,va,vl,vc,hok,hf⟩
 ·obtain⟨k0,k1,k2,k3,k4,k5⟩:=cs6 Bk;have ltk_1:=ae Bk.out;have HV:Hid (fh c t (co0 (dk i))):=.inl ⟨i,hwhy,rfl⟩;obtain⟨cc,hcc⟩:∃cc,cc=dk i:=⟨_,rfl⟩;rw[<-hcc] at HV;clear hwhy;go_wp2_with fail;refine (fE E i cc hcc _ (HE.below (HB.trans ((ai _ _).mono HB.size))) (by first|decide|omega)).mono ?_;exact tu
 have HOK:=aa hok;clear hok;have HT:Hid (bq c):=HOK.2.1;have HQ1:Hid (w.heap.size+1<w1.heap.size):=ae Br.out;rcases hf with ⟨hd,rfl⟩|⟨hd,rfl,hvr⟩
 ·have hd2:n.d=true:=by cases h:n.d <;> simp_all
  obtain⟨k0,k1,k2,k3,k4,k5⟩:=cs6 Bk;have ltk_1:=ae Bk.out;have HV:Hid (fh c t (co0 (dk 8))):=.inr ⟨n,HOK.out,.inl ⟨hd2,rfl⟩⟩;obtain⟨cc,hcc⟩:∃cc,cc=dk 8:=⟨_,rfl⟩;rw[<-hcc] at HV;clear hd hd2;go_wp2_with fail;refine (fE E 8 cc hcc _ (HE.below (HB.trans ((ai _ _).mono HB.size))) (by first|decide|omega)).mono ?_;exact tu
 have HD:=aa hd;have HVR:=aa hvr;obtain⟨f,hf⟩:=ki.ex c n;have HF:=aa hf;have HV:Hid (fh c t ⟨db c t n f,⟨#[]⟩,0⟩):=.inr ⟨n,HOK.out,.inr ⟨hd,f,hf,rfl⟩⟩;have hno:=HT.2.1.1.2.1 _ n HOK.2.2.1;have z0:n.n.size<=9223372036854775807:=by have h1:=hno.1.2.1;omega
 have z1:n.z.size<=9223372036854775807:=by have h1:=hno.2.1.2.1;omega
 have hnow:=HT.1;obtain⟨hn0,hn1⟩:=hnow;rw[hd];clear hno hd hvr hf;have hq1:=HQ1.out;have hv8:c.vs.length<=8:=by have:=HT.2.1.2.2.1.1;omega
 have hsv:(w1.alloc (.cells #[.int .i64 n.u,.int .i64 c.now,.string n.n,.string n.z,.int .i64 n.c,.int .i64 n.s,.int .i64 n.u,.bool false,.slice va vl vc,.slice d.a1 d.l1 d.c1,.slice d.a2 d.l2 d.c2,.slice d.a3 d.l3 d.c3,.slice d.a4 d.l4 d.c4,.slice d.a5 d.l5 d.c5,.int .i64 c.now] 70)).heap.size=w1.heap.size+1:=ct _ _;have HKG:Hid ((w1.alloc (.cells #[.int .i64 n.u,.int .i64 c.now,.string n.n,.string n.z,.int .i64 n.c,.int .i64 n.s,.int .i64 n.u,.bool false,.slice va vl vc,.slice d.a1 d.l1 d.c1,.slice d.a2 d.l2 d.c2,.slice d.a3 d.l3 d.c3,.slice d.a4 d.l4 d.c4,.slice d.a5 d.l5 d.c5,.int .i64 c.now] 70)).heap[w1.heap.size]?=some (.cells #[.int .i64 n.u,.int .i64 c.now,.string n.n,.string n.z,.int .i64 n.c,.int .i64 n.s,.int .i64 n.u,.bool false,.slice va vl vc,.slice d.a1 d.l1 d.c1,.slice d.a2 d.l2 d.c2,.slice d.a3 d.l3 d.c3,.slice d.a4 d.l4 d.c4,.slice d.a5 d.l5 d.c5,.int .i64 c.now] 70 (0,0))):=heap_alloc_new w1 (.cells #[.int .i64 n.u,.int .i64 c.now,.string n.n,.string n.z,.int .i64 n.c,.int .i64 n.s,.int .i64 n.u,.bool false,.slice va vl vc,.slice d.a1 d.l1 d.c1,.slice d.a2 d.l2 d.c2,.slice d.a3 d.l3 d.c3,.slice d.a4 d.l4 d.c4,.slice d.a5 d.l5 d.c5,.int .i64 c.now] 70);have HKR:Hid ((w1.alloc (.cells #[.int .i64 n.u,.int .i64 c.now,.string n.n,.string n.z,.int .i64 n.c,.int .i64 n.s,.int .i64 n.u,.bool false,.slice va vl vc,.slice d.a1 d.l1 d.c1,.slice d.a2 d.l2 d.c2,.slice d.a3 d.l3 d.c3,.slice d.a4 d.l4 d.c4,.slice d.a5 d.l5 d.c5,.int .i64 c.now] 70)).heap[w.heap.size+1]?=some (.cells #[.slice none 0 0,.slice none 0 0,.slice none 0 0,.slice none 0 0,.slice none 0 0,.int .i64 0,.string ⟨#[]⟩,.int .i64 0] 38 (0,0))):=(vS w1 (.cells #[.int .i64 n.u,.int .i64 c.now,.string n.n,.string n.z,.int .i64 n.c,.int .i64 n.s,.int .i64 n.u,.bool false,.slice va vl vc,.slice d.a1 d.l1 d.c1,.slice d.a2 d.l2 d.c2,.slice d.a3 d.l3 d.c3,.slice d.a4 d.l4 d.c4,.slice d.a5 d.l5 d.c5,.int .i64 c.now] 70) _ (ae Br.out)).trans Br.out;have HBV:=aa (HB.trans ((ai w1 (.cells #[.int .i64 n.u,.int .i64 c.now,.string n.n,.string n.z,.int .i64 n.c,.int .i64 n.s,.int .i64 n.u,.bool false,.slice va vl vc,.slice d.a1 d.l1 d.c1,.slice d.a2 d.l2 d.c2,.slice d.a3 d.l3 d.c3,.slice d.a4 d.l4 d.c4,.slice d.a5 d.l5 d.c5,.int .i64 c.now] 70)).mono HB.size));obtain⟨V,hV⟩:∃V,V=(w1.alloc (.cells #[.int .i64 n.u,.int .i64 c.now,.string n.n,.string n.z,.int .i64 n.c,.int .i64 n.s,.int .i64 n.u,.bool false,.slice va vl vc,.slice d.a1 d.l1 d.c1,.slice d.a2 d.l2 d.c2,.slice d.a3 d.l3 d.c3,.slice d.a4 d.l4 d.c4,.slice d.a5 d.l5 d.c5,.int .i64 c.now] 70)):=⟨_,rfl⟩;rw[<-hV] at HKG HKR HBV hsv;have hc1:∀W,Below V.heap.size V W->Calls Tryz.prog 31 #[.agg #[.int .i64 n.u,.int .i64 c.now,.string n.n,.string n.z,.int .i64 n.c,.int .i64 n.s,.int .i64 n.u,.bool false,.slice va vl vc,.slice d.a1 d.l1 d.c1,.slice d.a2 d.l2 d.c2,.slice d.a3 d.l3 d.c3,.slice d.a4 d.l4 d.c4,.slice d.a5 d.l5 d.c5,.int .i64 c.now]] W fun e W2=> ∃sa sl sq,e=.returned (.slice sa sl sq)/\Hid (bE W2 sa sl sq (fw c n) (fun k=>w1.heap.size+1<=k))/\Hid (Below V.heap.size V W2)/\Hid (W2.heap[w1.heap.size]?=some (.cells #[.int .i64 n.u,.int .i64 c.now,.string n.n,.string n.z,.int .i64 n.c,.int .i64 n.s,.int .i64 n.u,.bool false,.slice va vl vc,.slice d.a1 d.l1 d.c1,.slice d.a2 d.l2 d.c2,.slice d.a3 d.l3 d.c3,.slice d.a4 d.l4 d.c4,.slice d.a5 d.l5 d.c5,.int .i64 c.now] 70 (0,0)))/\Hid (W2.heap[w.heap.size+1]?=some (.cells #[.slice none 0 0,.slice none 0 0,.slice none 0 0,.slice none 0 0,.slice none 0 0,.int .i64 0,.string ⟨#[]⟩,.int .i64 0] 38 (0,0))):=fun W hb=>by
  have hg:=ly d c n.n n va vl vc n.u c.now (fw c n) W (HR.below (HBV.trans (hb.mono HBV.size))) hv8 (by unfold fw;by_cases h:c.now<n.u;exact .inl ⟨h,if_pos h⟩;exact .inr ⟨h,if_neg h⟩);rw[HD.out] at hg;refine hg.mono ?_;rintro e W2 ⟨sa,sl,sq,rfl,ho,hb2⟩;have hb3:=hb.trans (hb2.mono hb.size);exact⟨sa,sl,sq,rfl,ho.cX (fun k _ s=>by have s1:W.heap.size<=k:=s;have s2:=hb.size;show w1.heap.size+1<=k;omega),hb3,(hb3.block _ (ae HKG.out)).trans HKG.out,(hb3.block _ (ae HKR.out)).trans HKR.out⟩
 have hc2:∀W,Below V.heap.size V W->Calls Tryz.prog 32 #[.agg #[.int .i64 n.u,.int .i64 c.now]] W fun e W3=>e=.returned (.int .i64 (bs c))/\Hid (Below W.heap.size W W3)/\Hid (W3.heap[w1.heap.size]?=some (.cells #[.int .i64 n.u,.int .i64 c.now,.string n.n,.string n.z,.int .i64 n.c,.int .i64 n.s,.int .i64 n.u,.bool false,.slice va vl vc,.slice d.a1 d.l1 d.c1,.slice d.a2 d.l2 d.c2,.slice d.a3 d.l3 d.c3,.slice d.a4 d.l4 d.c4,.slice d.a5 d.l5 d.c5,.int .i64 c.now] 70 (0,0)))/\Hid (W3.heap[w.heap.size+1]?=some (.cells #[.slice none 0 0,.slice none 0 0,.slice none 0 0,.slice none 0 0,.slice none 0 0,.int .i64 0,.string ⟨#[]⟩,.int .i64 0] 38 (0,0))):=fun W hb=>by
  refine (lB n.u c.now W hn0 hn1).mono ?_;rintro e W3 ⟨rfl,hb2⟩;have hb3:=hb.trans (hb2.mono hb.size);exact⟨rfl,hb2,(hb3.block _ (ae HKG.out)).trans HKG.out,(hb3.block _ (ae HKR.out)).trans HKR.out⟩
 have C1:=aa hc1;have C2:=aa hc2;clear hc1 hc2;have mixed:Tryz.prog.follows .mixedOrders=true:=an
 go_wp2_with fail;rw[<-hV];have HVE:=aa hV;clear hV;obtain⟨g0,g1,g2,g3,g4,g5,g6,g7,g8,g9,g10,g11,g12,g13,g14⟩:=dj HKG.out;have hgl:=ae HKG.out;go_cut [19] from 17 to 25 (fun s wx=>s=.pointer (some ⟨w1.heap.size,0,none⟩)/\Hid (∃sa sl sq,wx.heap[w1.heap.size]?=some (.cells #[.int .i64 n.u,.int .i64 c.now,.string n.n,.string n.z,.int .i64 n.c,.int .i64 n.s,.int .i64 (bs c),.bool false,.slice sa sl sq,.slice d.a1 d.l1 d.c1,.slice d.a2 d.l2 d.c2,.slice d.a3 d.l3 d.c3,.slice d.a4 d.l4 d.c4,.slice d.a5 d.l5 d.c5,.int .i64 c.now] 70 (0,0))/\bE wx sa sl sq (fw c n) (fun k=>w1.heap.size+1<=k)/\Below w.heap.size w wx/\Hid (wx.heap[w.heap.size+1]?=some (.cells #[.slice none 0 0,.slice none 0 0,.slice none 0 0,.slice none 0 0,.slice none 0 0,.int .i64 0,.string ⟨#[]⟩,.int .i64 0] 38 (0,0)))/\w1.heap.size+1<=wx.heap.size));case first=>
  go_region_with (first
   | (go_at_call 31;refine (C1.out _ (by first|exact vG _ _|exact Below.fM (vG _ _)|exact Below.fM (Below.fM (vG _ _)))).mono ?_;rintro e w2 ⟨sa,sl,sq,rfl,HO2,HB2,HG2,HR2⟩;obtain⟨a0,a1,a2,a3,a4,a5,a6,a7,a8,a9,a10,a11,a12,a13,a14⟩:=dj HG2.out)
   | (go_at_call 32;refine (C2.out w2 HB2.out).mono ?_;rintro e w3 ⟨rfl,HB3,HG3,HR3⟩;obtain⟨b0,b1,b2,b3,b4,b5,b6,b7,b8,b9,b10,b11,b12,b13,b14⟩:=dj HG3.out;have hgl3:=ae HG3.out;have fr6:=ar HG3.out 6;have fr8:=ar HG3.out 8))
  all_goals (
   go_wp2_with fail
   go_meet
   refine⟨rfl,sa,sl,sq,?_,?_,?_,?_,?_⟩
   ·exact aG (aG HG3.out _) _
   ·have ho3:=HO2.below HB3.out;exact ho3.aH (fun k hk s=>by have s1:w1.heap.size+1<=k:=s;rw[vB _ _ _ _ (show k≠w1.heap.size by omega),vB _ _ _ _ (show k≠w1.heap.size by omega)]) (fun _ _ s=>s)
   ·exact (ah (show w.heap.size<=w1.heap.size by omega) (ah (show w.heap.size<=w1.heap.size by omega) (HBV.trans ((HB2.trans (HB3.mono HB2.size)).mono HBV.size))))
   ·exact (vB _ _ _ _ (show w.heap.size+1≠w1.heap.size by omega)).trans ((vB _ _ _ _ (show w.heap.size+1≠w1.heap.size by omega)).trans HR3.out)
   ·have h1:=HB2.size;have h2:=HB3.size
    simp[wm]
    omega)
 case rest=>
  obtain⟨hs19,HRX⟩:=hcut;obtain⟨sa,sl,sq,hbg,hto,hbw,hkr,hsz⟩:=HRX.out;have Bg:=aa hbg;have HTO:=aa hto;have HBC:=aa hbw;clear HRX hbg hto hbw g0 g1 g2 g3 g4 g5 g6 g7 g8 g9 g10 g11 g12 g13 g14 C1 C2 HKG HKR;obtain⟨g0,g1,g2,g3,g4,g5,g6,g7,g8,g9,g10,g11,g12,g13,g14⟩:=dj Bg.out;have hgl2:=ae Bg.out;have hvl:sl<=8001:=by
   have h1:=HTO.row.1;have h2:(fw c n).length<=8:=by
    unfold fw;split
    ·have:=gz c n.n;omega
    ·simp
   omega
  go_wp2_with fail;clear g0 g1 g2 g3 g4 g5 g6 g7 g8 g9 g10 g11 g12 g13 g14;have hph:∀(k:Nat) (p:Pd) (pa:Option Addr) (pq pc:Nat) (W:World),c.ps[k]?=some p->p.d=n.n->Below wc.heap.size wc W->av W pa pq pc p.zs->Calls Tryz.prog 68 #[.agg #[.int .i64 n.u,.int .i64 c.now,.string n.n,.string n.z,.int .i64 n.c,.int .i64 n.s,.int .i64 (bs c),.bool false,.slice sa sl sq,.slice d.a1 d.l1 d.c1,.slice d.a2 d.l2 d.c2,.slice d.a3 d.l3 d.c3,.slice d.a4 d.l4 d.c4,.slice d.a5 d.l5 d.c5,.int .i64 c.now],.agg #[.string p.n,.int .i64 p.c,.string p.z,.slice pa pq pc,.string p.d,.int .i64 p.p]] W fun e W'=>e=.returned (.int .i64 (f p))/\Below W.heap.size W W':=fun k p pa pq pc W hk hpd hb hp=>by
   have hne:¬p.d=⟨#[]⟩:=by rw[hpd];exact aT.ne (HT.2.1.1.2.1 _ n HOK.2.2.1).1
   have hg:=qN d c (bA c n) sa sl sq n.u c.now p pa pq pc (f p) W (HR.below (HBC.trans (hb.mono HBC.size))) (HTO.row.below hb) hp HT.out HD.out (HT.vu hk hne) (HF.out p);have e:(bA c n).d=false:=HD.out;rw[e] at hg;exact hg
  have hg:=qM d c (bA c n) sa sl sq n.u c.now f wc (HR.below HBC.out) HT.sm HTO.row hvl z0 z1 (by have e:(bA c n).d=false:=HD.out;rw[e];exact hph);have e:(bA c n).d=false:=HD.out;rw[e] at hg;refine hg.mono ?_;clear hg hph e;rintro e w5 ⟨d',rfl,ho,hb⟩;rw[step_eq HOK.out] at ho;have HO:=aa ho;have Br5:=aa ((hb.block (w.heap.size+1) af).trans hkr.out);have HB5:=upB HBC hb;have hw1:w.heap.size<=w1.heap.size:=af
  clear hb ho hkr;obtain⟨r0,r1,r2,r3,r4,r5,r6,r7⟩:=cs8 Br5;have fr0:=ar Br5.out 0;have fr1:=ar Br5.out 1;have fr2:=ar Br5.out 2;have fr3:=ar Br5.out 3;have fr4:=ar Br5.out 4;have fr5:=ar Br5.out 5;have fr6:=ar Br5.out 6;have fr7:=ar Br5.out 7;have hrl:=ae Br5.out;go_wp2;refine bodyPost_ret (v:=.agg #[.slice d'.a1 d'.l1 d'.c1,.slice d'.a2 d'.l2 d'.c2,.slice d'.a3 d'.l3 d'.c3,.slice d'.a4 d'.l4 d'.c4,.slice d'.a5 d'.l5 d'.c5,.int .i64 c.now,.string ⟨#[]⟩,.int .i64 0]) (by simp[results,Tryz.results7,go_sem, *]) rfl ⟨d',⟨db c t n f,⟨#[]⟩,0⟩,rfl,HV.out,?_,sb1 (sb1 (sb1 (sb1 (sb1 (sb1 (sb1 (sb1 (HB5.out))))))))⟩;obtain⟨P,hP⟩:=HO.out;exact⟨P,hP.aH (w':=((((((((w5.setCell ⟨w.heap.size+1,0,none⟩ (.slice d'.a1 d'.l1 d'.c1)).setCell ⟨w.heap.size+1,1,none⟩ (.slice d'.a2 d'.l2 d'.c2)).setCell ⟨w.heap.size+1,2,none⟩ (.slice d'.a3 d'.l3 d'.c3)).setCell ⟨w.heap.size+1,3,none⟩ (.slice d'.a4 d'.l4 d'.c4)).setCell ⟨w.heap.size+1,4,none⟩ (.slice d'.a5 d'.l5 d'.c5)).setCell ⟨w.heap.size+1,5,none⟩ (.int .i64 c.now)).setCell ⟨w.heap.size+1,6,none⟩ (.string ⟨#[]⟩)).setCell ⟨w.heap.size+1,7,none⟩ (.int .i64 0))) (fun k hk s=>by have s1:wc.heap.size<=k:=s;rw[vB _ _ _ _ (show k≠w.heap.size+1 by omega),vB _ _ _ _ (show k≠w.heap.size+1 by omega),vB _ _ _ _ (show k≠w.heap.size+1 by omega),vB _ _ _ _ (show k≠w.heap.size+1 by omega),vB _ _ _ _ (show k≠w.heap.size+1 by omega),vB _ _ _ _ (show k≠w.heap.size+1 by omega),vB _ _ _ _ (show k≠w.heap.size+1 by omega),vB _ _ _ _ (show k≠w.heap.size+1 by omega)]) (fun k _ s=>by have s1:wc.heap.size<=k:=s;show w.heap.size<=k;omega)⟩

end Rc
end Go.Proofs.YtjgjhkkmlaacdaaGreatDoor

namespace Go.Proofs.YtjgjhkkmlaacdaaGreatDoor
open Go.RowKit
namespace Rc

section
variable {P:Program}
end

end Rc
end Go.Proofs.YtjgjhkkmlaacdaaGreatDoor

namespace Go.Proofs.YtjgjhkkmlaacdaaGreatDoor
open Go.RowKit
namespace Rc
open Mk

theorem loq {p:Prop} (h:p:=by first|omega|(obtain⟨s,_⟩:=s;omega)|(rcases s with s|s <;> omega)|(rcases s with (s|s)|s <;> omega)):p:=h
def UF (w:World) (g:Nat):Prop:=∃cs T,w.heap[g]?=some (.cells cs T (0,0))
def LoA (B:Nat) (w:World) (a:Option Addr) (len:Nat):Prop:=len=0\/∃b o,a=some ⟨b,o,none⟩/\B<=b/\UF w b
structure Low (B:Nat) (w:World) (d:Ad):Prop where
 n:LoA B w d.a1 d.l1
 k:LoA B w d.a2 d.l2
 v:LoA B w d.a3 d.l3
 x:LoA B w d.a4 d.l4
 p:LoA B w d.a5 d.l5
theorem lo0 (B:Nat) (w:World):Low B w ad0:=⟨.inl rfl,.inl rfl,.inl rfl,.inl rfl,.inl rfl⟩
theorem au.lo {w:World} {a:Option Addr} {len cap m:Nat} {T:TypeId} {rs:List (List Fv)} {S:Nat->Prop} (h:au w a len cap m T rs S) {B:Nat} (hS:∀k,S k->B<=k):LoA B w a len:=by
 obtain⟨h1,_,_,h4⟩:=h;rcases h4 with h4|⟨g,cur,H,h5,h6⟩
 ·subst h4;exact .inl h1.symm
 ·exact .inr ⟨g,0,h5,hS g h6.inS,_,_,h6.blk⟩
def RL (B:Nat) (w:World) (a:Option Addr) (len cap m:Nat) (rs:List (List Fv)):Prop:=aE w a len cap m rs/\LoA B w a len
theorem au.rl {w:World} {a:Option Addr} {len cap m:Nat} {T:TypeId} {rs:List (List Fv)} {S:Nat->Prop} {B:Nat} (h:au w a len cap m T rs S) (hS:∀k,S k->B<=k):RL B w a len cap m rs:=⟨h.row,h.lo hS⟩
structure lZ (B:Nat) (w:World) (d:Ad) (c:Cr):Prop where
 n:RL B w d.a1 d.l1 d.c1 7 c.n
 k:RL B w d.a2 d.l2 d.c2 4 c.k
 v:RL B w d.a3 d.l3 d.c3 8 c.v
 x:RL B w d.a4 d.l4 d.c4 5 c.x
 p:RL B w d.a5 d.l5 d.c5 6 c.p
theorem lZ.row {B:Nat} {w:World} {d:Ad} {c:Cr} (h:lZ B w d c):aI w d c:=⟨h.n.1,h.k.1,h.v.1,h.x.1,h.p.1⟩
theorem lZ.of {B:Nat} {w:World} {d:Ad} {c:Cr} (h:aI w d c) (l:Low B w d):lZ B w d c:=⟨⟨h.n,l.n⟩,⟨h.k,l.k⟩,⟨h.v,l.v⟩,⟨h.x,l.x⟩,⟨h.p,l.p⟩⟩
theorem rl0 (B:Nat) (w:World):lZ B w ad0 cl0.raw:=lZ.of (uv w (fun _=>True)).row (lo0 B w)
def ub (Is:Co->Prop) (w:World) (e:Ending) (w':World):Prop:=∃g o,e=.returned (.agg #[.slice g.a1 g.l1 g.c1,.slice g.a2 g.l2 g.c2,.slice g.a3 g.l3 g.c3,.slice g.a4 g.l4 g.c4,.slice g.a5 g.l5 g.c5,.int .i64 o.c.now,.string o.n,.int .i64 o.p])/\Is o/\lZ w.heap.size w' g o.c.raw/\Below w.heap.size w w'
theorem ub.s {Is:Co->Prop} {w:World} {e:Ending} {w':World} (h:ub Is w e w'):uH Is w e w':=by
 obtain⟨g,o,h1,h2,h3,h4⟩:=h;exact⟨g,o,h1,h2,h3.row,h4⟩

def vm (c:Cl) (t:ByteArray) (w:World) (e:Ending) (w':World):Prop:=Below w.heap.size w w'/\((∃i p,cE c t i/\p=dk i/\¬p=0/\e=.returned (.tuple #[.int .i64 0,.int .i64 p]))\/∃(j:Nat) (n:Nd),c.ns[j]?=some n/\c_ c t n/\e=.returned (.tuple #[.int .i64 j,.int .i64 0]))

theorem nu (d:Ad) (c:Cl) (t:ByteArray) (w:World) (hr:aI w d c.raw):
  Calls Tryz.prog 18 #[.agg #[.slice d.a1 d.l1 d.c1,.slice d.a2 d.l2 d.c2,.slice d.a3 d.l3 d.c3,.slice d.a4 d.l4 d.c4,.slice d.a5 d.l5 d.c5,.int .i64 c.now],.string t] w (vm c t w):=by
 obtain⟨HR,HB⟩:=eH;clear hr;go_enter Tryz.func18,Tryz.ntmps18;go_wp2_with fail;refine (oj d c t _ (HR.below (HB.trans ((ai _ _).mono HB.size)))).mono ?_;rintro e w1 ⟨p,rfl,hp,hb⟩;obtain⟨HA0,hbx⟩:=aJ hb;have Bk:=aa HA0;replace HB:=upB HB hbx;clear hb hbx HA0;have hp0:(¬p=0/\∃i,cE c t i/\p=dk i)\/(p=0/\¬8000<t.size/\bq c):=by
  rcases hp with ⟨h1,rfl⟩|⟨h1,h2,rfl⟩|⟨h1,h2,rfl⟩
  ·exact .inl ⟨by decide,0,h1,rfl⟩
  ·exact .inl ⟨by decide,1,⟨h1,h2⟩,rfl⟩
  ·exact .inr ⟨rfl,h1,h2⟩
 clear hp;rcases hp0 with ⟨hp0,i,hw,hpi⟩|⟨rfl,hl,hT⟩
 ·have HP:=aa (vA hw (vA hpi hp0));have hp1:(p==0)=false:=by simpa using hp0
  clear hw hpi hp0;obtain⟨k0,k1,k2,k3,k4,k5⟩:=cs6 Bk;have ltk_1:=ae Bk.out;go_wp2;exact bodyPost_ret (v:=.tuple #[.int .i64 0,.int .i64 p]) oq rfl ⟨HB.out,.inl ⟨i,p,HP.1,HP.2.1,HP.2.2,rfl⟩⟩
 have HT:=aa hT;clear hT;obtain⟨k0,k1,k2,k3,k4,k5⟩:=cs6 Bk;have ltk_1:=ae Bk.out;go_wp2_with fail;refine (eD d c.now c.ns t _ (HR.n.below HB.out)).mono ?_;rintro e w2 ⟨hb,hf⟩;clear k0 k1 k2 k3 k4 k5 ltk_1;replace Bk:=upK Bk hb;replace HB:=upB HB hb;clear hb;rcases hf with ⟨j,n,hn,hnn,rfl⟩|⟨hno,rfl⟩
 ·have hj0:¬(j:Int)<0:=af
  have HN:=aa (vA hn hnn);clear hn hnn;obtain⟨k0,k1,k2,k3,k4,k5⟩:=cs6 Bk;have ltk_2:=ae Bk.out;go_wp2;exact bodyPost_ret (v:=.tuple #[.int .i64 j,.int .i64 0]) oq rfl ⟨HB.out,.inr ⟨j,n,HN.1,⟨hl,HT.out,by rw[(cq HT.2.1.1.2.2 HN.1 HN.2).1];exact HN.1,HN.2⟩,rfl⟩⟩
 have HN:=aa hno;clear hno;obtain⟨k0,k1,k2,k3,k4,k5⟩:=cs6 Bk;have ltk_2:=ae Bk.out;go_wp2;exact bodyPost_ret (v:=.tuple #[.int .i64 0,.int .i64 6]) oq rfl ⟨HB.out,.inl ⟨2,6,⟨hl,HT.out,tX HN.out⟩,rfl,by decide,rfl⟩⟩

structure Qd where
 n:ByteArray
 d:ByteArray

def qdF (x:Qd):List Fv:=[.s x.n,.s x.d]
theorem gu {w:World} {b o:Nat} {x:Qd} (h:RAt w b o (qdF x)):x.n.size<=9223372036854775807/\x.d.size<=9223372036854775807/\w.cell? ⟨b,o,none⟩=some (.string x.n)/\w.cell? ⟨b,o+1,none⟩=some (.string x.d):=by
 obtain⟨v0,h0,rfl,z0⟩:=h 0 _ rfl;obtain⟨v1,h1,rfl,z1⟩:=h 1 _ rfl;exact⟨z0,z1,h0,h1⟩
theorem qf {w:World} {a:Option Addr} {len cap:Nat} {xs:List Qd} (h:aE w a len cap 2 (xs.map qdF)) {j:Nat} (hj:j<len):
  ∃b o x,a=some ⟨b,o,none⟩/\b<w.heap.size/\xs[j]?=some x/\RAt w b (o+j*2) (qdF x):=by
 exact gY

def cn (a b:Qd):Bool:=vM a.n.toList b.n.toList || ((a.n.toList==b.n.toList) && vM a.d.toList b.d.toList)
theorem fL {a b c:Qd} (h:cn a b=true) (k:cn b c=true):cn a c=true:=by
 unfold cn at h k ⊢;simp only[xk,vZ] at h k ⊢;rcases h with h|⟨h1,h2⟩
 ·rcases k with k|⟨k1,k2⟩
  ·exact .inl (cA _ _ _ h k)
  ·rw[<-cj k1];exact .inl h
 ·rw[cj h1];rcases k with k|⟨k1,k2⟩
  ·exact .inl k
  ·exact .inr ⟨k1,cA _ _ _ h2 k2⟩
theorem j_ {x t:ByteArray} (h:vM x.toList t.toList=false) (hn:¬x=t):vM t.toList x.toList=true:=by
 have h1:=eU x.toList t.toList;rw[h] at h1;have h2:(t.toList==x.toList)=false:=bk (fun e=>hn e.symm);rw[h2] at h1;simpa using h1
theorem nD {a b:Qd} (h:cn a b=false) (hn:¬a=b):cn b a=true:=by
 unfold cn at h ⊢;simp only[Bool.or_eq_false_iff,Bool.and_eq_false_iff] at h;simp only[xk,vZ];by_cases e:a.n=b.n
 ·refine .inr ⟨aP e.symm,?_⟩;have h2:vM a.d.toList b.d.toList=false:=h.2.resolve_left (fun h3=>by rw[aP e] at h3;cases h3);exact j_ h2 (fun e2=>hn (by obtain⟨a1,a2⟩:=a;obtain⟨b1,b2⟩:=b;cases e;cases e2;rfl))
 ·exact .inl (j_ h.1 e)
def RQ (zs:List Qd):Prop:=zs.Pairwise fun a b=>cn a b=true
def gJ (t:Qd) (zs zs':List Qd):Prop:=(t∈zs/\zs'=zs)\/∃k,k<=zs.length/\zs'=zs.take k++[t]++zs.drop k/\(∀(j:Nat) y,j<k->zs[j]?=some y->cn y t=true)/\∀y,zs[k]?=some y->cn t y=true
theorem gJ.mem {t:Qd} {zs zs':List Qd} (h:gJ t zs zs') (s:Qd):s∈zs'↔s∈zs\/s=t:=by
 rcases h with ⟨h,rfl⟩|⟨k,_,rfl,_,_⟩
 ·exact⟨.inl,fun h1=>h1.elim id (fun e=>e ▸ h)⟩
 ·have h1:s∈zs↔s∈zs.take k\/s∈zs.drop k:=by rw[<-List.mem_append,List.take_append_drop]
  rw[List.mem_append,List.mem_append,xv,h1];constructor
  ·rintro ((h|h)|h)
   ·exact .inl (.inl h)
   ·exact .inr h
   ·exact .inl (.inr h)
  ·rintro ((h|h)|h)
   ·exact .inl (.inl h)
   ·exact .inr h
   ·exact .inl (.inr h)
theorem gJ.len {t:Qd} {zs zs':List Qd} (h:gJ t zs zs'):zs'.length<=zs.length+1:=by
 rcases h with ⟨_,rfl⟩|⟨k,hk,rfl,_,_⟩
 ·omega
 ·simp only[wk,vX,wI,List.length_singleton];omega
theorem gJ.vx {t:Qd} {zs zs':List Qd} (h:gJ t zs zs') (hr:RQ zs):RQ zs':=by
 rcases h with ⟨_,rfl⟩|⟨k,hk,rfl,hlt,hgt⟩
 ·exact hr
 ·have h1:RQ (zs.take k++zs.drop k):=by rw[List.take_append_drop];exact hr
  obtain⟨h2,h3,h4⟩:=List.pairwise_append.1 h1;have h5:∀a∈zs.take k,cn a t=true:=fun a ha=>by
   obtain⟨j,hj⟩:=wR ha;rw[wb] at hj;split at hj
   ·next hjk=>exact hlt j a hjk hj
   ·cases hj
  have h6:∀a∈zs.drop k,cn t a=true:=fun a ha=>by
   cases hd:zs.drop k with
   | nil=>rw[hd] at ha;cases ha
   | cons b r=>
    have hb:zs[k]?=some b:=by rw[<-Nat.add_zero k,<-List.getElem?_drop,hd];rfl
    have h7:=hgt b hb;rw[hd] at ha h3
    rcases wH.1 ha with rfl|ha
    ·exact h7
    ·exact fL h7 ((List.pairwise_cons.1 h3).1 a ha)
  refine List.pairwise_append.2 ⟨List.pairwise_append.2 ⟨h2,List.pairwise_singleton _ _,fun a ha b hb=>?_⟩,h3,fun a ha b hb=>?_⟩
  ·rw[xv.1 hb];exact h5 a ha
  ·rcases List.mem_append.1 ha with ha|ha
   ·exact fL (h5 a ha) (h6 b hb)
   ·rw[xv.1 ha];exact h6 b hb

theorem fp {w:World} {base:Nat} {t ty e:TypeId} {i:TypeInfo} {size:Nat} (ht:Tryz.prog.underlying t=some (.slice e)) (hi:Tryz.prog.info? e=some i) {v:Value} {n:Nat} {xs:List Value} (hown:w.ownsRow base e size v n xs) (ax:Option Addr) (cx:Nat):
  (wV #[t,t] ty #[v,.slice ax 0 cx]).run Tryz.prog w=.ok v w:=by
 rcases hown.2 with ⟨rfl,rfl⟩|⟨g,cap,cur,rfl,_,_,hnc,_⟩
 ·cases ax <;> simp[wV,run_underlying ht,sizeOf,typeInfo,hi,Builtin.lenOf,xu,loadCells,loadCellsFrom]
 ·cases ax <;> simp[wV,run_underlying ht,sizeOf,typeInfo,hi,Builtin.lenOf,xu,hnc,storeCells,loadCells,loadCellsFrom]
theorem aQ {w:World} {ops:Array Oper} {rest:List Oper} {o:Oper} {a:Act} {Q:Exit->Act->World->Prop} (hgd:o.guard=none) (s x:Operand) (t:TypeId)
  (ho:o.op=.call { callee:=.builtin .append,args:=#[s,x],argTypes:=#[t,t] })
  (base:Nat) (e:TypeId) (i:TypeInfo) (z:Value) (size bytes:Nat) (ht:Tryz.prog.underlying t=some (.slice e)) (hi:Tryz.prog.info? e=some i) (hz:i.zero=some z)
  (hsize:i.size=size) (hby:i.bytes=bytes) (hzs:z.cells.size=size) (hsz:0<size)
  (v:Value) (n:Nat) (xs:List Value) (hs:a.eval s=v) (hown:w.ownsRow base e size v n xs)
  (ax:Option Addr) (l c:Nat) (news:List Value) (hx:a.eval x=.slice ax l c) (hl:news.length=l*size) (hnews:∀(j:Nat) u,news[j]?=some u->∃ad:Addr,ax=some ad/\w.cell? (ad.add j)=some u) (h1:∀u∈news,u.oneCell'=true)
  (h63:n+l<=maxLen) (hbytes:(n+l)*bytes<=140737488355328) (hbase:base<=w.heap.size)
  (h:∀v' w',w'.ownsRow base e size v' (n+l) (xs++news)->w.grownBy w' v.ownBlock->wpList Tryz.prog ops Q rest (a.put o.dst v') w'):wpList Tryz.prog ops Q (o ::rest) a w:=by
 rcases news with _|⟨u,news⟩
 ·have hl0:l=0:=by
   rcases Nat.eq_zero_or_pos l with e|e
   ·exact e
   ·have:=Nat.mul_pos e hsz;simp at hl;omega
  subst hl0;refine wpList_plain hgd fun K hK=>?_;have hr:=fp (ty:=o.type) ht hi hown ax c;unfold Oper.wp execOp;simp only[ho,resolve,invoke,builtin,Sem.run_bind,Sem.run_pure,Result.andThen_ok,List.map_toArray,List.map_cons,List.map_nil,hs,hx,hr];exact hK _ _ (h v w (by simpa using hown) (World.grownBy.refl _ _))
 ·obtain⟨ad,rfl,_⟩:=hnews 0 u rfl;exact ch hgd s x t t ho base e e i z size bytes ht ht hi hz hsize hby hzs hsz v n xs hs hown ad l c (u ::news) hx hl (fun j y hy=>by
   obtain⟨ad',e,h2⟩:=hnews j y hy
   cases e
   exact h2) h1 h63 hbytes hbase h

theorem tW:(Tryz.prog.info? 112).map (fun i=>(i.zero,i.size,i.bytes))=some (some (.agg #[.string ⟨#[]⟩,.string ⟨#[]⟩]),2,32):=by kernel_rfl
theorem kA (a b:Qd) (w:World):
  Calls Tryz.prog 106 #[.agg #[.string a.n,.string a.d],.agg #[.string b.n,.string b.d]] w fun e w'=>e=.returned (.bool (cn a b))/\Below w.heap.size w w':=by
 obtain⟨r,hr⟩:∃r,r=cn a b:=⟨_,rfl⟩;rw[<-hr];have hr2:(vM a.n.toList b.n.toList=true/\r=true)\/(vM a.n.toList b.n.toList=false/\(a.n.toList==b.n.toList)=false/\r=false)\/(vM a.n.toList b.n.toList=false/\(a.n.toList==b.n.toList)=true/\vM a.d.toList b.d.toList=r):=by
  unfold cn at hr;cases h1:vM a.n.toList b.n.toList
  ·cases h2:(a.n.toList==b.n.toList)
   ·rw[h1,h2] at hr;exact .inr (.inl ⟨rfl,rfl,hr⟩)
   ·rw[h1,h2] at hr;exact .inr (.inr ⟨rfl,rfl,by rw[hr];simp⟩)
  ·rw[h1] at hr;exact .inl ⟨rfl,hr⟩
 clear hr;rcases hr2 with ⟨h1,rfl⟩|⟨h1,h2,rfl⟩|⟨h1,h2,h3⟩;all_goals (
  go_enter Tryz.func106,Tryz.ntmps106
  go_wp2
  go_ret
  first|exact⟨rfl,aD _ _ _⟩|exact⟨by rw[h3],aD _ _ _⟩)

theorem eqQ (a b c d:ByteArray) (w:World):(Op.equalIn 10000 112 (.agg #[.string a,.string b]) (.agg #[.string c,.string d])).run Tryz.prog w=.ok ((a.toList==c.toList) && (b.toList==d.toList)) w:=by
 have u3:=Tryz.underlying9;have hS:Tryz.prog.underlying 112=some (.struct (Tryz.prog.fieldsOf 112)):=an
 have hp:Tryz.prog.stoodInHeld 112=false:=an
 rw[show (10000:Nat)=9999+1 from rfl,run_equalIn_agg w 9999 112 _ _ hS hp];simp only[Program.fieldsOf,Tryz.underlying112];go_simp;by_cases h1:a.toList=c.toList
 ·by_cases h2:b.toList=d.toList <;> simp[h1,h2]
 ·simp[h1]
theorem tI {w w4:World} {v4:Value} {base n j:Nat} {xs:List Qd} {x:Qd} {vss:List (List Value)} {H:Nat->Nat->Nat} {Q:Nat->Prop} (hV:aN w Q 2 (xs.map qdF) vss H) (hxl:xs.length=n) (hjn:j<=n) (hB4:Below w.heap.size w w4) (hx1:x.n.size<=9223372036854775807) (hx2:x.d.size<=9223372036854775807) (hQ:∀k,base<=k->Q k)
  (ho4:w4.ownsRow base 112 2 v4 (n+1) (bD j [.string x.n,.string x.d] vss).flatten):∃a' c',v4=.slice a' (n+1) c'/\au w4 a' (n+1) c' 2 112 ((bD j x xs).map qdF) Q:=by
 obtain⟨H4,hV5⟩:=(hV.below hB4).ins (p:=j) (r:=qdF x) (vs:=[.string x.n,.string x.d]) (hh:=fun _=>0) rfl rfl (fun i f hf=>by
  rcases i with _|_|i <;> simp[qdF] at hf <;> subst hf
  ·exact⟨_,rfl,rfl,hx1⟩
  ·exact⟨_,rfl,rfl,hx2⟩) (fun i zs h hz=>by rcases i with _|_|i <;> simp[qdF] at h) (fun i i2 zs zs2 h=>by rcases i with _|_|i <;> simp[qdF] at h) (by rw[wj];omega)
 have h45:aN w4 Q 2 ((bD j x xs).map qdF) (bD j [.string x.n,.string x.d] vss) H4:=by rw[ke];exact hV5
 have hle:((bD j x xs).map qdF).length=n+1:=by rw[wj,eW af,hxl]
 obtain⟨a',c',e,hR⟩:=h45.own ho4 hle.symm ak (fun g hg=>hQ g (ho4.lt g hg).1);rw[hle] at e hR;exact⟨a',c',e,hR⟩
theorem gT (a b:Qd) (w:World) (r:Bool) (h:cn a b=r):Calls Tryz.prog 106 #[.agg #[.string a.n,.string a.d],.agg #[.string b.n,.string b.d]] w fun e w'=>e=.returned (.bool r)/\Below w.heap.size w w':=by
 rw[<-h];exact kA a b w

def rP (t:Qd) (zs:List Qd) (B:Nat) (w:World) (e:Ending) (w':World):Prop:=∃a' l' c' zs',e=.returned (.slice a' l' c')/\au w' a' l' c' 2 112 (zs'.map qdF) (fun k=>B<=k)/\gJ t zs zs'/\Below w.heap.size w w'

theorem nr (a:Option Addr) (len cap:Nat) (zs:List Qd) (x:Qd) (B:Nat) (w:World) (ho:au w a len cap 2 112 (zs.map qdF) (fun k=>B<=k)) (hB:B<=w.heap.size) (hl:len<=64) (hx1:x.n.size<=9223372036854775807) (hx2:x.d.size<=9223372036854775807):
  Calls Tryz.prog 84 #[.slice a len cap,.agg #[.string x.n,.string x.d]] w (rP x zs B w):=by
 have hll:zs.length=len:=by simpa using ho.1
 have hlc:len<=cap:=ho.2.1;have hcm:cap<=9223372036854775807:=ho.2.2.1;have HR:=aa ho.row;have HOW0:=aa ho;obtain⟨vss,H,hV,hcell⟩:=ho.oo;have hvl:vss.length=len:=by rw[hV.len,wj,hll]
 have HC:Hid (∀(j:Nat) u,vss.flatten[j]?=some u->∃b,a=some ⟨b,0,none⟩/\w.cell? ⟨b,j,none⟩=some u):=fun j u hj=>by
  obtain⟨b,e,_,h3⟩:=hcell j u hj;exact⟨b,e,h3⟩
 have HVA:=aa hV.all;have HV1:=aa hV.one;have HFIN:Hid (∀(w4:World) v4 base k,k<=len->w.heap.size<=base->Below w.heap.size w w4->w4.ownsRow base 112 2 v4 (len+1) (bD k [.string x.n,.string x.d] vss).flatten->∃a' c',v4=.slice a' (len+1) c'/\au w4 a' (len+1) c' 2 112 ((bD k x zs).map qdF) (fun k=>B<=k)):=fun w4 v4 base k hk hbs hB4 ho4=>tI hV hll hk hB4 hx1 hx2 (fun k hk=>by omega) ho4;obtain⟨i5,hi5',hz0,hz1,hz2⟩:=info_parts tW;have HI0:=aa (vA hi5' (vA hz0 (vA hz1 hz2)));clear hi5' hz0 hz1 hz2 hV hcell ho;go_enter Tryz.func84,Tryz.ntmps84;go_wp2;go_loopw [5] (fun vi wr=> ∃k:Nat,k<=len/\vi=.int .i64 k/\Hid (∀(j:Nat) y,j<k->zs[j]?=some y->cn y x=true)/\Hid (Below (w.heap.size+1) (w.alloc (.cells #[.string x.n,.string x.d] 112)) wr)) (fun vi _=>len - (intOf vi).toNat);case atStart=>exact⟨0,by omega,rfl,fun j y hj=>by omega,vG _ _⟩
 case round=>
  obtain⟨k,hk,rfl,HE,HL⟩:=hrel;have hLs:w.heap.size+1<=wr.heap.size:=by have:=HL.size;simpa using this
  have HB:=aa ((ai w (.cells #[.string x.n,.string x.d] 112)).trans (HL.mono af));have Bx:=aa ((HL.block w.heap.size af).trans (heap_alloc_new w (.cells #[.string x.n,.string x.d] 112)));by_cases hlt:k<len
  ·obtain⟨b,o,y,rfl,hb,hx,hat⟩:=qf (HR.below HB.out) hlt;obtain⟨-,-,hc0,hc1⟩:=gu hat;have HXy:=aa hx;have hbw:b<wr.heap.size:=hb;have HC0:=aa hc0;have HC1:=aa hc1;have HBW:=aa hbw;have hk1:(k:Int)<len:=af
   have hk2:decide ((k:Int)<len)=true:=by simp;omega
   clear hb hat hx;cases hless:cn y x
   ·have HLS:=aa hless;clear hless;have Gx:=Bx;have HW:=HB;obtain⟨x0,x1⟩:=sl2 Gx;have yn:=fun q:Wd wr=>(q.cell hbw).trans hc0;have yd:=fun q:Wd wr=>(q.cell hbw).trans hc1;have hne0:=Wd.ne wr;have HC0:=aa (fun q:Wd wr=>gT y x q.w false HLS.out);go_wp2_with fail;refine ag an an ?_;repeat (go_big_quiet_step (first|(go_at_call 106;exact Calls.wide (HC0.out _))|fail))
    refine wpQuiet_nil ?_;rintro _ ⟨q2,rfl⟩;have HB1:=upB HW q2.b;have Cx:=upK Gx q2.b;clear hne0 HW HB HC0 x0 x1 yn yd Gx Bx hc0 hc1 hbw;have HB:=HB1;clear HB1;have Bx:=Cx;clear Cx;have hbw:b<q2.w.heap.size:=vN HBW.out q2.b.size;have hc0:=(q2.cell HBW.out).trans HC0.out;have hc1:=(q2.cell HBW.out).trans HC1.out;by_cases he:y=x
    ·have HP:Hid (gJ x zs zs):=.inl ⟨he ▸ wD HXy.out,rfl⟩;have hq1:(y.n.toList==x.n.toList)=true:=aP (by rw[he]);have hq2:(y.d.toList==x.d.toList)=true:=aP (by rw[he]);have hn1:y.n=x.n:=by rw[he]
     have hn2:y.d=x.d:=by rw[he]
     clear he;have hqe:∀W:World,(Op.equalIn 10000 112 (.agg #[.string y.n,.string y.d]) (.agg #[.string x.n,.string x.d])).run Tryz.prog W=.ok true W:=fun W=>by rw[eqQ,hq1,hq2];rfl
     clear hn1 hn2;have Gx:=Bx;have HW:=HB;obtain⟨x0,x1⟩:=sl2 Gx;have yn:=fun q:Wd q2.w=>(q.cell hbw).trans hc0;have yd:=fun q:Wd q2.w=>(q.cell hbw).trans hc1;have hne0:=Wd.ne q2.w;go_wp2_with fail;refine ag an an ?_;repeat (go_big_quiet_step (first|fail))
     refine wpQuiet_nil ?_;rintro _ ⟨q3,rfl⟩;have HB2:=upB HW q3.b;have Cx:=upK Gx q3.b;clear hne0 HW HB x0 x1 yn yd Gx Bx hc0 hc1 hbw hqe;have HB:=HB2;clear HB2;have Bx:=Cx;clear Cx;go_wp2;go_ret;exact⟨_,_,_,_,rfl,HOW0.below HB.out,HP.out,HB.out⟩
    have HP:Hid (gJ x zs (bD k x zs)):=.inr ⟨k,by omega,rfl,HE.out,fun z hz=>by rw[HXy.out] at hz;cases hz;exact nD HLS.out he⟩;have hq1:((y.n.toList==x.n.toList) && (y.d.toList==x.d.toList))=false:=by
     cases h1:(y.n.toList==x.n.toList)
     ·rfl
     ·cases h2:(y.d.toList==x.d.toList)
      ·rfl
      ·exact absurd (by have e1:=cj h1;have e2:=cj h2;obtain⟨y1,y2⟩:=y;obtain⟨x1,x2⟩:=x;cases e1;cases e2;rfl) he
    have hqe:∀W:World,(Op.equalIn 10000 112 (.agg #[.string y.n,.string y.d]) (.agg #[.string x.n,.string x.d])).run Tryz.prog W=.ok false W:=fun W=>by rw[eqQ,hq1]
    clear he;have Gx:=Bx;have HW:=HB;obtain⟨x0,x1⟩:=sl2 Gx;have yn:=fun q:Wd q2.w=>(q.cell hbw).trans hc0;have yd:=fun q:Wd q2.w=>(q.cell hbw).trans hc1;have hne0:=Wd.ne q2.w;go_wp2_with fail;refine ag an an ?_;repeat (go_big_quiet_step (first|fail))
    refine wpQuiet_nil ?_;rintro _ ⟨q3,rfl⟩;have HB2:=upB HW q3.b;have Cx:=upK Gx q3.b;clear hne0 HW HB x0 x1 yn yd Gx Bx hc0 hc1 hbw hqe;have HB:=HB2;clear HB2;have Bx:=Cx;clear Cx;clear hq1;have HCQ:Hid (∀(j:Nat) u,vss.flatten[j]?=some u->∃b9,(some ⟨b,o,none⟩:Option Addr)=some ⟨b9,0,none⟩/\b9<q3.w.heap.size/\q3.w.cell? ⟨b9,j,none⟩=some u):=fun j u hj=>by
     exact pZ
    obtain⟨HOW,hik,hkn⟩:=si;have hcap:¬cap=k:=af
    all_goals (
     go_wp2_with (first|(at_builtin;refine aQ rfl _ _ 109 rfl q3.w.heap.size 112 i5 (.agg #[.string ⟨#[]⟩,.string ⟨#[]⟩]) 2 32 Tryz.underlying109 HI0.1 HI0.2.1 HI0.2.2.1 HI0.2.2.2 rfl ak _ _ _ rfl (HOW.out) _ k _ (vss.take k).flatten rfl (dq HVA.out af) (fun j u hu=>by obtain⟨g,e,hgl,h3⟩:=HCQ.out _ _ (ik hu);cases e <;> exact⟨_,rfl,by simp only[wv,we];exact (aj (ai q3.w _) hgl).trans h3⟩) (bS HV1.out k).1 di af aW ?_))
     intro v5 w5 hown5 hgr5
     replace hown5:w5.ownsRow q3.w.heap.size 112 2 v5 k (vss.take k).flatten:=by simpa using hown5
     have hb5:Below q3.w.heap.size q3.w w5:=(ai q3.w (.cells #[] 112)).grown hgr5 aW (fun g hg=>by simp[xE] at hg;omega);obtain⟨s1,s2,s3,rfl⟩:=bz hown5;have HO5:=aa hown5;have H5:=aa hb5;have hs6:=hb5.size;have Bx5:=upK Bx hb5;obtain⟨x0,x1⟩:=cs2 Bx5;have hxl:=ae Bx5.out;clear hown5 hgr5 hb5 HOW
     go_wp2_with (first|(at_builtin;refine aQ rfl _ _ 109 rfl q3.w.heap.size 112 i5 (.agg #[.string ⟨#[]⟩,.string ⟨#[]⟩]) 2 32 Tryz.underlying109 HI0.1 HI0.2.1 HI0.2.2.1 HI0.2.2.2 rfl ak _ _ _ rfl (HO5.alloc _) _ 1 _ [.string x.n,.string x.d] rfl rfl (fun j u hu=>⟨_,rfl,by rw[wv,we,aB (heap_alloc_new w5 _)];simpa using hu⟩) jm di af bU ?_))
     intro v6 w6 hown6 hgr6;have hb6:Below q3.w.heap.size q3.w w6:=(H5.alloc H5.size _).grown hgr6 bU (fun g hg=>(HO5.lt g hg).1);obtain⟨r1,r2,r3,rfl⟩:=bz hown6;have HO6:=aa hown6;have H6:=aa hb6;have hs7:=hb6.size;clear hown6 hgr6 hb6 x0 x1 hxl
     go_wp2_with (first|(at_builtin;refine aQ rfl _ _ 109 rfl q3.w.heap.size 112 i5 (.agg #[.string ⟨#[]⟩,.string ⟨#[]⟩]) 2 32 Tryz.underlying109 HI0.1 HI0.2.1 HI0.2.2.1 HI0.2.2.2 rfl ak _ _ _ rfl (HO6.out) _ (len - k) _ (vss.drop k).flatten rfl (by rw[fA HVA.out,hvl]) (fun j u hu=>by first|(rw[wW af] at hu;simp at hu;done)|(obtain⟨g,e,hgl,h3⟩:=HCQ.out _ _ (iJ HVA.out af hu);cases e <;> exact⟨_,rfl,by simp only[wv,we];exact (aj H6.out hgl).trans h3⟩)) (bS HV1.out k).2 di af af ?_))
     intro v7 w7 hown7 hgr7;have hb7:Below q3.w.heap.size q3.w w7:=H6.grown hgr7 af (fun g hg=>(HO6.lt g hg).1)
     replace hown7:w7.ownsRow q3.w.heap.size 112 2 v7 (len+1) (bD k [.string x.n,.string x.d] vss).flatten:=by
      have e9:k+1+(len - k)=len+1:=af
      try rw[e9] at hown7
      simpa[bD] using hown7
     have HB7:=upB HB hb7;obtain⟨a',c',rfl,hR⟩:=HFIN.out w7 v7 q3.w.heap.size k af HB.size HB7.out hown7;have HR7:=aa hR;clear hown7 hgr7 hb7 hR hik hkn hcap
     go_wp2
     go_ret
     exact⟨a',_,c',_,rfl,HR7.out,HP.out,HB7.out⟩)
   ·have HLS:=aa hless;clear hless;have Gx:=Bx;have HW:=HB;obtain⟨x0,x1⟩:=sl2 Gx;have yn:=fun q:Wd wr=>(q.cell hbw).trans hc0;have yd:=fun q:Wd wr=>(q.cell hbw).trans hc1;have hne0:=Wd.ne wr;have HC0:=aa (fun q:Wd wr=>gT y x q.w true HLS.out);go_wp2_with fail;refine ag an an ?_;repeat (go_big_quiet_step (first|(go_at_call 106;exact Calls.wide (HC0.out _))|fail))
    refine wpQuiet_nil ?_;rintro _ ⟨q2,rfl⟩;have HB1:=upB HW q2.b;have Cx:=upK Gx q2.b;clear hne0 HW HB HC0 x0 x1 yn yd Gx Bx hc0 hc1 hbw;have HB:=HB1;clear HB1;have Bx:=Cx;clear Cx;go_wp2;refine⟨⟨k+1,by omega,by go_num,fun j z hj hz=>?_,HL.trans (q2.b.mono af)⟩,by simp[intOf];omega⟩;by_cases e:j=k
    ·subst e;rw[HXy.out] at hz;obtain rfl:=vC hz;exact HLS.out
    ·exact HE.out j z af hz
  ·have hk1:¬(k:Int)<len:=af
   have hk2:decide ((k:Int)<len)=false:=by simp;omega
   have HP:Hid (gJ x zs (bD k x zs)):=.inr ⟨k,by omega,rfl,HE.out,fun z hz=>by have:=(vz.1 hz).1;omega⟩;have Gx:=Bx;have HW:=HB;have x0:=fun q:Wd wr=>q.slot (o:=0) Gx.out rfl;have x1:=fun q:Wd wr=>q.slot (o:=1) Gx.out rfl;have hne0:=Wd.ne wr;go_wp2_with fail;refine ag an an ?_;repeat (go_big_quiet_step (first|fail))
   refine wpQuiet_nil ?_;rintro _ ⟨q2,rfl⟩;have HB1:=upB HW q2.b;have Cx:=upK Gx q2.b;clear hne0 HW HB x0 x1 Gx Bx;have HB:=HB1;clear HB1;have Bx:=Cx;clear Cx;have Gx:=Bx;have HW:=HB;obtain⟨x0,x1⟩:=sl2 Gx;have hne0:=Wd.ne q2.w;go_wp2_with fail;refine ag an an ?_;repeat (go_big_quiet_step (first|fail))
   refine wpQuiet_nil ?_;rintro _ ⟨q3,rfl⟩;have HB2:=upB HW q3.b;have Cx:=upK Gx q3.b;clear hne0 HW HB x0 x1 Gx Bx;have HB:=HB2;clear HB2;have Bx:=Cx;clear Cx;have HCQ:Hid (∀(j:Nat) u,vss.flatten[j]?=some u->∃b9,a=some ⟨b9,0,none⟩/\b9<q3.w.heap.size/\q3.w.cell? ⟨b9,j,none⟩=some u):=fun j u hj=>by
    exact pZ
   obtain⟨HOW,hik,hkn⟩:=si;rcases a with _|⟨b2,f2,sp⟩
   ·have hl0:len=0:=Classical.byContradiction fun hne0=>by
     have h1:vss[0]?=some (vss[0]'(by omega)):=vF _;have h2:0<(vss[0]'(by omega)).length:=by rw[HVA.out 0 _ h1];decide
     obtain⟨g,e,_⟩:=HCQ.out _ _ (fa HVA.out h1 (vF h2));cases e
    obtain rfl:k=0:=af
    subst hl0;by_cases hcap:cap=0;all_goals (
     go_wp2_with (first|(at_builtin;refine aQ rfl _ _ 109 rfl q3.w.heap.size 112 i5 (.agg #[.string ⟨#[]⟩,.string ⟨#[]⟩]) 2 32 Tryz.underlying109 HI0.1 HI0.2.1 HI0.2.2.1 HI0.2.2.2 rfl ak _ _ _ rfl (HOW.out) _ 0 _ (vss.take 0).flatten rfl (dq HVA.out af) (fun j u hu=>by obtain⟨g,e,hgl,h3⟩:=HCQ.out _ _ (ik hu);cases e <;> exact⟨_,rfl,by simp only[wv,we];exact (aj (ai q3.w _) hgl).trans h3⟩) (bS HV1.out 0).1 di af aW ?_))
     intro v5 w5 hown5 hgr5
     replace hown5:w5.ownsRow q3.w.heap.size 112 2 v5 0 (vss.take 0).flatten:=by simpa using hown5
     have hb5:Below q3.w.heap.size q3.w w5:=(ai q3.w (.cells #[] 112)).grown hgr5 aW (fun g hg=>by simp[xE] at hg;omega);obtain⟨s1,s2,s3,rfl⟩:=bz hown5;have HO5:=aa hown5;have H5:=aa hb5;have hs6:=hb5.size;have Bx5:=upK Bx hb5;obtain⟨x0,x1⟩:=cs2 Bx5;have hxl:=ae Bx5.out;clear hown5 hgr5 hb5 HOW
     go_wp2_with (first|(at_builtin;refine aQ rfl _ _ 109 rfl q3.w.heap.size 112 i5 (.agg #[.string ⟨#[]⟩,.string ⟨#[]⟩]) 2 32 Tryz.underlying109 HI0.1 HI0.2.1 HI0.2.2.1 HI0.2.2.2 rfl ak _ _ _ rfl (HO5.alloc _) _ 1 _ [.string x.n,.string x.d] rfl rfl (fun j u hu=>⟨_,rfl,by rw[wv,we,aB (heap_alloc_new w5 _)];simpa using hu⟩) jm di af bU ?_))
     intro v6 w6 hown6 hgr6;have hb6:Below q3.w.heap.size q3.w w6:=(H5.alloc H5.size _).grown hgr6 bU (fun g hg=>(HO5.lt g hg).1);obtain⟨r1,r2,r3,rfl⟩:=bz hown6;have HO6:=aa hown6;have H6:=aa hb6;have hs7:=hb6.size;clear hown6 hgr6 hb6 x0 x1 hxl
     go_wp2_with (first|(at_builtin;refine aQ rfl _ _ 109 rfl q3.w.heap.size 112 i5 (.agg #[.string ⟨#[]⟩,.string ⟨#[]⟩]) 2 32 Tryz.underlying109 HI0.1 HI0.2.1 HI0.2.2.1 HI0.2.2.2 rfl ak _ _ _ rfl (HO6.out) _ (0 - 0) _ (vss.drop 0).flatten rfl (by rw[fA HVA.out,hvl]) (fun j u hu=>by first|(rw[wW af] at hu;simp at hu;done)|(obtain⟨g,e,hgl,h3⟩:=HCQ.out _ _ (iJ HVA.out af hu);cases e <;> exact⟨_,rfl,by simp only[wv,we];exact (aj H6.out hgl).trans h3⟩)) (bS HV1.out 0).2 di af af ?_))
     intro v7 w7 hown7 hgr7;have hb7:Below q3.w.heap.size q3.w w7:=H6.grown hgr7 af (fun g hg=>(HO6.lt g hg).1)
     replace hown7:w7.ownsRow q3.w.heap.size 112 2 v7 (0+1) (bD 0 [.string x.n,.string x.d] vss).flatten:=by
      have e9:0+1+(0 - 0)=0+1:=af
      try rw[e9] at hown7
      simpa[bD] using hown7
     have HB7:=upB HB hb7;obtain⟨a',c',rfl,hR⟩:=HFIN.out w7 v7 q3.w.heap.size 0 af HB.size HB7.out hown7;have HR7:=aa hR;clear hown7 hgr7 hb7 hR hik hkn hcap
     go_wp2
     go_ret
     exact⟨a',_,c',_,rfl,HR7.out,HP.out,HB7.out⟩)
   by_cases hcap:cap=k;all_goals (
    go_wp2_with (first|(at_builtin;refine aQ rfl _ _ 109 rfl q3.w.heap.size 112 i5 (.agg #[.string ⟨#[]⟩,.string ⟨#[]⟩]) 2 32 Tryz.underlying109 HI0.1 HI0.2.1 HI0.2.2.1 HI0.2.2.2 rfl ak _ _ _ rfl (HOW.out) _ k _ (vss.take k).flatten rfl (dq HVA.out af) (fun j u hu=>by obtain⟨g,e,hgl,h3⟩:=HCQ.out _ _ (ik hu);cases e <;> exact⟨_,rfl,by simp only[wv,we];exact (aj (ai q3.w _) hgl).trans h3⟩) (bS HV1.out k).1 di af aW ?_))
    intro v5 w5 hown5 hgr5
    replace hown5:w5.ownsRow q3.w.heap.size 112 2 v5 k (vss.take k).flatten:=by simpa using hown5
    have hb5:Below q3.w.heap.size q3.w w5:=(ai q3.w (.cells #[] 112)).grown hgr5 aW (fun g hg=>by simp[xE] at hg;omega);obtain⟨s1,s2,s3,rfl⟩:=bz hown5;have HO5:=aa hown5;have H5:=aa hb5;have hs6:=hb5.size;have Bx5:=upK Bx hb5;obtain⟨x0,x1⟩:=cs2 Bx5;have hxl:=ae Bx5.out;clear hown5 hgr5 hb5 HOW
    go_wp2_with (first|(at_builtin;refine aQ rfl _ _ 109 rfl q3.w.heap.size 112 i5 (.agg #[.string ⟨#[]⟩,.string ⟨#[]⟩]) 2 32 Tryz.underlying109 HI0.1 HI0.2.1 HI0.2.2.1 HI0.2.2.2 rfl ak _ _ _ rfl (HO5.alloc _) _ 1 _ [.string x.n,.string x.d] rfl rfl (fun j u hu=>⟨_,rfl,by rw[wv,we,aB (heap_alloc_new w5 _)];simpa using hu⟩) jm di af bU ?_))
    intro v6 w6 hown6 hgr6;have hb6:Below q3.w.heap.size q3.w w6:=(H5.alloc H5.size _).grown hgr6 bU (fun g hg=>(HO5.lt g hg).1);obtain⟨r1,r2,r3,rfl⟩:=bz hown6;have HO6:=aa hown6;have H6:=aa hb6;have hs7:=hb6.size;clear hown6 hgr6 hb6 x0 x1 hxl
    go_wp2_with (first|(at_builtin;refine aQ rfl _ _ 109 rfl q3.w.heap.size 112 i5 (.agg #[.string ⟨#[]⟩,.string ⟨#[]⟩]) 2 32 Tryz.underlying109 HI0.1 HI0.2.1 HI0.2.2.1 HI0.2.2.2 rfl ak _ _ _ rfl (HO6.out) _ (len - k) _ (vss.drop k).flatten rfl (by rw[fA HVA.out,hvl]) (fun j u hu=>by first|(rw[wW af] at hu;simp at hu;done)|(obtain⟨g,e,hgl,h3⟩:=HCQ.out _ _ (iJ HVA.out af hu);cases e <;> exact⟨_,rfl,by simp only[wv,we];exact (aj H6.out hgl).trans h3⟩)) (bS HV1.out k).2 di af af ?_))
    intro v7 w7 hown7 hgr7;have hb7:Below q3.w.heap.size q3.w w7:=H6.grown hgr7 af (fun g hg=>(HO6.lt g hg).1)
    replace hown7:w7.ownsRow q3.w.heap.size 112 2 v7 (len+1) (bD k [.string x.n,.string x.d] vss).flatten:=by
     have e9:k+1+(len - k)=len+1:=af
     try rw[e9] at hown7
     simpa[bD] using hown7
    have HB7:=upB HB hb7;obtain⟨a',c',rfl,hR⟩:=HFIN.out w7 v7 q3.w.heap.size k af HB.size HB7.out hown7;have HR7:=aa hR;clear hown7 hgr7 hb7 hR hik hkn hcap
    go_wp2
    go_ret
    exact⟨a',_,c',_,rfl,HR7.out,HP.out,HB7.out⟩)

def Wn (c:Cl) (k:Nat) (q:Qd):Prop:=∃(j:Nat) (p:Pd),j<k/\c.ps[j]?=some p/\¬p.d=⟨#[]⟩/\∃(i:Nat) (t:ByteArray) (v:Vd),p.zs[i]?=some t/\a_ c t v/\q=⟨v.n,p.d⟩
def Wc (c:Cl) (p:Pd) (k:Nat) (q:Qd):Prop:=∃(i:Nat) (t:ByteArray) (v:Vd),i<k/\p.zs[i]?=some t/\a_ c t v/\q=⟨v.n,p.d⟩
def tY (c:Cl) (B:Nat) (w:World) (e:Ending) (w':World):Prop:=∃a' l' c' zs',e=.returned (.slice a' l' c')/\au w' a' l' c' 2 112 (zs'.map qdF) (fun k=>B<=k)/\RQ zs'/\(∀q,q∈zs'↔Wn c c.ps.length q)/\zs'.length<=24/\Below w.heap.size w w'

def PqF (t:Qd) (zs:List Qd) (B:Nat):Fact:=fun v w=> ∃a' l' c' zs',v=.slice a' l' c'/\au w a' l' c' 2 112 (zs'.map qdF) (fun k=>B<=k)/\gJ t zs zs'
theorem PqF.mono {t:Qd} {zs:List Qd} {B:Nat} :Fact.cf (PqF t zs B):=by
 rintro v w w' ⟨a',l',c',zs',h1,h2,h3⟩ hb;exact⟨a',l',c',zs',h1,h2.below hb,h3⟩
theorem a_.tA {c:Cl} {t:ByteArray} {v v':Vd} (hx:aC Xd.n c.xs) (h:a_ c t v) (h':a_ c t v'):v.n=v'.n:=by
 obtain⟨i,j,x,h1,h2,h3,h4⟩:=h;obtain⟨i',j',x',k1,k2,k3,k4⟩:=h';obtain⟨_,rfl⟩:=hx.inj h1 k1 (h2.trans k2.symm);rw[h4,k4]
theorem kE (d:Ad) (c:Cl) (t:ByteArray) (w:World) (hr:aI w d c.raw) (hT:bq c) {j:Nat} {v:Vd} (hv:c.vs[j]?=some v) (hb:a_ c t v):
  Calls Tryz.prog 83 #[.agg #[.slice d.a1 d.l1 d.c1,.slice d.a2 d.l2 d.c2,.slice d.a3 d.l3 d.c3,.slice d.a4 d.l4 d.c4,.slice d.a5 d.l5 d.c5,.int .i64 c.now],.string t] w fun e w'=>e=.returned (.int .i64 j)/\Below w.heap.size w w':=by
 refine (fk d c t w hr hT.2.1.2.2.2.1.2.2 hT.2.1.2.2.1.2.2 (fun j v hv e=>by have h9:=(hT.2.1.2.2.1.2.1 j v hv).1;rw[e] at h9;have h8:=h9.1;revert h8;decide)).mono ?_;rintro e w' ⟨hb2,⟨j',v',h1,h2,rfl⟩|⟨hno,rfl⟩⟩
 ·obtain⟨rfl,_⟩:=hT.2.1.2.2.1.2.2.inj h1 hv (h2.tA hT.2.1.2.2.2.1.2.2 hb);exact⟨rfl,hb2⟩
 ·exact absurd hb (hno v)
theorem Wc.step {c:Cl} {p:Pd} {k:Nat} {t:ByteArray} {v:Vd} {q:Qd} (hx:aC Xd.n c.xs) (ht:p.zs[k]?=some t) (hb:a_ c t v):Wc c p (k+1) q↔Wc c p k q\/q=⟨v.n,p.d⟩:=by
 constructor
 ·rintro⟨i,t',v',h1,h2,h3,rfl⟩;by_cases e:i=k
  ·subst e;rw[ht] at h2;obtain rfl:=vC h2;exact .inr (by rw[h3.tA hx hb])
  ·exact .inl ⟨i,t',v',by omega,h2,h3,rfl⟩
 ·rintro (⟨i,t',v',h1,h2,h3,rfl⟩|rfl)
  ·exact⟨i,t',v',by omega,h2,h3,rfl⟩
  ·exact⟨k,t,v,by omega,ht,hb,rfl⟩
theorem Wn.yes {c:Cl} {k:Nat} {p:Pd} {q:Qd} (hp:c.ps[k]?=some p) (hd:¬p.d=⟨#[]⟩):Wn c (k+1) q↔Wn c k q\/Wc c p p.zs.length q:=by
 constructor
 ·rintro⟨j,p',h1,h2,h3,i,t,v,h4,h5,h6⟩;by_cases e:j=k
  ·subst e;rw[hp] at h2;obtain rfl:=vC h2;exact .inr ⟨i,t,v,(vz.1 h4).1,h4,h5,h6⟩
  ·exact .inl ⟨j,p',by omega,h2,h3,i,t,v,h4,h5,h6⟩
 ·rintro (⟨j,p',h1,h2,h3,h4⟩|⟨i,t,v,_,h4,h5,h6⟩)
  ·exact⟨j,p',by omega,h2,h3,h4⟩
  ·exact⟨k,p,by omega,hp,hd,i,t,v,h4,h5,h6⟩
theorem Wn.no {c:Cl} {k:Nat} {p:Pd} {q:Qd} (hp:c.ps[k]?=some p) (hd:p.d=⟨#[]⟩):Wn c (k+1) q↔Wn c k q:=by
 constructor
 ·rintro⟨j,p',h1,h2,h3,h4⟩;by_cases e:j=k
  ·subst e;rw[hp] at h2;obtain rfl:=vC h2;exact absurd hd h3
  ·exact⟨j,p',by omega,h2,h3,h4⟩
 ·rintro⟨j,p',h1,h2,h3,h4⟩;exact⟨j,p',by omega,h2,h3,h4⟩

theorem oe (d:Ad) (c:Cl) (w:World) (hr:aI w d c.raw) (hT:bq c):
  Calls Tryz.prog 54 #[.agg #[.slice d.a1 d.l1 d.c1,.slice d.a2 d.l2 d.c2,.slice d.a3 d.l3 d.c3,.slice d.a4 d.l4 d.c4,.slice d.a5 d.l5 d.c5,.int .i64 c.now]] w (tY c (w.heap.size+1) w):=by
 obtain⟨a1,l1,y1,a2,l2,y2,a3,l3,y3,a4,l4,y4,a5,l5,y5⟩:=d;dsimp only;obtain⟨HR,hl1,hm1,hl2,hm2,hl3,hm3,hl4,hm4,hl5,hm5⟩:=kM;clear hr;have HT:=aa hT;clear hT;have h58:c.ps.length<=8:=by have:=HT.sm.p;omega
 go_enter Tryz.func54,Tryz.ntmps54;go_wp2;go_loopw [3,4] (fun vo vi wr=> ∃(k:Nat) (ca:Option Addr) (cl cc:Nat) (ys:List Qd),k<=l5/\vi=.int .i64 k/\vo=.slice ca cl cc/\Hid (au wr ca cl cc 2 112 (ys.map qdF) (fun j=>w.heap.size+1<=j)/\RQ ys/\(∀q,q∈ys↔Wn c k q)/\ys.length<=3*k)/\Hid (Below (w.heap.size+1) (w.alloc (.cells #[.slice a1 l1 y1,.slice a2 l2 y2,.slice a3 l3 y3,.slice a4 l4 y4,.slice a5 l5 y5,.int .i64 c.now] 36)) wr)) (fun _ vi _=>l5 - (intOf vi).toNat);case atStart=>exact⟨0,_,0,0,[],by omega,rfl,rfl,⟨⟨rfl,vD _,by omega,.inl rfl⟩,List.Pairwise.nil,fun q=>⟨fun h=>by simp at h,fun ⟨j,p,h,_⟩=>by omega⟩,by simp⟩,by first|exact vG _ _|exact (ai _ _).mono aW⟩
 case round=>
  obtain⟨k,ca,cl,cc,ys,hk,rfl,rfl,HQ,HL⟩:=hrel;have Bk:=aa ((HL.block w.heap.size af).trans (heap_alloc_new w (.cells (clo6 a1 l1 y1 a2 l2 y2 a3 l3 y3 a4 l4 y4 a5 l5 y5 c.now) 36)));have HB:=aa ((ai w (.cells (clo6 a1 l1 y1 a2 l2 y2 a3 l3 y3 a4 l4 y4 a5 l5 y5 c.now) 36)).trans (HL.mono af));have hLs:w.heap.size+1<=wr.heap.size:=by have h8:=HL.size;rw[ct] at h8;exact h8
  by_cases hlt:k<l5
  ·obtain⟨b,o,x,rfl,hb,hx,hat⟩:=bB (HR.p.below HB.out) hlt;obtain⟨va,vl,vc,hvr,z0,z2,z4,c0,c1,c2,c3,c4,c5⟩:=aL hat;have HXx:=aa hx;have HTx:=aa hvr;have HZx0:=aa z0;have HZx2:=aa z2;have HZx4:=aa z4;clear hat hx z0 z2 z4 hvr;have hbw:=hb;clear hb;have hk1:(k:Int)<l5:=af
   obtain⟨W1,hW1⟩:∃W1,W1=wr:=⟨_,rfl⟩;subst hW1;have hxz:x.zs.length=vl:=HTx.1;have hv3:vl<=3:=by have h9:(x.zs.length:Int)<=3:=(HT.2.1.2.2.2.2.2.1 k x HXx.out).2.2.2.1.1;omega
   obtain⟨k0,k1,k2,k3,k4,k5⟩:=cs6 Bk;have ltk_0:=ae Bk.out;go_wp2;clear k0 k1 k2 k3 k4 k5 ltk_0;clear c0 c1 c2 c3 c4 c5 hbw;go_loopw [3,6] (fun vo vi wr=> ∃(n:Nat) (ca:Option Addr) (cl cc:Nat) (ys:List Qd),n<=vl/\(x.d=⟨#[]⟩->n=0)/\vi=.int .i64 n/\vo=.slice ca cl cc/\Hid (au wr ca cl cc 2 112 (ys.map qdF) (fun j=>w.heap.size+1<=j)/\RQ ys/\(∀q,q∈ys↔Wn c k q\/Wc c x n q)/\ys.length<=3*k+n)/\Hid (Below (W1.heap.size+1) (W1.alloc (.cells #[.string x.n,.int .i64 x.c,.string x.z,.slice va vl vc,.string x.d,.int .i64 x.p] 107)) wr)) (fun _ vi _=>vl - (intOf vi).toNat);case atStart=>exact⟨0,_,_,_,ys,by omega,fun _=>rfl,rfl,rfl,⟨HQ.1.below (ai _ _),HQ.2.1,fun q=>by rw[HQ.2.2.1];exact⟨.inl,fun h=>h.elim id (fun ⟨i,t,v,h,_⟩=>by omega)⟩,by have:=HQ.2.2.2;omega⟩,vG _ _⟩
   case round=>
    clear HQ;obtain⟨n,ca,cl,cc,ys,hn,hn0,rfl,rfl,HQ,HL2⟩:=hrel;have hbP:Below W1.heap.size W1 wr:=(ai W1 (.cells (pov x va vl vc) 107)).trans (HL2.mono af);have Bp:=aa ((HL2.block W1.heap.size af).trans (heap_alloc_new W1 (.cells (pov x va vl vc) 107)));replace Bk:=upK Bk hbP;replace HB:=upB HB hbP;have HBP:=aa hbP;have hs2:=hbP.size;have hyl:ys.length=cl:=by have h9:(ys.map qdF).length=cl:=HQ.1.1;rw[wj] at h9;exact h9
    have hyb:=HQ.2.2.2;clear hbP;by_cases he:x.d=⟨#[]⟩
    ·obtain rfl:=hn0 he;have hq:=cW he;have HHE:=aa he;clear he;obtain⟨p0,p1,p2,p3,p4,p5⟩:=cs6 Bp;have ltp_0:=ae Bp.out;go_wp2;all_goals (
      refine⟨⟨k+1,ca,cl,cc,ys,by omega,by go_num,rfl,⟨HQ.1,HQ.2.1,fun q=>?_,by omega⟩,HL.trans (HBP.mono af)⟩,by simp[intOf];omega⟩;rw[HQ.2.2.1,Wn.no HXx.out HHE.out]
      exact⟨fun h=>h.elim id (fun ⟨i,t,v,h,_⟩=>by omega),.inl⟩)
    have hq:=bj he;have HHE:=aa he;clear he hn0;by_cases hlt2:n<vl
    ·have hk3:(n:Int)<vl:=af
     obtain⟨b2,o2,t,rfl,hb2,hx2,hc2,hsz2⟩:=(HTx.below HBP.out).at hlt2;have HXT:=aa hx2;obtain⟨v,hbd⟩:∃v,a_ c t v:=by
      obtain⟨i9,n9,_,_,_,h9⟩:=(HT.2.2.2.1.1 k x HXx.out).2.resolve_left HHE.out;obtain⟨v,hv,_⟩:=h9 n t hx2;exact⟨v,hv⟩
     obtain⟨i9,j,x9,h91,h92,hv,h94⟩:=hbd;have hbd:a_ c t v:=⟨i9,j,x9,h91,h92,hv,h94⟩;have HVJ:=aa hv;have HBD:=aa hbd;clear h91 h92 h94 hbd hx2 hsz2;have hj3:j<l3:=by have:=(vz.1 hv).1;omega
     obtain⟨b3,o3,y,rfl,hb3,hy,hat⟩:=bo (HR.v.below HB.out) hj3;rw[hv] at hy;obtain rfl:=vC hy;obtain⟨ya,yl,yc,-,hz0,-,-,-,hc3,-,-,-,-,-,-,-⟩:=aF hat;have HTC:=aa (vA hb2 hc2);have HVC:=aa (vA hb3 hc3);have HZ0:=aa hz0;have HZD:Hid (x.d.size<=9223372036854775807):=HZx4.out;clear hv hy hat hb2 hc2 hb3 hc3 hz0;obtain⟨k0,k1,k2,k3,k4,k5⟩:=cs6 Bk;have ltk_0:=ae Bk.out;obtain⟨p0,p1,p2,p3,p4,p5⟩:=cs6 Bp;have ltp_0:=ae Bp.out;go_wp2_with fail;clear k0 k1 k2 k3 k4 k5 ltk_0 p0 p1 p2 p3 p4 p5 ltp_0;rename_i K0 hK0;refine bg an rfl rfl an ?_;refine' Grow.stepC _ rfl ?_ ?_;rotate_left 1
     ·exact kO
     refine' Grow.stepC _ rfl ?_ ?_;rotate_left 1
     ·exact ir
     refine' Grow.stepC _ rfl ?_ ?_;rotate_left 1
     ·refine Obl.plain rfl ?_;intro ac wg K hsz hW hf hK;clear hsz;have e33:=hf 33 ak;simp[aq,vH] at e33;exact fq
     refine' Grow.stepC _ rfl ?_ ?_;rotate_left 1
     ·refine Obl.plain rfl ?_;intro ac wg K hsz hW hf hK;clear hsz;have e1:=hf 1 ak;simp[aq,vH] at e1;exact fq
     refine' Grow.stepC _ rfl ?_ ?_;rotate_left 1
     ·exact pD
     refine' Grow.stepC _ rfl ?_ ?_;rotate_left 1
     ·refine Obl.plain rfl ?_;intro ac wg K hsz hW hf hK;clear hsz;have e36:=hf 36 ak;simp[aq,vH] at e36;exact pd
     refine' Grow.stepC _ rfl ?_ ?_;rotate_left 1
     ·refine Obl.plain rfl ?_;intro ac wg K hsz hW hf hK;clear hsz;have e6:=hf 6 ak;simp[aq,vH] at e6;clear hf;exact bT
     refine' Grow.stepC _ rfl ?_ ?_;rotate_left 1
     ·refine Obl.plain rfl ?_;intro ac wg K hsz hW hf hK;clear hsz;have e37:=hf 37 ak;simp[aq,vH] at e37;have e38:=hf 38 ak;simp[aq,vH] at e38;clear hf;exact bT
     refine' Grow.stepC _ rfl ?_ ?_;rotate_left 1
     ·refine Obl.plain rfl ?_;intro ac wg K hsz hW hf hK;clear hsz;have e39:=hf 39 ak;simp[aq,vH] at e39;clear hf;have tc:=(aj hW HTC.1).trans HTC.2;exact bT
     refine' Grow.stepC (.int .i64 j) rfl ?_ ?_
     ·refine Obl.plain rfl ?_;intro ac wg K hsz hW hf hK;clear hsz;have e35:=hf 35 ak;simp[aq,vH] at e35;have e40:=hf 40 ak;simp[aq,vH] at e40;clear hf;go_simp;refine (kE ⟨a1,l1,y1,a2,l2,y2,(some ⟨b3,o3,none⟩),l3,y3,a4,l4,y4,(some ⟨b,o,none⟩),l5,y5⟩ c t _ (HR.below (HB.trans (hW.mono HB.size))) HT.out HVJ.out HBD.out).mono ?_;rintro e w6 ⟨rfl,hb6⟩;exact hK _ _ hb6 rfl
     refine' Grow.stepC _ rfl ?_ ?_;rotate_left 1
     ·refine Obl.plain rfl ?_;intro ac wg K hsz hW hf hK;clear hsz;have e34:=hf 34 ak;simp[aq,vH] at e34;have e41:=hf 41 ak;simp[aq,vH] at e41;clear hf;have hj0:¬(j:Int)<0:=af
      have hj2:(j:Int)<l3:=af
      exact bT
     refine' Grow.stepC _ rfl ?_ ?_;rotate_left 1
     ·refine Obl.plain rfl ?_;intro ac wg K hsz hW hf hK;clear hsz;have e42:=hf 42 ak;simp[aq,vH] at e42;clear hf;exact bT
     refine' Grow.stepC _ rfl ?_ ?_;rotate_left 1
     ·refine Obl.plain rfl ?_;intro ac wg K hsz hW hf hK;clear hsz;have e43:=hf 43 ak;simp[aq,vH] at e43;clear hf;have vc9:=(aj hW HVC.1).trans HVC.2;exact bT
     refine' Grow.stepC _ rfl ?_ ?_;rotate_left 1
     ·exact pD
     refine' Grow.stepC _ rfl ?_ ?_;rotate_left 1
     ·refine Obl.plain rfl ?_;intro ac wg K hsz hW hf hK;clear hsz;have e45:=hf 45 ak;simp[aq,vH] at e45;exact pd
     refine' Grow.stepC _ rfl ?_ ?_;rotate_left 1
     ·refine Obl.plain rfl ?_;intro ac wg K hsz hW hf hK;clear hsz;have e44:=hf 44 ak;simp[aq,vH] at e44;have e46:=hf 46 ak;simp[aq,vH] at e46;clear hf;exact bT
     refine Grow.step (PqF ⟨v.n,x.d⟩ ys (w.heap.size+1)) rfl (PqF.mono) ?_ ?_
     ·refine Obl.plain rfl ?_;intro ac wg K hsz hW hf hK;clear hsz;have e32:=hf 32 ak;simp[aq,vH] at e32;have e47:=hf 47 ak;simp[aq,vH] at e47;clear hf;go_simp;refine (nr ca cl cc ys ⟨v.n,x.d⟩ (w.heap.size+1) _ (HQ.1.below hW) (by have:=hW.size;omega) af HZ0.out HZD.out).mono ?_;rintro e w6 ⟨sa,sl,sc,zs2,rfl,ho2,hp2,hb6⟩;exact hK _ _ hb6 ⟨sa,sl,sc,zs2,rfl,ho2,hp2⟩
     refine Grow.done ?_;intro q w5 hW hf;simp only[wP] at hf;obtain⟨⟨sa,sl,sc,zs2,h48,ho2,hp2⟩,-⟩:=hf;have HP2:=aa hp2;have HO2:=aa ho2;have HW2:=aa hW;clear hp2 ho2;intro K hK;rw[if_pos (by rfl)];simp only[aU,xD,Act.put,wq,wM,wT,h48];simp only[xF];go_simp;refine hK _ _ ?_;refine hK0 _ _ ?_;clear hK hK0 K K0;go_wp2;refine⟨⟨n+1,sa,sl,sc,zs2,by omega,fun e=>absurd e HHE.out,by go_num,rfl,⟨HO2.out,HP2.vx HQ.2.1,fun q=>?_,by have h9:=HP2.len;omega⟩,HL2.trans (HW2.mono (by have h8:=HL2.size;rw[ct] at h8;exact h8))⟩,by simp[intOf];omega⟩;rw[HP2.mem,HQ.2.2.1,Wc.step HT.2.1.2.2.2.1.2.2 HXT.out HBD.out,or_assoc]
    have hk3:¬(n:Int)<vl:=af
    have hnv:n=vl:=af
    obtain⟨p0,p1,p2,p3,p4,p5⟩:=cs6 Bp;have ltp_0:=ae Bp.out;go_wp2;refine⟨⟨k+1,ca,cl,cc,ys,by omega,by go_num,rfl,⟨HQ.1,HQ.2.1,fun q=>?_,by omega⟩,HL.trans (HBP.mono af)⟩,by simp[intOf];omega⟩;rw[HQ.2.2.1,Wn.yes HXx.out HHE.out,hxz,hnv]
  have hk1:¬(k:Int)<l5:=af
  have hkl:k=l5:=af
  obtain⟨k0,k1,k2,k3,k4,k5⟩:=cs6 Bk;have ltk_0:=ae Bk.out;go_wp2;go_ret;exact⟨_,_,_,ys,rfl,HQ.1,HQ.2.1,by rw[hl5,<-hkl];exact HQ.2.2.1,by have:=HQ.2.2.2;omega,HB.out⟩

def RT (zs:List ByteArray):Prop:=zs.Pairwise fun a b=>vM a.toList b.toList=true
theorem RT.ext:∀{xs ys:List ByteArray},RT xs->RT ys->(∀s,s∈xs↔s∈ys)->xs=ys
 | [],[],_,_,_=>rfl
 | [],b ::ys,_,_,h=>by have:=(h b).2 (List.mem_cons_self ..);cases this
 | a ::xs,[],_,_,h=>by have:=(h a).1 (List.mem_cons_self ..);cases this
 | a ::xs,b ::ys,hx,hy,h=>by
  obtain⟨x1,x2⟩:=List.pairwise_cons.1 hx;obtain⟨y1,y2⟩:=List.pairwise_cons.1 hy;have hab:a=b:=by
   rcases wH.1 ((h a).1 (List.mem_cons_self ..)) with e|ha
   ·exact e
   ·rcases wH.1 ((h b).2 (List.mem_cons_self ..)) with e|hb
    ·exact e.symm
    ·have h9:=cA _ _ _ (y1 a ha) (x1 b hb);rw[cH] at h9;cases h9
  subst hab;have ne:∀{l:List ByteArray},(∀s∈l,vM a.toList s.toList=true)->∀s∈l,¬s=a:=fun hl s hs e=>by
   have h9:=hl s hs;rw[e,cH] at h9;cases h9
  rw[RT.ext x2 y2 (fun s=>⟨fun hs=>(wH.1 ((h s).1 (List.mem_cons_of_mem _ hs))).resolve_left (ne x1 s hs),fun hs=>(wH.1 ((h s).2 (List.mem_cons_of_mem _ hs))).resolve_left (ne y1 s hs)⟩)]

theorem mh (a:Option Addr) (len cap:Nat) (zs:List ByteArray) (t:ByteArray) (w:World) (hr:av w a len cap zs) (r:Bool) (h:r=true↔InL zs t):
  Calls Tryz.prog 55 #[.slice a len cap,.string t] w fun e w'=>e=.returned (.bool r)/\Below w.heap.size w w':=by
 refine (cF a len cap zs t w hr).mono ?_;exact sF
def mwB (c:Cl) (t:ByteArray) (q:Qd):Bool:=(q.d.toList==t.toList) && c.vs.any fun v=>(v.n.toList==q.n.toList) && inB v.zs t
def mwL (c:Cl) (t:ByteArray) (qs:List Qd):List ByteArray:=(qs.filter (mwB c t)).map Qd.n
theorem tN {c:Cl} {t:ByteArray} {xs:List Qd} {k:Nat} {x:Qd} (h:xs[k]?=some x) (hv:mwB c t x=true):mwL c t (xs.take (k+1))=mwL c t (xs.take k)++[x.n]:=by
 unfold mwL;exact mE
theorem ux {c:Cl} {t:ByteArray} {xs:List Qd} {k:Nat} {x:Qd} (h:xs[k]?=some x) (hv:mwB c t x=false):mwL c t (xs.take (k+1))=mwL c t (xs.take k):=by
 unfold mwL;exact mE
theorem rG {c:Cl} {t:ByteArray} {w:World} {a:Option Addr} {len cap:Nat} {xs:List Qd} (h:aE w a len cap 2 (xs.map qdF)) (j:Nat) (z:ByteArray) (hz:(mwL c t xs)[j]?=some z):z.size<=9223372036854775807:=by
 have hm:=wD hz;obtain⟨x,hx,rfl⟩:=List.mem_map.1 hm;obtain⟨i,hi⟩:=wR ((xg.1 hx).1);have hl:xs.length=len:=by simpa using h.1
 obtain⟨b,o,y,-,-,hy,hat⟩:=qf h (j:=i) ow;rw[hi] at hy;cases hy;exact (gu hat).1
theorem lh {c:Cl} {t:ByteArray} {q:Qd} {i:Nat} {v:Vd} (hv:aC Vd.n c.vs) (hi:c.vs[i]?=some v) (hn:v.n=q.n) (hd:q.d=t):mwB c t q=true↔InL v.zs t:=by
 unfold mwB;rw[aP hd,Bool.true_and,List.any_eq_true];constructor
 ·rintro⟨v',hm,he⟩;obtain⟨i',hi'⟩:=wR hm;rw[vZ] at he;obtain⟨_,rfl⟩:=hv.inj hi' hi ((cj he.1).trans hn.symm);exact de.1 he.2
 ·intro h;exact⟨v,wD hi,by rw[vZ];exact⟨aP hn,de.2 h⟩⟩
theorem tO {c:Cl} {t:ByteArray} {q:Qd} (hd:¬q.d=t):mwB c t q=false:=by unfold mwB;rw[bk hd];rfl
theorem aC.vv {α:Type} {nm:α->ByteArray} {xs:List α} (h:aC nm xs):RT (xs.map nm):=by
 unfold RT;rw[List.pairwise_iff_getElem];intro i j hi hj hij;rw[List.getElem_map,List.getElem_map];rw[wj] at hi hj;exact h.lt hij (vF hi) (vF hj)
theorem cN.rt {c:Cl} {t:ByteArray} (h:aC Vd.n c.vs):RT (cN c t c.vs):=List.Pairwise.sublist (List.filter_sublist.map _) h.vv
theorem mwL.rt {c:Cl} {t:ByteArray} {qs:List Qd} (h:RQ qs):RT (mwL c t qs):=by
 unfold mwL RT;rw[List.pairwise_map];refine List.Pairwise.imp_of_mem ?_ (List.Pairwise.filter _ h);intro a b ha hb hab;have e1:=(xg.1 ha).2;have e2:=(xg.1 hb).2;unfold mwB at e1 e2;rw[vZ] at e1 e2;unfold cn at hab;rw[xk,vZ] at hab;rcases hab with h1|⟨_,h1⟩
 ·exact h1
 ·rw[cj e1.1,cj e2.1,cH] at h1;cases h1
theorem qn {c:Cl} {t:ByteArray} {ws:List Qd} (hT:bq c) (ht:¬t=⟨#[]⟩) (hr:RQ ws) (hm:∀q,q∈ws↔Wn c c.ps.length q):mwL c t ws=cN c t c.vs:=by
 have hv:=hT.2.1.2.2.1.2.2;have hx:=hT.2.1.2.2.2.1.2.2;refine (mwL.rt hr).ext (cN.rt hv) (fun s=>?_);unfold mwL cN;rw[List.mem_map,List.mem_map];constructor
 ·rintro⟨q,hq,rfl⟩;obtain⟨hq1,hq2⟩:=xg.1 hq;obtain⟨j,p,_,hp,_,k,cl,v,hk,hb,rfl⟩:=(hm q).1 hq1;have hpd:p.d=t:=by unfold mwB at hq2;rw[vZ] at hq2;exact cj hq2.1
  obtain⟨i,jv,x,h1,h2,h3,h4⟩:=hb;have hon:=(lh (q:=⟨v.n,p.d⟩) hv h3 rfl hpd).1 hq2;have hne:¬x.v=⟨#[]⟩:=by rw[<-h4];exact aT.ne (hT.2.1.2.2.1.2.1 jv v h3).1
  obtain⟨i',j',x',v',k1,k2,k3,k4,k5,k6,_⟩:=(hT.2.2.1.2 i x h1).2.resolve_left hne;obtain⟨_,rfl⟩:=hv.inj k3 h3 (k4.trans h4.symm);refine⟨v',xg.2 ⟨wD h3,?_⟩,rfl⟩;unfold gA;rw[vZ];refine⟨de.2 hon,dS.2 ⟨j,p,hp,hpd,k,?_⟩⟩;rw[hk,k6,h2]
 ·rintro⟨v,h1,rfl⟩;obtain⟨h2,h3⟩:=xg.1 h1;obtain⟨jv,hj⟩:=wR h2;unfold gA at h3;rw[vZ] at h3;obtain⟨j,p,hp,hd,k,hk⟩:=dS.1 h3.2;have hz:=(hT.2.1.2.2.2.2.2.1 j p hp).2.2.2.1.2;have hne:¬v.m=⟨#[]⟩:=aT.ne (hz k v.m hk).1;obtain⟨i',j',x',v',k1,k2,k3,k4,k5,k6,_⟩:=(hT.2.2.1.1 jv v hj).2.resolve_left hne;refine⟨⟨v.n,p.d⟩,xg.2 ⟨(hm _).2 ⟨j,p,(vz.1 hp).1,hp,by rw[hd];exact ht,k,v.m,v,hk,⟨i',jv,x',k1,k2,hj,k5.symm⟩,rfl⟩,?_⟩,rfl⟩;exact (lh (q:=⟨v.n,p.d⟩) hv hj rfl hd).2 (de.1 h3.1)
theorem tD {c:Cl} {k:Nat} {q:Qd} (h:Wn c k q):∃(i:Nat) (v:Vd),c.vs[i]?=some v/\v.n=q.n:=by
 obtain⟨j,p,_,_,_,i,t,v,_,⟨i2,j2,x,_,_,h3,_⟩,rfl⟩:=h;exact⟨j2,v,h3,rfl⟩

theorem oh (d:Ad) (c:Cl) (n:Nd) (na:Option Addr) (nl nc:Nat) (w:World) (hr:aI w d c.raw) (hT:bq c) (ht:¬n.n=⟨#[]⟩):
  Calls Tryz.prog 23 #[.agg #[.slice d.a1 d.l1 d.c1,.slice d.a2 d.l2 d.c2,.slice d.a3 d.l3 d.c3,.slice d.a4 d.l4 d.c4,.slice d.a5 d.l5 d.c5,.int .i64 c.now],.agg #[.string n.n,.string n.z,.int .i64 n.c,.int .i64 n.s,.int .i64 n.u,.bool n.d,.slice na nl nc]] w fun e w'=> ∃a l q,e=.returned (.slice a l q)/\bE w' a l q (cN c n.n c.vs) (fun k=>w.heap.size<=k)/\Below w.heap.size w w':=by
 obtain⟨a1,l1,y1,a2,l2,y2,a3,l3,y3,a4,l4,y4,a5,l5,y5⟩:=d;dsimp only;obtain⟨HR,hl1,hm1,hl2,hm2,hl3,hm3,hl4,hm4,hl5,hm5⟩:=kM;clear hr;have HT:=aa hT;have HNE:=aa ht;have HB:=aa (vG w.heap.size w);obtain⟨i0,hi,hz0,hz1,hz2⟩:=info_parts d_;have HI0:=aa (vA hi (vA hz0 (vA hz1 hz2)));clear hi hz0 hz1 hz2 hT ht;go_enter Tryz.func23,Tryz.ntmps23;go_wp2_with fail;refine (oe ⟨a1,l1,y1,a2,l2,y2,a3,l3,y3,a4,l4,y4,a5,l5,y5⟩ c _ (HR.below (HB.trans ((aD _ _ _).mono HB.size))) HT.out).mono ?_;rintro e w1 ⟨wa,wl,wc,ws,rfl,ho,hrq,hmem,hle,hb⟩;obtain⟨HA0,HA1,hbx⟩:=bN hb;have Bk:=aa HA0;have Bn:=aa HA1;replace HB:=upB HB hbx;clear hb hbx HA0 HA1;have HER:=aa ho.row;have hwl:ws.length=wl:=by simpa using ho.row.1
 have HES:=aa (vA hrq hmem);have hw24:wl<=24:=af
 have hn1:w.heap.size+1<w1.heap.size:=ae Bn.out;clear ho hrq hmem;go_wp2;have BeV:=aa (heap_alloc_new w1 (.cells #[] 9));have HB1:=HB;have Bk1:=Bk;have Bn1:=Bn;clear HB Bk Bn;go_loopw [6,7] (fun vo vi wr=> ∃k m9:Nat,k<=wl/\m9<=k/\vi=.int .i64 k/\Hid (wr.ownsRow (w1.heap.size) 9 1 vo m9 ((mwL c n.n (ws.take k)).map vU))/\Hid (Below w1.heap.size w1 wr)) (fun _ vi _=>wl - (intOf vi).toNat);case atStart=>exact⟨0,0,by omega,by omega,rfl,⟨rfl,.inr ⟨w1.heap.size,0,#[],rfl,vD _,BeV.out,vD _,by unfold maxLen;omega,rfl,rfl⟩⟩,ai _ _⟩
 case round=>
  obtain⟨k,m9,hk,hm9,rfl,HO,HL⟩:=hrel;have hLs:=HL.size;have Bk:=upK Bk1 HL.out;have Bn:=upK Bn1 HL.out;have HB:=aa (HB1.trans (HL.mono HB1.size));clear BeV;by_cases hlt:k<wl
  ·have hk1:(k:Int)<wl:=af
   have hk0:¬(k:Int)<0:=af
   obtain⟨b,o,y,rfl,hbl,hy,hat⟩:=qf (HER.below HL.out) hlt;obtain⟨-,-,hc0,hc1⟩:=gu hat;have HY0:=aa hy;obtain⟨i,v,hv,hvn⟩:=tD ((HES.2 y).1 (wD hy));have HV:=aa (vA hv hvn);have hi3:i<l3:=by have:=(vz.1 hv).1;omega
   have hii:(i:Int)<l3:=af
   have hi0:¬(i:Int)<0:=af
   obtain⟨b3,o3,v',rfl,hb3,hx3,hat3⟩:=bo (HR.v.below HB.out) hi3;rw[hv] at hx3;obtain rfl:=vC hx3;obtain⟨va,vl,vc,hvr,-,-,-,-,-,-,-,-,-,-,-,hc7⟩:=aF hat3;have HVR:=aa hvr;clear hat hy hv hvn hat3 hx3 hvr;by_cases he:y.d=n.n;rotate_left
   ·have hq:=bk he;have hon:mwB c n.n y=false:=tO he;have HON:=aa hon;clear hon;obtain⟨k0,k1,k2,k3,k4,k5⟩:=cs6 Bk;have ltk_40:=ae Bk.out;obtain⟨n0,n1,n2,n3,n4,n5,n6⟩:=cs7 Bn;have ltn_40:=ae Bn.out;go_wp2_with fail;clear k0 k1 k2 k3 k4 k5 ltk_40 n0 n1 n2 n3 n4 n5 n6 ltn_40;have Gk:=Bk;have Gn:=Bn;have HW:=HB;obtain⟨k0,k1,k2,k3,k4,k5⟩:=sl6 Gk;have n0:=fun q:Wd wr=>q.slot (o:=0) Gn.out rfl;have yd:=fun q:Wd wr=>(q.cell hbl).trans hc1;have hne0:=Wd.ne wr;go_wp2_with fail;refine ag an an ?_;repeat (go_big_quiet_step (first|fail))
    refine wpQuiet_nil ?_;rintro _ ⟨q1,rfl⟩;have HB41:=upB HW q1.b;have Ck:=upK Gk q1.b;have Cn:=upK Gn q1.b;clear hne0 HW HB k0 k1 k2 k3 k4 k5 n0 yd Gk Gn Bk Bn hbl hc0 hc1 hb3 hc7 hq;exact sW
   have hq:=aP he;have HIF:=aa (lh (q:=y) HT.2.1.2.2.1.2.2 HV.1 HV.2 he);clear he;by_cases hin:InL v.zs n.n;rotate_left
   ·have HIN:=aa hin;clear hin;have hon:mwB c n.n y=false:=by cases h:mwB c n.n y;rfl;exact absurd (HIF.1 h) HIN.out
    have HON:=aa hon;clear hon;obtain⟨k0,k1,k2,k3,k4,k5⟩:=cs6 Bk;have ltk_40:=ae Bk.out;obtain⟨n0,n1,n2,n3,n4,n5,n6⟩:=cs7 Bn;have ltn_40:=ae Bn.out;go_wp2_with fail;clear k0 k1 k2 k3 k4 k5 ltk_40 n0 n1 n2 n3 n4 n5 n6 ltn_40;have Gk:=Bk;have Gn:=Bn;have HW:=HB;obtain⟨k0,k1,k2,k3,k4,k5⟩:=sl6 Gk;obtain⟨n0,yd,von,hne0,HC0⟩:=sz;have HC1:=aa (fun q:Wd wr=>mh va vl vc v.zs n.n q.w (HVR.below q.b) false (⟨fun h=>bw,fun h=>absurd h HIN.out⟩));go_wp2_with fail;refine ag an an ?_;repeat (go_big_quiet_step (first|(go_at_call 56;exact Calls.wide (HC0.out _))|(go_at_call 55;exact Calls.wide (HC1.out _))|fail))
    refine wpQuiet_nil ?_;rintro _ ⟨q1,rfl⟩;have HB41:=upB HW q1.b;have Ck:=upK Gk q1.b;have Cn:=upK Gn q1.b;clear hne0 HW HB HC0 HC1 k0 k1 k2 k3 k4 k5 n0 yd von Gk Gn Bk Bn hbl hc0 hc1 hb3 hc7 hq;exact sW
   have HON:=aa (HIF.2 hin);have HIN:=aa hin;clear hin;obtain⟨k0,k1,k2,k3,k4,k5⟩:=cs6 Bk;have ltk_40:=ae Bk.out;obtain⟨n0,n1,n2,n3,n4,n5,n6⟩:=cs7 Bn;have ltn_40:=ae Bn.out;go_wp2_with fail;clear k0 k1 k2 k3 k4 k5 ltk_40 n0 n1 n2 n3 n4 n5 n6 ltn_40;have Gk:=Bk;have Gn:=Bn;have HW:=HB;obtain⟨k0,k1,k2,k3,k4,k5⟩:=sl6 Gk;obtain⟨n0,yd,von,hne0,HC0⟩:=sz;have HC1:=aa (fun q:Wd wr=>mh va vl vc v.zs n.n q.w (HVR.below q.b) true (⟨fun _=>HIN.out,fun _=>rfl⟩));go_wp2_with fail;refine ag an an ?_;repeat (go_big_quiet_step (first|(go_at_call 56;exact Calls.wide (HC0.out _))|(go_at_call 55;exact Calls.wide (HC1.out _))|fail))
   refine wpQuiet_nil ?_;rintro _ ⟨q1,rfl⟩;have HB41:=upB HW q1.b;have Ck:=upK Gk q1.b;have Cn:=upK Gn q1.b;clear hne0 HW HB HC0 HC1 k0 k1 k2 k3 k4 k5 n0 yd von Gk Gn Bk Bn hbl hc0 hc1 hb3 hc7 hq;have HB:=HB41;clear HB41;have Bk:=Ck;clear Ck;have Bn:=Cn;clear Cn;have HO1:=aa (bf HO.out q1.b);have hqs:=q1.b.size;go_wp2_with (first|(at_builtin;refine wpList_append_own _ rfl _ _ 54 rfl (w1.heap.size) 9 i0 (.string ⟨#[]⟩) 1 16 Tryz.underlying54 HI0.1 HI0.2.1 HI0.2.2.1 HI0.2.2.2 rfl ak _ _ _ rfl (HO1.alloc _) ⟨q1.w.heap.size,0,none⟩ 1 1 [.string y.n] rfl rfl ?c1 ?c2 ?c3 ?c4 ?c5 ?_));case c1=>
    exact sG
   case c2=>intro u hu;rw[xv.1 hu];rfl
   case c3=>unfold maxLen;omega
   case c4=>omega
   case c5=>simp;omega
   rintro v' w4 hown3 hgrow -;have HO3:Hid (w4.ownsRow (w1.heap.size) 9 1 v' (m9+1) ((mwL c n.n (ws.take (k+1))).map vU)):=by
    show World.ownsRow _ _ _ _ _ _ _;rw[tN HY0.out HON.out,List.map_append];exact hown3
   have HL3:=aa (((HL.trans (q1.b.mono hLs)).trans ((ai q1.w _).mono (vI hLs hqs))).grown hgrow bU (fun g hg=>by have:=(HO1.lt g hg).1;omega));clear hown3 hgrow;go_wp2;exact⟨⟨k+1,m9+1,by omega,by omega,by go_num,HO3,HL3⟩,by simp[intOf];omega⟩
  have hk1:¬(k:Int)<wl:=af
  have HO3:=HO;rw[vK af] at HO3;obtain⟨a',p',rfl,hT⟩:=bE.kZ HO3.out (rG HER.out);rw[qn HT.out HNE.out HES.1 HES.2] at hT;have HTO:=aa hT;clear HO3 hT HO;go_wp2;go_ret;exact⟨_,_,_,rfl,HTO.cX (fun k _ s=>by have s1:w1.heap.size<=k:=s;show w.heap.size<=k;omega),HB.out⟩

theorem mi (d:Ad) (c:Cl) (p:Pd) (pa:Option Addr) (pl pc:Nat) (j1:Nat) (n:Nd) (w:World) (hr:aI w d c.raw) (hn:aC Nd.n c.ns) (hx:aC Xd.n c.xs) (hv:aC Vd.n c.vs) (hne:∀(j:Nat) v,c.vs[j]?=some v->¬v.n=⟨#[]⟩) (hp:av w pa pl pc p.zs) (hj1:c.ns[j1]?=some n) (hnn:n.n=p.d) (hbd:∀(j:Nat) t,p.zs[j]?=some t->∃v,a_ c t v) (r:Bool) (h:r=true↔gM c p n):
  Calls Tryz.prog 53 #[.agg #[.slice d.a1 d.l1 d.c1,.slice d.a2 d.l2 d.c2,.slice d.a3 d.l3 d.c3,.slice d.a4 d.l4 d.c4,.slice d.a5 d.l5 d.c5,.int .i64 c.now],.agg #[.string p.n,.int .i64 p.c,.string p.z,.slice pa pl pc,.string p.d,.int .i64 p.p]] w fun e w'=>e=.returned (.bool r)/\Below w.heap.size w w':=by
 refine (f_ d c p pa pl pc j1 n w hr hn hx hv hne hp hj1 hnn hbd).mono ?_;exact sF
def tZ (a:Option Addr) (l cp:Nat) (t:ByteArray) (f:Pd->Int) (ps:List Pd) (S:Nat->Prop) (w:World) (e:Ending) (w':World):Prop:=(∃v,e=.returned v)/\au w' a l cp 6 107 ((ps.map (phF t f)).map pdF) S/\az (fun k=>0<l/\a=some ⟨k,0,none⟩) w w'
theorem au.uj {wr wz:World} {g l cp k:Nat} {L:List Pd} {x:Pd} {S:Nat->Prop} (hO:au wr (some ⟨g,0,none⟩) l cp 6 107 (L.map pdF) S) (hb:Below wr.heap.size wr wz) (hx:L[k]?=some x) (v:Int):au (wz.setCell ⟨g,k*6+5,none⟩ (.int .i64 v)) (some ⟨g,0,none⟩) l cp 6 107 ((L.set k ⟨x.n,x.c,x.z,x.zs,x.d,v⟩).map pdF) S:=by
 have hLk:(L.map pdF)[k]?=some (pdF x):=by rw[vL,hx];rfl
 obtain⟨g',e,hS⟩:=(hO.below hb).st (az.refl S wz) hLk;cases e;obtain⟨⟨cur2,H2,h3,_⟩,_,_⟩:=hS.ec (i:=5) rfl v;rw[xh];exact⟨by rw[List.length_set];exact hO.1,hO.2.1,hO.2.2.1,.inr ⟨g,cur2,H2,rfl,h3⟩⟩
theorem au.vy {wr:World} {g l cp k:Nat} {L:List Pd} {x:Pd} {S:Nat->Prop} (hO:au wr (some ⟨g,0,none⟩) l cp 6 107 (L.map pdF) S) (hx:L[k]?=some x):g<wr.heap.size/\wr.frozen? ⟨g,k*6+5,none⟩=false:=by
 have hLk:(L.map pdF)[k]?=some (pdF x):=by rw[vL,hx];rfl
 obtain⟨g',e,hS⟩:=hO.st (az.refl S wr) hLk;cases e;refine⟨?_,hS.bW _⟩;obtain⟨⟨cur,H,h1,_⟩,_⟩:=hS;exact ae h1.blk

theorem og (b:Nat) (a1:Option Addr) (l1 y1:Nat) (a2:Option Addr) (l2 y2:Nat) (a3:Option Addr) (l3 y3:Nat) (a4:Option Addr) (l4 y4:Nat) (a5:Option Addr) (l5 y5:Nat) (now:Int) (t:ByteArray) (ns:List Nd) (ks:List Kd) (vs:List Vd) (xs:List Xd) (ps:List Pd) (m:Nd) (j1:Nat) (f:Pd->Int) (S Q:Nat->Prop) (w:World) (hb:w.heap[b]?=some (.cells #[.slice a1 l1 y1,.slice a2 l2 y2,.slice a3 l3 y3,.slice a4 l4 y4,.slice a5 l5 y5,.int .i64 now] 36 (0,0))) (ho:au w a5 l5 y5 6 107 (ps.map pdF) S) (hS:∀g,0<l5->a5=some ⟨g,0,none⟩->¬g=b) (q1:au w a1 l1 y1 7 56 (ns.map ndF) Q) (q2:au w a2 l2 y2 4 115 (ks.map kdF) Q) (q3:au w a3 l3 y3 8 105 (vs.map vdF) Q) (q4:au w a4 l4 y4 5 118 (xs.map xdF) Q) (rn:aC Nd.n ns) (rx:aC Xd.n xs) (rv:aC Vd.n vs) (hne:∀(j:Nat) v,vs[j]?=some v->¬v.n=⟨#[]⟩) (hm:ns[j1]?=some m) (hmn:m.n=t) (hbd:∀(k:Nat) p,ps[k]?=some p->p.d=t->∀(j:Nat) s,p.zs[j]?=some s->∃v,a_ ⟨ns,ks,vs,xs,ps,now⟩ s v) (hf:∀(k:Nat) p,ps[k]?=some p->p.d=t->(f p=2/\gM ⟨ns,ks,vs,xs,ps,now⟩ p m)\/(f p=1/\¬gM ⟨ns,ks,vs,xs,ps,now⟩ p m)):
  Calls Tryz.prog 22 #[.pointer (some ⟨b,0,none⟩),.string t,.bool true] w (tZ a5 l5 y5 t f ps S w):=by
 have hpl:ps.length=l5:=by simpa using ho.1
 have hlm:l5<=9223372036854775807:=vI ho.2.1 ho.2.2.1;have Bc:=aa hb;have HOW:=aa ho;have HO0:Hid (au w a5 l5 y5 6 107 ((mpL (phF t f) ps 0).map pdF) S):=by show au _ _ _ _ _ _ _ _;rw[j7];exact ho
 have HQ:=aa (vA q1 (vA q2 (vA q3 q4)));have HRI:=aa (vA rn (vA rx (vA rv hne)));have HM:=aa (vA hm hmn);have HBD:=aa hbd;have HF:=aa hf;have HSB:=aa hS;clear hb ho q1 q2 q3 q4 rn rx rv hne hm hmn hbd hf hS;go_enter Tryz.func22,Tryz.ntmps22;go_wp2;go_loopw [6] (fun vi wr=> ∃k:Nat,k<=l5/\vi=.int .i64 k/\Hid (au wr a5 l5 y5 6 107 ((mpL (phF t f) ps k).map pdF) S)/\Hid (az (fun k=>0<l5/\a5=some ⟨k,0,none⟩) w wr)) (fun vi _=>l5 - (intOf vi).toNat);case atStart=>exact⟨0,by omega,rfl,HO0,az.refl _ _⟩
 case round=>
  obtain⟨k,hk,rfl,HO,HK⟩:=hrel;clear HO0;have Bc2:=aa ((HK.block _ (ae Bc.out) (fun h=>HSB.out _ h.1 h.2 rfl)).trans Bc.out);by_cases hlt:k<l5
  ·obtain⟨x,hx0⟩:∃x,ps[k]?=some x:=⟨_,vF af⟩;have HX0:=aa hx0;have HXL:Hid ((mpL (phF t f) ps k)[k]?=some x):=(gw af).trans hx0;have hLk:((mpL (phF t f) ps k).map pdF)[k]?=some (pdF x):=by rw[vL,HXL.out];rfl
   obtain⟨g,hg,hS2⟩:=HO.st (az.refl S wr) hLk;subst hg;obtain⟨b2,o2,x2',hae,hbl,hx2,hat⟩:=bB HO.row hlt;cases hae;rw[HXL.out] at hx2;obtain rfl:=vC hx2;obtain⟨pa,pq,pc,-,-,-,-,-,-,-,-,c4,c5⟩:=aL hat;have hf5:=hS2.bW (k*6+5);have hneg:¬g=b:=HSB.out g af rfl;have hneg2:¬b=g:=fun e=>hneg e.symm;rw[we] at c4 c5;have hk1:(k:Int)<l5:=af
   clear hat hx2 hx0 hS2 hLk;obtain⟨k0,k1,k2,k3,k4,k5⟩:=cs6 Bc2;have ltc:=ae Bc2.out;by_cases he:x.d=t;rotate_left
   ·have hq:=bk he;have HHE:=aa he;clear he;go_wp2;refine⟨⟨k+1,by omega,by go_num,?_,HK.out⟩,by simp[intOf];omega⟩;show au _ _ _ _ _ _ _ _;rw[j8 HX0.out (qi HHE.out)];exact HO.out
   have hq:=aP he;have HHE:=aa he;clear he;go_wp2_with fail;have hP1:=au.uj HO.out (vG _ _) HXL.out 1;have hK1:az (fun k=>0<l5/\(some ⟨g,0,none⟩:Option Addr)=some ⟨k,0,none⟩) w (wr.setCell ⟨g,k*6+5,none⟩ (.int .i64 1)):=HK.set ⟨by omega,rfl⟩;have hB1:(wr.setCell ⟨g,k*6+5,none⟩ (.int .i64 1)).heap[b]?=some (.cells (clo6 a1 l1 y1 a2 l2 y2 a3 l3 y3 a4 l4 y4 (some ⟨g,0,none⟩) l5 y5 now) 36 (0,0)):=(vB _ _ _ _ hneg2).trans Bc2.out;clear k0 k1 k2 k3 k4 k5 c4 c5 hf5 ltc;obtain⟨W,hW0⟩:∃W,W=(wr.setCell ⟨g,k*6+5,none⟩ (.int .i64 1)):=⟨_,rfl⟩;rw[<-hW0] at hP1 hK1 hB1 ⊢;clear hW0;have f1:=HQ.1.beside HOW.out hK1 ak;have f2:=HQ.2.1.beside HOW.out hK1 ak;have f3:=HQ.2.2.1.beside HOW.out hK1 ak;have f4:=HQ.2.2.2.beside HOW.out hK1 ak;have HCW:Hid (aI W ⟨a1,l1,y1,a2,l2,y2,a3,l3,y3,a4,l4,y4,some ⟨g,0,none⟩,l5,y5⟩ (⟨ns,ks,vs,xs,((mpL (phF t f) ps k).set k (⟨x.n,x.c,x.z,x.zs,x.d,1⟩:Pd)),now⟩:Cl).raw):=⟨f1.row,f2.row,f3.row,f4.row,hP1.row⟩;have HP1:=aa hP1;have HK1:=aa hK1;have Bc3:=aa hB1;have hLx:((mpL (phF t f) ps k).set k (⟨x.n,x.c,x.z,x.zs,x.d,1⟩:Pd))[k]?=some (⟨x.n,x.c,x.z,x.zs,x.d,1⟩:Pd):=by rw[cr (vz.1 HXL.out).1,if_pos rfl]
   have HLX:=aa hLx;obtain⟨b2,o2,x3,hae,hbl2,hx3,hat⟩:=bB hP1.row hlt;cases hae;rw[hLx] at hx3;obtain rfl:=vC hx3;obtain⟨pa,pq,pc,hpr,-,-,-,c0,c1,c2,c3,c4,c5⟩:=aL hat;rw[we] at c0 c1 c2 c3 c4 c5;have HPR:=aa hpr;clear f1 f2 f3 f4 hP1 hK1 hB1 hLx hat hx3 hpr;rcases HF.out k x HX0.out HHE.out with ⟨hf1,hf2⟩|⟨hf1,hf2⟩
   ·have HFX:=aa hf1;have HFA:=aa hf2;clear hf1 hf2;obtain⟨k0,k1,k2,k3,k4,k5,p0,p1,p2,p3,p4,p5⟩:=um;have HC0:=aa (fun q:Wd W=>mi ⟨a1,l1,y1,a2,l2,y2,a3,l3,y3,a4,l4,y4,some ⟨g,0,none⟩,l5,y5⟩ (⟨ns,ks,vs,xs,((mpL (phF t f) ps k).set k (⟨x.n,x.c,x.z,x.zs,x.d,1⟩:Pd)),now⟩:Cl) (⟨x.n,x.c,x.z,x.zs,x.d,1⟩:Pd) pa pq pc j1 m q.w (HCW.below q.b) HRI.1 HRI.2.1 HRI.2.2.1 HRI.2.2.2 (HPR.below q.b) HM.1 (HM.2.trans HHE.symm) (HBD.out k x HX0.out HHE.out) true (⟨fun _=>HFA.out,fun _=>rfl⟩));have hne0:=Wd.ne W;clear c0 c1 c2 c3 c4 c5;refine ag an an ?_;repeat (go_big_quiet_step (first|(go_at_call 53;exact Calls.wide (HC0.out _))|fail))
    refine wpQuiet_nil ?_;rintro _ ⟨q1,rfl⟩;clear hne0 HC0 k0 p0 k1 p1 k2 p2 k3 p3 k4 p4 k5 p5;have Bc4:=upK Bc3 q1.b;obtain⟨k0,k1,k2,k3,k4,k5⟩:=cs6 Bc4;have ltc:=ae Bc4.out;obtain⟨hgl,hfz⟩:=au.vy (HP1.below q1.b) HLX.out;have c5:q1.w.cell? ⟨g,k*6+5,none⟩=some (.int .i64 1):=by
     obtain⟨b3,o3,x3,hae,_,hx3,hat⟩:=bB (HP1.below q1.b).row hlt;cases hae;rw[HLX.out] at hx3;obtain rfl:=vC hx3;obtain⟨_,_,_,_,-,-,-,-,-,-,-,-,c5⟩:=aL hat;rw[we] at c5;exact c5
    go_wp2;have hR:=au.uj HP1.out q1.b HLX.out 2;rw[List.set_set] at hR;have hR2:au (q1.w.setCell ⟨g,k*6+5,none⟩ (.int .i64 2)) (some ⟨g,0,none⟩) l5 y5 6 107 ((mpL (phF t f) ps (k+1)).map pdF) S:=by
     rw[eR HX0.out,iu HHE.out,HFX.out];exact hR
    have hK2:az (fun k=>0<l5/\(some ⟨g,0,none⟩:Option Addr)=some ⟨k,0,none⟩) w (q1.w.setCell ⟨g,k*6+5,none⟩ (.int .i64 2)):=(HK1.below q1.b).set ⟨by omega,rfl⟩;exact⟨⟨k+1,by omega,by go_num,hR2,hK2⟩,by simp[intOf];omega⟩
   have HFX:=aa hf1;have HFA:=aa hf2;clear hf1 hf2;obtain⟨k0,k1,k2,k3,k4,k5,p0,p1,p2,p3,p4,p5⟩:=um;have HC0:=aa (fun q:Wd W=>mi ⟨a1,l1,y1,a2,l2,y2,a3,l3,y3,a4,l4,y4,some ⟨g,0,none⟩,l5,y5⟩ (⟨ns,ks,vs,xs,((mpL (phF t f) ps k).set k (⟨x.n,x.c,x.z,x.zs,x.d,1⟩:Pd)),now⟩:Cl) (⟨x.n,x.c,x.z,x.zs,x.d,1⟩:Pd) pa pq pc j1 m q.w (HCW.below q.b) HRI.1 HRI.2.1 HRI.2.2.1 HRI.2.2.2 (HPR.below q.b) HM.1 (HM.2.trans HHE.symm) (HBD.out k x HX0.out HHE.out) false (⟨fun h=>bw,fun h=>absurd h HFA.out⟩));have hne0:=Wd.ne W;clear c0 c1 c2 c3 c4 c5;refine ag an an ?_;repeat (go_big_quiet_step (first|(go_at_call 53;exact Calls.wide (HC0.out _))|fail))
   refine wpQuiet_nil ?_;rintro _ ⟨q1,rfl⟩;clear hne0 HC0 k0 p0 k1 p1 k2 p2 k3 p3 k4 p4 k5 p5;go_wp2;have hR2:au W (some ⟨g,0,none⟩) l5 y5 6 107 ((mpL (phF t f) ps (k+1)).map pdF) S:=by
    rw[eR HX0.out,iu HHE.out,HFX.out];exact HP1.out
   exact⟨⟨k+1,by omega,by go_num,hR2.below q1.b,HK1.below q1.b⟩,by simp[intOf];omega⟩
  have hk1:¬(k:Int)<l5:=af
  obtain⟨k0,k1,k2,k3,k4,k5⟩:=cs6 Bc2;have ltc:=ae Bc2.out;go_wp2;have HO2:=HO;rw[mO af] at HO2;exact pQ

theorem oi (c:Cl) (w:World) (h0:0<=c.now) (h1:c.now<=1000000):
  Calls Tryz.prog 21 #[.int .i64 1000000,.int .i64 (c.now+10)] w fun e w'=>e=.returned (.int .i64 (bs c))/\Below w.heap.size w w':=by
 unfold bs;by_cases hl:c.now+10<1000000
 ·rw[if_pos hl];have hl2:¬1000000<c.now+10:=af
  exact kU
 ·rw[if_neg hl];by_cases he:c.now+10=1000000
  ·rw[he];exact kU
  ·have hl2:1000000<c.now+10:=af
   exact kU

theorem StJ.uk {g m:Nat} {T:TypeId} {S N:Nat->Prop} {w wr:World} {rs:List (List Fv)} {j:Nat} {r:List Fv} (h:StJ g m T S N w wr rs j r) {i:Nat} {old:Fv} (hi:r[i]?=some old) (a:Option Addr) (q:Nat) (hq:q<=9223372036854775807):StJ g m T S N w (wr.setCell ⟨g,j*m+i,none⟩ (.slice a 0 q)) rs j (r.set i (.l [])):=by
 have hget:=h.get;obtain⟨⟨cur,H,h1,hN⟩,h2,h3⟩:=h;have hil:i<r.length:=(vz.1 hi).1;have hrm:r.length=m:=h1.len j r hget;obtain⟨v0,hc0,-⟩:=h1.cell j r hget i _ hi;have hin:j*m+i<cur.size:=(vT.1 hc0).1;have back:∀(j':Nat) r' (i':Nat) zs',(rs.set j (r.set i (.l [])))[j']?=some r'->r'[i']?=some (.l zs')->zs'≠[]->∃r0,(rs.set j r)[j']?=some r0/\r0[i']?=some (.l zs'):=by
  intro j' r' i' zs' hj' hi' hz;rcases cS h3 hil hj' hi' with ⟨_,_,e⟩|⟨_,q⟩
  ·cases e;exact absurd rfl hz
  ·exact q
 refine⟨⟨cur.setIfInBounds (j*m+i) (.slice a 0 q),H,⟨aG h1.blk _,h1.inS,fT h3 h1.len,fun j' r' hj' i' f' hi'=>?_,fun j' r' i' zs' j2 r2 i2 zs2 hj' hi' hz' hj2 hi2 hz2 hH=>?_⟩,fun j' r' i' zs' hj' hi' hz'=>?_⟩,h2.set h1.inS,h3⟩
 ·rcases cS h3 hil hj' hi' with ⟨rfl,rfl,rfl⟩|⟨hne,r0,q1,q2⟩
  ·exact⟨_,by rw[Array.getElem?_setIfInBounds_self_of_lt hin],⟨a,0,q,rfl,rfl,Nat.zero_le _,hq,fun j x hx=>by simp at hx,.inl rfl⟩⟩
  ·exact s8
 ·obtain⟨r0,b1,b2⟩:=back j' r' i' zs' hj' hi' hz';obtain⟨r3,b3,b4⟩:=back j2 r2 i2 zs2 hj2 hi2 hz2;exact h1.inj j' r0 i' zs' j2 r3 i2 zs2 b1 b2 hz' b3 b4 hz2 hH
 ·obtain⟨r0,b1,b2⟩:=back j' r' i' zs' hj' hi' hz';exact hN j' r0 i' zs' b1 b2 hz'
theorem StJ.uX {g m:Nat} {T:TypeId} {S:Nat->Prop} {w wr:World} {rs:List (List Fv)} {j B:Nat} {r:List Fv} (h:StJ g m T S (fun k=>B<=k) w wr rs j r) {i:Nat} {old:Fv} (hi:r[i]?=some old) {a:Option Addr} {l q:Nat} {zs:List ByteArray} (ht:bE wr a l q zs (fun k=>B<=k)) (hS:∀k,B<=k->k<wr.heap.size->S k) (hg:g<B):∃cur H,bY (wr.setCell ⟨g,j*m+i,none⟩ (.slice a l q)) g m T (rs.set j (r.set i (.l zs))) S cur H:=by
 obtain⟨⟨h1,h2,h3,h4,h5⟩,h6⟩:=ht;by_cases hz:zs=[]
 ·subst hz;obtain rfl:l=0:=h1.symm;obtain⟨⟨cur,H,h7,_⟩,_⟩:=h.uk hi a q h3;exact⟨cur,H,h7⟩
 ·obtain⟨gm,cur,rfl,hm,hb⟩:=h6.resolve_left hz;have hm1:B<=gm:=hm;have hgl:=ae hb;obtain⟨b,o,e,hlt,hc⟩:=h5.resolve_left hz;cases e;obtain⟨⟨cur2,H,h7,_⟩,_⟩:=h.rq (b:=gm) hi zs (fun _=>hm1) ⟨_,l,q,rfl,h1,h2,h3,h4,.inr ⟨rfl,hS gm hm1 hgl,by omega,cur,hb,fun k x hx=>by have h8:=hc k x hx;rw[we,aB hb] at h8;exact h8⟩⟩;exact⟨cur2,H,h7⟩

theorem aC.rp {α:Type} {nm:α->ByteArray} {xs:List α} {k:Nat} {x y:α} (h:aC nm xs) (hx:xs[k]?=some x) (e:nm y=nm x):aC nm (xs.set k y):=by
 have hk:k<xs.length:=(vz.1 hx).1;have key:∀(j:Nat) a,(xs.set k y)[j]?=some a->∃a',xs[j]?=some a'/\nm a=nm a':=fun j a ha=>by
  rw[cr hk] at ha;split at ha
  ·rename_i e2;subst e2;obtain rfl:=vC ha;exact⟨x,hx,e⟩
  ·exact⟨a,ha,rfl⟩
 intro j a b ha hb;obtain⟨a',h1,h2⟩:=key _ a ha;obtain⟨b',h3,h4⟩:=key _ b hb;rw[h2,h4];exact h j a' b' h1 h3

theorem nv (d:Ad) (c:Cl) (t:ByteArray) (w:World) (hr:aI w d c.raw):
  Calls Tryz.prog 5 #[.agg #[.slice d.a1 d.l1 d.c1,.slice d.a2 d.l2 d.c2,.slice d.a3 d.l3 d.c3,.slice d.a4 d.l4 d.c4,.slice d.a5 d.l5 d.c5,.int .i64 c.now],.string t] w (ub (fh c t) w):=by
 obtain⟨a1,l1,y1,a2,l2,y2,a3,l3,y3,a4,l4,y4,a5,l5,y5⟩:=d;dsimp only;obtain⟨HR,hl1,hm1,hl2,hm2,hl3,hm3,hl4,hm4,hl5,hm5⟩:=kM;clear hr;have HB:=aa (vG w.heap.size w);go_enter Tryz.func5,Tryz.ntmps5;go_wp2_with fail;refine (nu ⟨a1,l1,y1,a2,l2,y2,a3,l3,y3,a4,l4,y4,a5,l5,y5⟩ c t _ (HR.below (HB.trans ((aD _ _ _).mono HB.size)))).mono ?_;rintro e w1 ⟨hb,hf⟩;obtain⟨HA0,HA1,hbx⟩:=bN hb;have Bk:=aa HA0;have Br:=aa HA1;replace HB:=upB HB hbx;clear hb hbx HA0 HA1;rcases hf with ⟨i,p,hw,hpi,hp0,rfl⟩|⟨j,n,hn,hok,rfl⟩
 ·have HV:Hid (fh c t (co0 p)):=.inl ⟨i,hw,by rw[hpi]⟩;have hp1:(p==0)=false:=by simpa using hp0
  clear hw hpi hp0;obtain⟨k0,k1,k2,k3,k4,k5⟩:=cs6 Bk;have ltk_1:=ae Bk.out;go_wp2_with fail;refine (jc p _).mono ?_;rintro e w2 ⟨rfl,hb⟩;clear k0 k1 k2 k3 k4 k5 ltk_1;replace Bk:=upK Bk hb;replace Br:=upK Br hb;replace HB:=upB HB hb;clear hb;obtain⟨r0,r1,r2,r3,r4,r5,r6,r7⟩:=cs8 Br;have ltr_2:=ae Br.out;obtain⟨fr0,fr1,fr2,fr3,fr4,fr5⟩:=eK;have fr6:=ar Br.out 6;have fr7:=ar Br.out 7;have hrl:w.heap.size+1<w2.heap.size:=ae Br.out;go_wp2;exact bodyPost_ret (v:=.agg #[.slice none 0 0,.slice none 0 0,.slice none 0 0,.slice none 0 0,.slice none 0 0,.int .i64 0,.string ⟨#[]⟩,.int .i64 p]) ot rfl ⟨ad0,co0 p,rfl,HV.out,(rl0 _ _),sb1 (sb1 (sb1 (sb1 (sb1 (sb1 (sb1 (sb1 (HB.out))))))))⟩
 have HNJ:=aa hn;have HOK:=aa hok;clear hn hok;have HT:Hid (bq c):=HOK.2.1;have hj1:j<l1:=by have:=(vz.1 HNJ.out).1;omega
 have hj2:(j:Int)<l1:=af
 have hj0:¬(j:Int)<0:=af
 obtain⟨b,o,y,rfl,hbl,hy,hat⟩:=bJ (HR.n.below HB.out) hj1;rw[HNJ.out] at hy;obtain rfl:=vC hy;obtain⟨ua,ul,uc,-,-,-,hd0,hd1,hd2,hd3,hd4,hd5,hd6⟩:=aO hat;clear hat hy;cases hd:n.d;rotate_left
 ·have HV:Hid (fh c t (co0 10)):=.inr ⟨n,HOK.out,.inl ⟨hd,rfl⟩⟩;rw[hd] at hd5;clear hd;obtain⟨k0,k1,k2,k3,k4,k5⟩:=cs6 Bk;have ltk_1:=ae Bk.out;go_wp2_with fail;refine (jc 10 _).mono ?_;rintro e w2 ⟨rfl,hb⟩;clear k0 k1 k2 k3 k4 k5 ltk_1;obtain⟨HA0,hbx⟩:=aJ hb;replace Bk:=upK Bk hbx;replace Br:=upK Br hbx;have Bn:=aa HA0;replace HB:=upB HB hbx;clear hb hbx HA0;obtain⟨r0,r1,r2,r3,r4,r5,r6,r7⟩:=cs8 Br;have ltr_2:=ae Br.out;obtain⟨fr0,fr1,fr2,fr3,fr4,fr5⟩:=eK;have fr6:=ar Br.out 6;have fr7:=ar Br.out 7;have hrl:w.heap.size+1<w2.heap.size:=ae Br.out;go_wp2;exact bodyPost_ret (v:=.agg #[.slice none 0 0,.slice none 0 0,.slice none 0 0,.slice none 0 0,.slice none 0 0,.int .i64 0,.string ⟨#[]⟩,.int .i64 10]) ot rfl ⟨ad0,co0 10,rfl,HV.out,(rl0 _ _),sb1 (sb1 (sb1 (sb1 (sb1 (sb1 (sb1 (sb1 (HB.out))))))))⟩
 obtain⟨f,hf⟩:=ki.ex c n;have HF:=aa hf;have HV:Hid (fh c t ⟨db c t n f,⟨#[]⟩,0⟩):=.inr ⟨n,HOK.out,.inr ⟨hd,f,hf,rfl⟩⟩;rw[hd] at hd5;have HD:=aa hd;clear hd hf;have HQ1:Hid (w.heap.size+1<w1.heap.size):=ae Br.out;obtain⟨hn0,hn1⟩:=HT.1;obtain⟨k0,k1,k2,k3,k4,k5⟩:=cs6 Bk;have ltk_1:=ae Bk.out;go_wp2_with fail;have HLO:=aa HB.size;refine (kC ⟨(some ⟨b,o,none⟩),l1,y1,a2,l2,y2,a3,l3,y3,a4,l4,y4,a5,l5,y5⟩ c _ (HR.below (HB.trans ((ai _ _).mono HB.size))) HT.sm).mono ?_;rintro e w3 ⟨d',rfl,ho,hb⟩;clear hd0 hd1 hd2 hd3 hd4 hd5 hd6 hbl;have HQ2:=aa hb.size;rw[ct] at HQ2 ho;clear k0 k1 k2 k3 k4 k5 ltk_1;obtain⟨HA0,hbx⟩:=aJ hb;replace Bk:=upK Bk hbx;replace Br:=upK Br hbx;have Bn:=aa HA0;replace HB:=upB HB hbx;clear hb hbx HA0;obtain⟨x1,m1,n1,x2,m2,n2,x3,m3,n3,x4,m4,n4,x5,m5,n5⟩:=d';have hm1:m1=l1:=by have h6:(c.ns.map ndF).length=m1:=ho.n.1;rw[wj] at h6;omega
 subst hm1;have hq1:w.heap.size+1<w1.heap.size:=HQ1.out;have hq2:w1.heap.size+1<=w3.heap.size:=HQ2.out;have inS:∀{a l cp m T rs},au w3 a l cp m T rs (fun k=>w1.heap.size+1<=k)->au w3 a l cp m T rs (fun k=>w1.heap.size<=k/\¬k=w3.heap.size):=fun h=>h.cX (fun k hk s=>⟨by have s1:w1.heap.size+1<=k:=s;omega,by omega⟩);obtain⟨g,hga,hS⟩:=(inS ho.n).st (az.refl _ w3) (i:=j) (r:=ndF n) (show (c.ns.map ndF)[j]?=some (ndF n) by rw[vL,HNJ.out];rfl);have hga':x1=some ⟨g,0,none⟩:=hga;subst hga';have HG0:Hid (w1.heap.size+1<=g):=by
  rcases ho.n.2.2.2 with h9|⟨g9,c9,H9,e9,h9⟩
  ·have h8:(c.ns.map ndF)[j]?=some (ndF n):=by rw[vL,HNJ.out];rfl
   have h7:c.ns.map ndF=[]:=h9;rw[h7] at h8;cases h8
  ·cases e9;exact h9.inS
 obtain⟨curg,hg1,hg2,hgb⟩:∃curg,w1.heap.size<=g/\g<w3.heap.size/\w3.heap[g]?=some (.cells curg 56 (0,0)):=by
  obtain⟨⟨cur,H,h1,_⟩,_⟩:=hS;exact⟨cur,h1.inS.1,ae h1.blk,h1.blk⟩
 have HGB:=aa hgb;have HG1:Hid (w1.heap.size+1<=g):=HG0.out;have HST:=aa hS;have HOC:=aa (vA (inS ho.k) (vA (inS ho.v) (vA (inS ho.x) (inS ho.p))));have HNN:Hid (au w3 (some ⟨g,0,none⟩) m1 n1 7 56 (c.ns.map ndF) (fun k=>w1.heap.size<=k/\¬k=w3.heap.size)):=inS ho.n;clear hS ho hga inS hgb;go_wp2_with fail;obtain⟨W,hW0⟩:∃W,W=(w3.alloc (.cells (clo6 (some ⟨g,0,none⟩) m1 n1 x2 m2 n2 x3 m3 n3 x4 m4 n4 x5 m5 n5 c.now) 36)):=⟨_,rfl⟩;have BkW:=aa ((vS w3 (.cells (clo6 (some ⟨g,0,none⟩) m1 n1 x2 m2 n2 x3 m3 n3 x4 m4 n4 x5 m5 n5 c.now) 36) _ (ae Bk.out)).trans Bk.out);have BrW:=aa ((vS w3 (.cells (clo6 (some ⟨g,0,none⟩) m1 n1 x2 m2 n2 x3 m3 n3 x4 m4 n4 x5 m5 n5 c.now) 36) _ (ae Br.out)).trans Br.out);have BnW:=aa ((vS w3 (.cells (clo6 (some ⟨g,0,none⟩) m1 n1 x2 m2 n2 x3 m3 n3 x4 m4 n4 x5 m5 n5 c.now) 36) _ (ae Bn.out)).trans Bn.out);have BoW:=aa (heap_alloc_new w3 (.cells (clo6 (some ⟨g,0,none⟩) m1 n1 x2 m2 n2 x3 m3 n3 x4 m4 n4 x5 m5 n5 c.now) 36));have HWW:=aa (ai w3 (.cells (clo6 (some ⟨g,0,none⟩) m1 n1 x2 m2 n2 x3 m3 n3 x4 m4 n4 x5 m5 n5 c.now) 36));have HBW:=aa (HB.trans ((ai w3 (.cells (clo6 (some ⟨g,0,none⟩) m1 n1 x2 m2 n2 x3 m3 n3 x4 m4 n4 x5 m5 n5 c.now) 36)).mono HB.size));rw[<-hW0] at BkW BrW BnW BoW HWW HBW ⊢;clear hW0 Bk Br Bn HB;rename_i K0 hK0;refine Gt.bg an rfl rfl an ?_;refine' Grow.stepC _ rfl ?_ ?_;rotate_left 1
 ·refine Obl.plain rfl ?_;intro ac wg K hsz hW hf hK;clear hsz;have e8:=hf 8 ak;simp[aq,vH] at e8;clear hf;exact bT
 refine' Grow.stepC _ rfl ?_ ?_;rotate_left 1
 ·refine Obl.plain rfl ?_;intro ac wg K hsz hW hf hK;clear hsz;have e30:=hf 30 ak;simp[aq,vH] at e30;exact o7
 refine' Grow.stepC _ rfl ?_ ?_;rotate_left 1
 ·exact o_
 refine' Grow.stepC _ rfl ?_ ?_;rotate_left 1
 ·exact o9
 refine' Grow.stepC _ rfl ?_ ?_;rotate_left 1
 ·refine Obl.plain rfl ?_;intro ac wg K hsz hW hf hK;clear hsz;have e33:=hf 33 ak;simp[aq,vH] at e33;exact o8
 refine' Grow.stepC (.int .i64 (c.now+10)) rfl ?_ ?_
 ·refine Obl.plain rfl ?_;intro ac wg K hsz hW hf hK;clear hsz;have e34:=hf 34 ak;simp[aq,vH] at e34;clear hf;have hwr:IntKind.i64.wrap (c.now+10)=c.now+10:=by rw[IntKind.wrap_i64];omega
  exact bT
 refine Grow.step (fun v _=>v=.int .i64 (bs c)) rfl (Fact.dz _) ?_ ?_
 ·refine Obl.plain rfl ?_;intro ac wg K hsz hW hf hK;clear hsz;have e35:=hf 35 ak;simp[aq,vH] at e35;clear hf;go_simp;refine (oi c _ hn0 hn1).mono ?_;rintro e w6 ⟨rfl,hb6⟩;exact hK _ _ hb6 rfl
 refine' Grow.stepC _ rfl ?_ ?_;rotate_left 1
 ·refine Obl.plain rfl ?_;intro ac wg K hsz hW hf hK;clear hsz;have e31:=hf 31 ak;simp[aq,vH] at e31;have e32:=hf 32 ak;simp[aq,vH] at e32;clear hf;exact bT
 refine' Grow.stepC _ rfl ?_ ?_;rotate_left 1
 ·exact pb
 refine Grow.done ?_;intro q wy hW hf;simp only[wP] at hf;obtain⟨h38,h37,h36,h35,h34,h33,h32,h31,h30,-⟩:=hf;have HWY:=upB HWW hW;have HBY:=upB HBW hW;have Bk2:=upK BkW hW;have Br2:=upK BrW hW;have Bn2:=upK BnW hW;have Bo2:=upK BoW hW;obtain⟨v9,hcz⟩:=(HST.below HWY.out).cell (i:=4) rfl;have hfz:=(HST.below HWY.out).bW (j*7+4);intro K hK;rw[if_pos (by rfl)];simp only[aU,xD,Act.put,wq,wM,wT,h38,h37,h36,h35,h34,h33,h32,h31,h30];simp only[xF];go_simp;refine hK _ _ ?_;refine hK0 _ _ ?_;clear hK hK0 K K0;have hST4:=(HST.below HWY.out).ec (i:=4) rfl (bs c);have past:∀{a l cp m T rs},au w3 a l cp m T rs (fun k=>w1.heap.size<=k/\¬k=w3.heap.size)->¬56=T->au (wy.setCell ⟨g,j*7+4,none⟩ (.int .i64 (bs c))) a l cp m T rs (fun k=>w1.heap.size<=k/\¬k=w3.heap.size):=fun h hT=>(h.iL HGB.out hT ak).aH (fun k hk s=>(vB _ _ _ _ s.2).trans (HWY.block k hk)) (fun _ _ s=>s.1);have f2:=past HOC.1 ak;have f3:=past HOC.2.1 ak;have f4:=past HOC.2.2.1 ak;have f5:=past HOC.2.2.2 ak;have hk4:(wy.setCell ⟨g,j*7+4,none⟩ (.int .i64 (bs c))).heap[w.heap.size]?=_:=(vB _ _ _ _ (show w.heap.size≠g by omega)).trans Bk2.out;have hr4:(wy.setCell ⟨g,j*7+4,none⟩ (.int .i64 (bs c))).heap[w.heap.size+1]?=_:=(vB _ _ _ _ (show w.heap.size+1≠g by omega)).trans Br2.out;have hgn:¬w1.heap.size=g:=by have:=HG1.out;omega
 have hn4:(wy.setCell ⟨g,j*7+4,none⟩ (.int .i64 (bs c))).heap[w1.heap.size]?=_:=(vB _ _ _ _ (show w1.heap.size≠g from hgn)).trans Bn2.out;have ho4:(wy.setCell ⟨g,j*7+4,none⟩ (.int .i64 (bs c))).heap[w3.heap.size]?=_:=(vB _ _ _ _ (show w3.heap.size≠g by omega)).trans Bo2.out;have hb4:Below w.heap.size w (wy.setCell ⟨g,j*7+4,none⟩ (.int .i64 (bs c))):=ah (show w.heap.size<=g by omega) HBY.out;have hs4:(wy.setCell ⟨g,j*7+4,none⟩ (.int .i64 (bs c))).heap.size=wy.heap.size:=aW
 clear hcz hfz past;obtain⟨W4,hW4⟩:∃W4,W4=(wy.setCell ⟨g,j*7+4,none⟩ (.int .i64 (bs c))):=⟨_,rfl⟩;rw[<-hW4] at hST4 f2 f3 f4 f5 hk4 hr4 hn4 ho4 hb4 hs4 ⊢;have HST4:=aa hST4;have HF4:=aa (vA f2 (vA f3 (vA f4 f5)));have Bk4:=aa hk4;have Br4:=aa hr4;have Bn4:=aa hn4;have Bo4:=aa ho4;have HB4:=aa hb4;have hsz4:w3.heap.size<W4.heap.size:=ae ho4;clear hW4 hST4 f2 f3 f4 f5 hk4 hr4 hn4 ho4 hb4 hs4 Bk2 Br2 Bn2 Bo2 HBY HWY HBW HWW BkW BrW BnW BoW;obtain⟨k0,k1,k2,k3,k4,k5⟩:=cs6 Bk4;obtain⟨n0,n1',n2',n3',n4',n5',n6'⟩:=cs7 Bn4;obtain⟨o0,o1,o2,o3,o4,o5⟩:=cs6 Bo4;have ltk:=ae Bk4.out;have ltn:=ae Bn4.out;have lto:=ae Bo4.out;by_cases hlv:c.now<n.u;rotate_left
 ·have HMN:Hid (fw c n=[]):=if_neg hlv;have HF1E:Hid (f=fun _=>1):=by
   show f=_;funext p;rcases HF.out p with ⟨_,h1,_⟩|⟨h1,_⟩
   ·exact absurd h1 hlv
   ·exact h1
  have hlv2:n.u<=c.now:=af
  obtain⟨v6,hc6⟩:=HST4.cell (i:=6) rfl;have hf6:=HST4.bW (j*7+6);have hne1:¬g=w3.heap.size:=af
  have hne2:¬w3.heap.size=g:=af
  go_wp2_with fail;clear k0 k1 k2 k3 k4 k5 n0 n1' n2' n3' n4' n5' n6' o0 o1 o2 o3 o4 o5 hc6 hf6;have HGB0:Hid (∃cur,W4.heap[g]?=some (.cells cur 56 (0,0))):=by obtain⟨⟨cur,H,h1,_⟩,_⟩:=HST4.out;exact⟨cur,h1.blk⟩
  obtain⟨cur4,hcur4⟩:=HGB0.out;clear HGB0;have HGB0:=aa hcur4;clear hcur4;have HFX:=aa HF4.out;have BrX:=Br4;have BoX:=Bo4;have HBX:=HB4;obtain⟨cur6,H6,hat6⟩:∃cur H,bY (W4.setCell ⟨g,j*7+6,none⟩ (.slice none 0 0)) g 7 56 ((c.ns.map ndF).set j (((ndF n).set 4 (.i (bs c))).set 6 (.l []))) (fun k=>w1.heap.size<=k/\¬k=w3.heap.size) cur H:=by obtain⟨⟨cur,H,h1,_⟩,_⟩:=HST4.uk (i:=6) rfl none 0 ak;exact⟨cur,H,h1⟩
  have hns:(c.ns.map ndF).set j (((ndF n).set 4 (.i (bs c))).set 6 (.l []))=(db c t n f).raw.n:=by
   show _=(c.ns.set (pl Nd.n c.ns t) (bA c n)).map ndF;rw[(cq HT.2.1.1.2.2 HNJ.out HOK.2.2.2).1,xh];show _=(c.ns.map ndF).set j (ndF (bA c n));unfold bA;rw[show fw c n=[] from HMN.out];rfl
  have f1:au (W4.setCell ⟨g,j*7+6,none⟩ (.slice none 0 0)) (some ⟨g,0,none⟩) m1 n1 7 56 (db c t n f).raw.n (fun k=>w1.heap.size<=k/\¬k=w3.heap.size):=by
   exact pR
  have past:∀{a l cp m T rs},au W4 a l cp m T rs (fun k=>w1.heap.size<=k/\¬k=w3.heap.size)->¬56=T->au (W4.setCell ⟨g,j*7+6,none⟩ (.slice none 0 0)) a l cp m T rs (fun k=>w1.heap.size<=k/\¬k=w3.heap.size):=fun h hT=>(h.iL HGB0.out hT ak).aH (fun k hk s=>vB _ _ _ _ s.2) (fun _ _ s=>s.1);have f2:=past HFX.1 ak;have f3:=past HFX.2.1 ak;have f4:=past HFX.2.2.1 ak;have f5:=past HFX.2.2.2 ak;have hr6:(W4.setCell ⟨g,j*7+6,none⟩ (.slice none 0 0)).heap[w.heap.size+1]?=_:=(vB _ _ _ _ (show w.heap.size+1≠g by omega)).trans BrX.out;have ho6:(W4.setCell ⟨g,j*7+6,none⟩ (.slice none 0 0)).heap[w3.heap.size]?=_:=(vB _ _ _ _ (show w3.heap.size≠g by omega)).trans BoX.out;have hb6:Below w.heap.size w (W4.setCell ⟨g,j*7+6,none⟩ (.slice none 0 0)):=ah (show w.heap.size<=g by omega) HBX.out;obtain⟨W6,hW6⟩:∃W6,W6=(W4.setCell ⟨g,j*7+6,none⟩ (.slice none 0 0)):=⟨_,rfl⟩;rw[<-hW6] at f1 f2 f3 f4 f5 hr6 ho6 hb6 ⊢;have HF1:=aa f1;have HF6:=aa (vA f2 (vA f3 (vA f4 f5)));have Br6:=aa hr6;have Bo6:=aa ho6;have HB6:=aa hb6;clear hW6 f1 f2 f3 f4 f5 hr6 ho6 hb6 past hat6 hns;have nb:∀k,¬(w1.heap.size<=k/\¬k=w3.heap.size)->¬(0<m5/\x5=some ⟨k,0,none⟩):=fun k h1 h2=>by
   exact sH
  refine (ky w3.heap.size (some ⟨g,0,none⟩) x2 x3 x4 x5 m1 n1 m2 n2 m3 n3 m4 n4 m5 n5 c.now t c.ps (fun k=>w1.heap.size<=k/\¬k=w3.heap.size) _ Bo6.out HF6.2.2.2 (fun g5 e0 e5 e=>nb g5 (fun h=>h.2 e) ⟨e0,e5⟩)).mono ?_;rintro e w7 ⟨⟨v,rfl⟩,hP,hK⟩;obtain⟨Bo7,Br7,g1,g2,g3,g4⟩:=sy;have hps:(db c t n f).raw.p=(c.ps.map (ph1 t)).map pdF:=by
   show (c.ps.map (phF t f)).map pdF=_;rw[HF1E.out,rE]
  exact pK
 have HMN:Hid (fw c n=cN c n.n c.vs):=if_pos hlv;have HLV:=aa hlv;have hlv2:¬n.u<=c.now:=af
 go_wp2_with fail;have hg9:=oh ⟨(some ⟨b,o,none⟩),m1,y1,a2,l2,y2,a3,l3,y3,a4,l4,y4,a5,l5,y5⟩ c n ua ul uc W4 (HR.below HB4.out) HT.out (aT.ne (HT.2.1.1.2.1 _ n HOK.2.2.1).1);rw[HD.out] at hg9;refine hg9.mono ?_;clear hg9;rintro e W5 ⟨sa,sl,sq,rfl,hto,hb5⟩;clear k0 k1 k2 k3 k4 k5 n0 n1' n2' n3' n4' n5' n6' o0 o1 o2 o3 o4 o5;have HTO:=aa hto;have hsl:sl<=8:=by have h1:=hto.1.1;have h2:=gz c n.n;have h3:(c.vs.length:Int)<=8:=HT.2.1.2.2.1.1;omega
 have hsl2:¬8<(sl:Int):=af
 have HST5:=aa (HST4.fresh hb5);have HFX:Hid _:=aa (vA (HF4.1.below hb5) (vA (HF4.2.1.below hb5) (vA (HF4.2.2.1.below hb5) (HF4.2.2.2.below hb5))));have BrX:=upK Br4 hb5;have BoX:=upK Bo4 hb5;have HBX:=upB HB4 hb5;have hs5:=hb5.size;obtain⟨cur4,hcur4⟩:∃cur,W5.heap[g]?=some (.cells cur 56 (0,0)):=by obtain⟨⟨cur,H,h1,_⟩,_⟩:=HST5.out;exact⟨cur,h1.blk⟩
 have HGB0:=aa hcur4;obtain⟨v6,hc6⟩:=HST5.cell (i:=6) rfl;have hf6:=HST5.bW (j*7+6);have hne1:¬g=w3.heap.size:=af
 have hne2:¬w3.heap.size=g:=af
 obtain⟨o0,o1,o2,o3,o4,o5⟩:=cs6 BoX;have lto5:=ae BoX.out;clear hb5 hto hcur4;go_wp2_with fail;clear o0 o1 o2 o3 o4 o5 hc6 hf6;obtain⟨cur6,H6,hat6⟩:∃cur H,bY (W5.setCell ⟨g,j*7+6,none⟩ (.slice sa sl sq)) g 7 56 ((c.ns.map ndF).set j (((ndF n).set 4 (.i (bs c))).set 6 (.l (cN c n.n c.vs)))) (fun k=>w1.heap.size<=k/\¬k=w3.heap.size) cur H:=HST5.uX (i:=6) rfl (HTO.out) (fun k h1 h2=>⟨by omega,by omega⟩) af;have hns:(c.ns.map ndF).set j (((ndF n).set 4 (.i (bs c))).set 6 (.l (cN c n.n c.vs)))=(db c t n f).raw.n:=by
  show _=(c.ns.set (pl Nd.n c.ns t) (bA c n)).map ndF;rw[(cq HT.2.1.1.2.2 HNJ.out HOK.2.2.2).1,xh];show _=(c.ns.map ndF).set j (ndF (bA c n));unfold bA;rw[show fw c n=(cN c n.n c.vs) from HMN.out];rfl
 have f1:au (W5.setCell ⟨g,j*7+6,none⟩ (.slice sa sl sq)) (some ⟨g,0,none⟩) m1 n1 7 56 (db c t n f).raw.n (fun k=>w1.heap.size<=k/\¬k=w3.heap.size):=by
  exact pR
 have past:∀{a l cp m T rs},au W5 a l cp m T rs (fun k=>w1.heap.size<=k/\¬k=w3.heap.size)->¬56=T->au (W5.setCell ⟨g,j*7+6,none⟩ (.slice sa sl sq)) a l cp m T rs (fun k=>w1.heap.size<=k/\¬k=w3.heap.size):=fun h hT=>(h.iL HGB0.out hT ak).aH (fun k hk s=>vB _ _ _ _ s.2) (fun _ _ s=>s.1);have f2:=past HFX.1 ak;have f3:=past HFX.2.1 ak;have f4:=past HFX.2.2.1 ak;have f5:=past HFX.2.2.2 ak;have hr6:(W5.setCell ⟨g,j*7+6,none⟩ (.slice sa sl sq)).heap[w.heap.size+1]?=_:=(vB _ _ _ _ (show w.heap.size+1≠g by omega)).trans BrX.out;have ho6:(W5.setCell ⟨g,j*7+6,none⟩ (.slice sa sl sq)).heap[w3.heap.size]?=_:=(vB _ _ _ _ (show w3.heap.size≠g by omega)).trans BoX.out;have hb6:Below w.heap.size w (W5.setCell ⟨g,j*7+6,none⟩ (.slice sa sl sq)):=ah (show w.heap.size<=g by omega) HBX.out;obtain⟨W6,hW6⟩:∃W6,W6=(W5.setCell ⟨g,j*7+6,none⟩ (.slice sa sl sq)):=⟨_,rfl⟩;rw[<-hW6] at f1 f2 f3 f4 f5 hr6 ho6 hb6 ⊢;have HF1:=aa f1;have HF6:=aa (vA f2 (vA f3 (vA f4 f5)));have Br6:=aa hr6;have Bo6:=aa ho6;have HB6:=aa hb6;clear hW6 f1 f2 f3 f4 f5 hr6 ho6 hb6 past hat6 hns;have nb:∀k,¬(w1.heap.size<=k/\¬k=w3.heap.size)->¬(0<m5/\x5=some ⟨k,0,none⟩):=fun k h1 h2=>by
  exact sH
 have hnm:(c.ns.set (pl Nd.n c.ns t) (bA c n))[j]?=some (bA c n):=by
  rw[(cq HT.2.1.1.2.2 HNJ.out HOK.2.2.2).1,cr (vz.1 HNJ.out).1,if_pos rfl]
 have hnr:aC Nd.n (c.ns.set (pl Nd.n c.ns t) (bA c n)):=by
  rw[(cq HT.2.1.1.2.2 HNJ.out HOK.2.2.2).1];exact HT.2.1.1.2.2.rp HNJ.out rfl
 refine (og w3.heap.size (some ⟨g,0,none⟩) m1 n1 x2 m2 n2 x3 m3 n3 x4 m4 n4 x5 m5 n5 c.now t (c.ns.set (pl Nd.n c.ns t) (bA c n)) c.ks c.vs c.xs c.ps (bA c n) j f (fun k=>w1.heap.size<=k/\¬k=w3.heap.size) (fun k=>w1.heap.size<=k/\¬k=w3.heap.size) _ Bo6.out HF6.2.2.2 (fun g5 e0 e5 e=>nb g5 (fun h=>h.2 e) ⟨e0,e5⟩) HF1.out HF6.1 HF6.2.1 HF6.2.2.1 hnr HT.2.1.2.2.2.1.2.2 HT.2.1.2.2.1.2.2 HT.2.1.ne hnm HOK.2.2.2 (fun k p hp hd=>HT.vu hp (by rw[hd,<-HOK.2.2.2];exact aT.ne (HT.2.1.1.2.1 _ n HOK.2.2.1).1)) (fun k p hp hd=>(HF.out p).imp (fun h=>⟨h.1,h.2.2⟩) (fun h=>⟨h.1,fun h9=>h.2 ⟨HLV.out,h9⟩⟩))).mono ?_;rintro e w7 ⟨⟨v,rfl⟩,hP,hK⟩;obtain⟨Bo7,Br7,g1,g2,g3,g4⟩:=sy;have hps:(db c t n f).raw.p=(c.ps.map (phF t f)).map pdF:=rfl;exact pK

theorem kF (d:Ad) (c:Cl) (t:ByteArray) (w:World) (hr:aI w d c.raw):
  Calls Tryz.prog 5 #[.agg #[.slice d.a1 d.l1 d.c1,.slice d.a2 d.l2 d.c2,.slice d.a3 d.l3 d.c3,.slice d.a4 d.l4 d.c4,.slice d.a5 d.l5 d.c5,.int .i64 c.now],.string t] w (uH (fh c t) w):=(nv d c t w hr).mono fun _ _ h=>h.s

end Rc
end Go.Proofs.YtjgjhkkmlaacdaaGreatDoor

namespace Go.Proofs.YtjgjhkkmlaacdaaGreatDoor
open Go.RowKit Rc Mk

def cQ (c:Cl):Fact:=fun v w=> ∃d:Ad,v=.agg #[.slice d.a1 d.l1 d.c1,.slice d.a2 d.l2 d.c2,.slice d.a3 d.l3 d.c3,.slice d.a4 d.l4 d.c4,.slice d.a5 d.l5 d.c5,.int .i64 c.now]/\aI w d c.raw
theorem cQ.mono (c:Cl):Fact.cf (cQ c):=by
 rintro v w w' ⟨d,h1,h2⟩ hb;exact⟨d,h1,h2.below hb⟩

set_option linter.unusedVariables false in
theorem gH (d:Ad) (c:Cl) (t:ByteArray) (E:Nat->Addr) (w:World) (hr:aI w d c.raw) (ht:t.size<=maxLen) (hG:Ers w E):
  Calls Tryz.prog 3 #[.agg #[.slice d.a1 d.l1 d.c1,.slice d.a2 d.l2 d.c2,.slice d.a3 d.l3 d.c3,.slice d.a4 d.l4 d.c4,.slice d.a5 d.l5 d.c5,.int .i64 c.now],.string t] w fun e w'=>e=.returned (.bool true)/\Below w.heap.size w w':=by
 have HR:=aa hr;obtain⟨HE,HB⟩:=gd;clear hr hG;by_cases hlongt:1048576<t.size
 ·go_enter Tryz.func3,Tryz.ntmps3;go_wp2;go_ret;exact⟨rfl,ai _ _⟩
 go_enter Tryz.func3,Tryz.ntmps3;go_wp2_with fail;refine (gN d c _ (HR.below (HB.trans ((ai _ _).mono HB.size)))).mono ?_;rintro e w1 ⟨r,rfl,hi,hb⟩;obtain⟨HA0,hbx⟩:=aJ hb;have Bk:=aa HA0;replace HB:=upB HB hbx;clear hb hbx HA0;rcases hi with rfl|⟨hr0,-,hft⟩
 ·obtain⟨k0,k1,k2,k3,k4,k5⟩:=cs6 Bk;have ltk_1:=ae Bk.out;go_wp2;go_ret;exact⟨rfl,HB.out⟩
 have HF:=aa hft;clear hft;obtain⟨k0,k1,k2,k3,k4,k5⟩:=cs6 Bk;have ltk_1:=ae Bk.out;go_wp2_with fail;refine (cD d c _ (HR.below HB.out) HF.out).mono ?_;rintro e w2 ⟨d1,rfl,ho,hb⟩;clear k0 k1 k2 k3 k4 k5 ltk_1;replace Bk:=upK Bk hb;replace HB:=upB HB hb;clear hb;have HO:=aa ho.row;clear ho;go_wp2_with fail;refine (kF d1 c t _ HO.out).mono ?_;rintro e w3 ⟨dg0,o,rfl,hI,ho,hb⟩;have R0:=aa ho;have HIS:=aa hI;clear ho hI HO;replace Bk:=upK Bk hb;replace HB:=upB HB hb;clear hb;have HY:=aa (Bw.refl w3);have HQ3:=aa (show w.heap.size<w3.heap.size from ae Bk.out);obtain⟨k0,k1,k2,k3,k4,k5⟩:=cs6 Bk;have ltk_3:=ae Bk.out;go_wp2_with fail;refine (cD d c _ (HR.below (HB.trans ((ai _ _).mono HB.size))) HF.out).mono ?_;rintro e w4 ⟨d2,rfl,ho,hb⟩;clear k0 k1 k2 k3 k4 k5 ltk_3;obtain⟨HA0,hbx⟩:=aJ hb;replace Bk:=upK Bk hbx;have Ba:=aa HA0;replace HY:=aa (HY.below hbx);replace HB:=upB HB hbx;clear hb hbx HA0;have HQ4:Hid (w3.heap.size+1<=w4.heap.size):=by have:=HY.le;have:=ae Ba.out;show w3.heap.size+1<=_;omega
 have HO2:=aa (ho.cX (S':=fun k=>w3.heap.size+1<=k/\k<w4.heap.size) (fun k hk s=>⟨(show w3.heap.size+1<=k by simpa using s),hk⟩));clear ho;obtain⟨k0,k1,k2,k3,k4,k5⟩:=cs6 Bk;have ltk_4:=ae Bk.out;obtain⟨a0,a1,a2,a3,a4,a5,a6,a7⟩:=cs8 Ba;have lta_4:=ae Ba.out;go_wp2_with fail;have HOX:=aa (HO2.below (ai w4 (.cells (clv d2 c.now) 36)));refine (gG d2 c t E _ HOX.row (HE.below (HB.trans ((ai _ _).mono HB.size)))).mono ?_;rintro e w5 ⟨dg1,o1,rfl,hI,ho,hb⟩;clear HOX;obtain rfl:=HIS.same hI;clear hI;clear k0 k1 k2 k3 k4 k5 ltk_4 a0 a1 a2 a3 a4 a5 a6 a7 lta_4;obtain⟨HA0,hbx⟩:=aJ hb;replace Bk:=upK Bk hbx;replace Ba:=upK Ba hbx;have Bx:=aa HA0;replace HY:=aa (HY.below hbx);replace HO2:=aa (HO2.below hbx);replace HB:=upB HB hbx;clear hb hbx HA0;have HQ5:Hid (w4.heap.size<w5.heap.size):=ae Bx.out;have HO1:=aa (ho.cX (S':=fun k=>w4.heap.size+1<=k/\k<w5.heap.size) (fun k hk s=>⟨(show w4.heap.size+1<=k by simpa using s),hk⟩));clear ho;have hlz:cO 1 o.c.raw<=1152921504606846976:=HIS.marks HF.out;have HH:=aa (fun (W:World) (hr:aI W dg1 (mkC 1 o.c.raw))=>iH dg1 o 1 W hr ak hlz);obtain⟨M,hM⟩:∃M:Int,M=cO 1 o.c.raw:=⟨_,rfl⟩;have hM0:(0:Int)<M:=by rw[hM];have:=iw 1 o.c.raw;omega
 rw[<-hM] at HH;have HMM:=aa hM;clear hM;obtain⟨k0,k1,k2,k3,k4,k5⟩:=cs6 Bk;have ltk_5:=ae Bk.out;obtain⟨a0,a1,a2,a3,a4,a5,a6,a7⟩:=cs8 Ba;have lta_5:=ae Ba.out;obtain⟨x0,x1,x2,x3,x4,x5⟩:=cs6 Bx;have ltx_5:=ae Bx.out;go_wp2_with fail;refine (ez dg1 dg0 o _ (HO1.row.below (ai _ _)) (R0.below (HY.below (ai _ _)).out)).mono ?_;rintro e w6 ⟨rfl,hb⟩;clear k0 k1 k2 k3 k4 k5 ltk_5 a0 a1 a2 a3 a4 a5 a6 a7 lta_5 x0 x1 x2 x3 x4 x5 ltx_5;obtain⟨HA0,hbx⟩:=aJ hb;replace Bk:=upK Bk hbx;replace Ba:=upK Ba hbx;replace Bx:=upK Bx hbx;have Bg:=aa HA0;replace HY:=aa (HY.below hbx);replace HO2:=aa (HO2.below hbx);replace HO1:=aa (HO1.below hbx);replace HB:=upB HB hbx;clear hb hbx HA0;obtain⟨W,hW0⟩:∃W,W=w6:=⟨_,rfl⟩;rw[<-hW0] at HB HY HO2 HO1 Bk Ba Bx Bg;go_wp2_with fail;rw[<-hW0];clear hW0;rename_i K0 hK0;refine cg (back:=none) an (List.append_nil _).symm an ?_;refine' Grow.stepC _ rfl ?_ ?_;rotate_left 1
 ·refine Obl.plain rfl ?_;intro ac wg K hsz hW hf hK;clear hsz;have e7:=hf 7 ak;simp[aq,vH] at e7;clear hf;obtain⟨k0,k1,k2,k3,k4,k5⟩:=cs6 ((hW.block _ (ae Bx.out)).trans Bx.out);exact bT
 refine' Grow.stepC _ rfl ?_ ?_;rotate_left 1
 ·refine Obl.plain rfl ?_;intro ac wg K hsz hW hf hK;clear hsz;have e2:=hf 2 ak;simp[aq,vH] at e2;exact fq
 refine Grow.step (cQ c) rfl (cQ.mono c) ?_ ?_
 ·refine Obl.plain rfl ?_;intro ac wg K hsz hW hf hK;clear hsz;have e35:=hf 35 ak;simp[aq,vH] at e35;clear hf;go_simp;refine (cD d c _ (HR.below (HB.trans (hW.mono HB.size))) HF.out).mono ?_;rintro e w6 ⟨d3,rfl,ho,hb6⟩;exact hK _ _ hb6 ⟨d3,rfl,ho.row⟩
 refine' Grow.stepC (.bool true) rfl ?_ ?_
 ·refine Obl.plain rfl ?_;intro ac wg K hsz hW hf hK;clear hsz;have e34:=hf 34 ak;simp[aq,vH] at e34;have e36:=hf 36 ak;simp[aq,vH] at e36;obtain⟨d3,e36,hrow⟩:=e36;clear hf;go_simp;refine (er d2 d3 c _ (HO2.row.below hW) hrow).mono ?_;rintro e w6 ⟨rfl,hb6⟩;exact hK _ _ hb6 rfl
 refine' Grow.stepC _ rfl ?_ ?_;rotate_left 1
 ·exact pb
 refine Grow.done ?_;intro q wz hW hf;simp only[wP] at hf;obtain⟨h38,-⟩:=hf;have hb:=hW;refine hK0 _ _ ?_;simp only[aU,xD,Act.put,wq,wM,wT,h38];clear hK0;replace Bk:=upK Bk hb;replace Ba:=upK Ba hb;replace Bx:=upK Bx hb;replace Bg:=upK Bg hb;replace HY:=aa (HY.below hb);replace HO2:=aa (HO2.below hb);replace HO1:=aa (HO1.below hb);replace HB:=upB HB hb;clear hb;clear hW;obtain⟨rk,hrk⟩:∃r:Int,r=cO 1 c.raw:=⟨_,rfl⟩;have hrk0:decide (rk<0)=false:=by rw[decide_eq_false_iff_not,hrk];have:=iw 1 c.raw;omega
 obtain⟨k0,k1,k2,k3,k4,k5⟩:=cs6 Bk;have ltk_7:=ae Bk.out;obtain⟨a0,a1,a2,a3,a4,a5,a6,a7⟩:=cs8 Ba;have lta_7:=ae Ba.out;obtain⟨x0,x1,x2,x3,x4,x5⟩:=cs6 Bx;have ltx_7:=ae Bx.out;obtain⟨g0,g1,g2,g3,g4,g5,g6,g7⟩:=cs8 Bg;have ltg_7:=ae Bg.out;go_wp2_with fail;refine (dI d2 c 1 _ wz HO2.out (fun k s=>by have s2:=s.2;have q9:=HY.le;have q8:=ae Bx.out;have q3:=HQ3.out;have q4:=HQ4.out;have q5:=HQ5.out;omega) ak HF.marks).mono ?_;rintro e w8 ⟨rfl,ho,hk⟩;clear k0 k1 k2 k3 k4 k5 ltk_7 a0 a1 a2 a3 a4 a5 a6 a7 lta_7 x0 x1 x2 x3 x4 x5 ltx_7 g0 g1 g2 g3 g4 g5 g6 g7 ltg_7;obtain⟨Ck,Ca,Cx,Cg⟩:=sC;have HB8:=aa (HB.trans (hk.low (X:=w.heap.size) HB.size (fun k s=>by have s1:=s.1;have q3:=HQ3.out;have q4:=HQ4.out;have q5:=HQ5.out;omega)));have CHY:=aa (HY.kept hk (fun k s=>by have s1:=s.1;have q3:=HQ3.out;have q4:=HQ4.out;have q5:=HQ5.out;omega));have CHO1:=aa (HO1.kept hk (fun k s s'=>by have s1:=s.1;have s2:=s.2;have t1:=s'.1;have t2:=s'.2;have q3:=HQ3.out;have q4:=HQ4.out;have q5:=HQ5.out;omega));clear HB HY hk HO2 HO1 Bk Ba Bx Bg;have HB:=HB8;clear HB8;have HY:=CHY;clear CHY;have HO1:=CHO1;clear CHO1;have Bk:=Ck;clear Ck;have Ba:=Ca;clear Ca;have Bx:=Cx;clear Cx;have Bg:=Cg;clear Cg;clear ho;rw[<-hrk];clear hrk;obtain⟨k0,k1,k2,k3,k4,k5⟩:=cs6 Bk;have ltk_8:=ae Bk.out;obtain⟨a0,a1,a2,a3,a4,a5,a6,a7⟩:=cs8 Ba;have lta_8:=ae Ba.out;obtain⟨x0,x1,x2,x3,x4,x5⟩:=cs6 Bx;have ltx_8:=ae Bx.out;obtain⟨g0,g1,g2,g3,g4,g5,g6,g7⟩:=cs8 Bg;have ltg_8:=ae Bg.out;go_wp2_with fail;refine (ez dg1 dg0 o _ (HO1.row) (R0.below HY.out)).mono ?_;rintro e w9 ⟨rfl,hb⟩;clear k0 k1 k2 k3 k4 k5 ltk_8 a0 a1 a2 a3 a4 a5 a6 a7 lta_8 x0 x1 x2 x3 x4 x5 ltx_8 g0 g1 g2 g3 g4 g5 g6 g7 ltg_8;replace Bk:=upK Bk hb;replace Ba:=upK Ba hb;replace Bx:=upK Bx hb;replace Bg:=upK Bg hb;replace HY:=aa (HY.below hb);replace HO1:=aa (HO1.below hb);replace HB:=upB HB hb;clear hb;clear hrk0;obtain⟨k0,k1,k2,k3,k4,k5⟩:=cs6 Bk;have ltk_9:=ae Bk.out;obtain⟨a0,a1,a2,a3,a4,a5,a6,a7⟩:=cs8 Ba;have lta_9:=ae Ba.out;obtain⟨x0,x1,x2,x3,x4,x5⟩:=cs6 Bx;have ltx_9:=ae Bx.out;obtain⟨g0,g1,g2,g3,g4,g5,g6,g7⟩:=cs8 Bg;have ltg_9:=ae Bg.out;go_wp2_with fail;refine (ix dg1 o 1 _ _ HO1.out (fun k s=>by have s2:=s.2;have q9:=HB.size;have q8:=HY.le;have q7:=ae Bg.out;have q3:=HQ3.out;have q4:=HQ4.out;have q5:=HQ5.out; omega) ak hlz).mono ?_;rintro e w10 ⟨rfl,ho,hk⟩;clear k0 k1 k2 k3 k4 k5 ltk_9 a0 a1 a2 a3 a4 a5 a6 a7 lta_9 x0 x1 x2 x3 x4 x5 ltx_9 g0 g1 g2 g3 g4 g5 g6 g7 ltg_9;obtain⟨Ck,Ca,Cx,Cg⟩:=sC;have HB10:=aa (HB.trans (hk.low (X:=w.heap.size) HB.size (fun k s=>by have s1:=s.1;have q3:=HQ3.out;have q4:=HQ4.out;have q5:=HQ5.out;omega)));have CHY:=aa (HY.kept hk (fun k s=>by have s1:=s.1;have q3:=HQ3.out;have q4:=HQ4.out;have q5:=HQ5.out;omega))
 clear HB HY hk HO1 Bk Ba Bx Bg;have HB:=HB10;clear HB10;have HY:=CHY;clear CHY;have Bk:=Ck;clear Ck;have Ba:=Ca;clear Ca;have Bx:=Cx;clear Cx;have Bg:=Cg;clear Cg;have HM1:=aa ho;clear ho;rw[<-HMM.out];obtain⟨k0,k1,k2,k3,k4,k5⟩:=cs6 Bk;have ltk_10:=ae Bk.out;obtain⟨a0,a1,a2,a3,a4,a5,a6,a7⟩:=cs8 Ba;have lta_10:=ae Ba.out;obtain⟨x0,x1,x2,x3,x4,x5⟩:=cs6 Bx;have ltx_10:=ae Bx.out;obtain⟨g0,g1,g2,g3,g4,g5,g6,g7⟩:=cs8 Bg;have ltg_10:=ae Bg.out;go_wp2_with fail;refine (HH.out _ HM1.row).mono ?_;rintro e w11 ⟨rfl,hb⟩;clear k0 k1 k2 k3 k4 k5 ltk_10 a0 a1 a2 a3 a4 a5 a6 a7 lta_10 x0 x1 x2 x3 x4 x5 ltx_10 g0 g1 g2 g3 g4 g5 g6 g7 ltg_10;replace Bk:=upK Bk hb;replace Ba:=upK Ba hb;replace Bx:=upK Bx hb;replace Bg:=upK Bg hb;replace HY:=aa (HY.below hb);replace HM1:=aa (HM1.below hb);replace HB:=upB HB hb;clear hb;obtain⟨k0,k1,k2,k3,k4,k5⟩:=cs6 Bk;have ltk_11:=ae Bk.out;go_wp2_with fail;refine (cD d c _ (HR.below HB.out) HF.out).mono ?_;rintro e w12 ⟨d4,rfl,ho,hb⟩;clear k0 k1 k2 k3 k4 k5 ltk_11;replace Bk:=upK Bk hb;replace Ba:=upK Ba hb;replace Bx:=upK Bx hb;replace Bg:=upK Bg hb;replace HY:=aa (HY.below hb);replace HM1:=aa (HM1.below hb);replace HB:=upB HB hb;clear hb;have HO:=aa ho.row;clear ho;go_wp2_with fail;refine (gG d4 c t E _ HO.out (HE.below HB.out)).mono ?_;rintro e w13 ⟨dg2,o2,rfl,hI,ho,hb⟩;obtain rfl:=HIS.same hI;clear hI HO;have HR2:=aa ho.row;clear ho;replace Bk:=upK Bk hb;replace Ba:=upK Ba hb;replace Bx:=upK Bx hb;replace Bg:=upK Bg hb;replace HY:=aa (HY.below hb);replace HM1:=aa (HM1.below hb);replace HB:=upB HB hb;clear hb;obtain⟨k0,k1,k2,k3,k4,k5⟩:=cs6 Bk;have ltk_13:=ae Bk.out;obtain⟨a0,a1,a2,a3,a4,a5,a6,a7⟩:=cs8 Ba;have lta_13:=ae Ba.out;obtain⟨x0,x1,x2,x3,x4,x5⟩:=cs6 Bx;have ltx_13:=ae Bx.out;obtain⟨g0,g1,g2,g3,g4,g5,g6,g7⟩:=cs8 Bg;have ltg_13:=ae Bg.out;go_wp2_with fail;refine (ez dg2 dg0 o _ (HR2.below (ai _ _)) (R0.below (HY.below (ai _ _)).out)).mono ?_;rintro e w14 ⟨rfl,hb⟩;clear k0 k1 k2 k3 k4 k5 ltk_13 a0 a1 a2 a3 a4 a5 a6 a7 lta_13 x0 x1 x2 x3 x4 x5 ltx_13 g0 g1 g2 g3 g4 g5 g6 g7 ltg_13;obtain⟨HA0,hbx⟩:=aJ hb;replace Bk:=upK Bk hbx;replace Ba:=upK Ba hbx;replace Bx:=upK Bx hbx;replace Bg:=upK Bg hbx;have Bh:=aa HA0;replace HY:=aa (HY.below hbx);replace HM1:=aa (HM1.below hbx);replace HB:=upB HB hbx;clear hb hbx HA0;obtain⟨k0,k1,k2,k3,k4,k5⟩:=cs6 Bk;have ltk_14:=ae Bk.out;obtain⟨g0,g1,g2,g3,g4,g5,g6,g7⟩:=cs8 Bg;have ltg_14:=ae Bg.out;go_wp2_with fail;refine (HH.out _ HM1.row).mono ?_;rintro e w15 ⟨rfl,hb⟩;clear k0 k1 k2 k3 k4 k5 ltk_14 g0 g1 g2 g3 g4 g5 g6 g7 ltg_14;replace Bk:=upK Bk hb;replace Ba:=upK Ba hb;replace Bx:=upK Bx hb;replace Bg:=upK Bg hb;replace Bh:=upK Bh hb;replace HY:=aa (HY.below hb);replace HM1:=aa (HM1.below hb);replace HB:=upB HB hb
 clear hb;go_wp2_with fail;go_ret;exact⟨rfl,HB.out⟩

set_option linter.unusedVariables false in
theorem dK (a1:Option Addr) (l1 y1:Nat) (ns:List Nd) (a2:Option Addr) (l2 y2:Nat) (ks:List Kd) (a3:Option Addr) (l3 y3:Nat) (vs:List Vd) (a4:Option Addr) (l4 y4:Nat) (xs:List Xd) (a5:Option Addr) (l5 y5:Nat) (ps:List Pd) (now:Int) (t:ByteArray) (w:World)
  (h1:aE w a1 l1 y1 7 (ns.map ndF)) (h2:aE w a2 l2 y2 4 (ks.map kdF)) (h3:aE w a3 l3 y3 8 (vs.map vdF)) (h4:aE w a4 l4 y4 5 (xs.map xdF)) (h5:aE w a5 l5 y5 6 (ps.map pdF)) (_:(Lit.int .i64 now).wf=true) (ht:t.size<=maxLen) (hG:∃E,Ers w E):
  Calls Tryz.prog 3 #[.agg #[.slice a1 l1 y1,.slice a2 l2 y2,.slice a3 l3 y3,.slice a4 l4 y4,.slice a5 l5 y5,.int .i64 now],.string t] w fun e w'=>e=.returned (.bool true)/\Below w.heap.size w w':=
 by obtain⟨E,hG⟩:=hG;exact gH ⟨a1,l1,y1,a2,l2,y2,a3,l3,y3,a4,l4,y4,a5,l5,y5⟩ ⟨ns,ks,vs,xs,ps,now⟩ t E w ⟨h1,h2,h3,h4,h5⟩ ht hG

end Go.Proofs.YtjgjhkkmlaacdaaGreatDoor

namespace Go.Proofs.YtjgjhkkmlaacdaaGreatDoor
open Go.RowKit
namespace Rc

theorem iT: "*" ++ "errors.errorString" = "*errors.errorString":=by decide
theorem uM (u:TypeId) (h:Tryz.prog.typeName? 3 u=some "*errors.errorString"):u=208:=
 typeName_ptr_named (nm:= "errors.errorString") (by rw[iT];kernel_rfl) an ak u (by rw[iT];exact h)

theorem lu {P:Program} {W:World} {nm:String} {ti tp te ts:TypeId} {ms:Array (String×TypeId)} {f:Field} (hi:P.underlying ti=some (.interface ms)) (hrow:∀u,P.typeName? 3 u=some nm->u=tp)
  (hp:P.underlying tp=some (.pointer te)) (he:P.underlying te=some (.struct #[f])) (hft:f.type=ts) (hfo:f.offset=0) (hs:P.underlying ts=some .string) (hc:P.cellsOf te=1) (hcs:P.cellsOf ts=1):
  ∀(l:List (String×List UInt8)) (ps:List MemPlace),(∀x∈l,∃g,P.globalNamed x.1=some g/\(P.globals[g]?).map (·.type)=some ti)->
   DataW.LaidVars P W (l.map fun x=>(x.1,.iface nm (.ptr (.agg [.lit (.string x.2)])))) ps->ps.Nodup->
   (∀b off,MemPlace.cell b off∈ps->(∃c t,W.heap[b]?=some (.cells c t (0,0)))/\∀u v,W.cell? ⟨b,off,none⟩=some (.iface u v)->Value.okWide P W .any 0 u v)->
   ∃E:Nat->Addr,(∀(i:Nat) x,l[i]?=some x->W.var? P x.1=some #[.iface tp (.pointer (some (E i)))]/\MemPlace.cell (E i).block (E i).off∈ps)/\∀i j,i<l.length->j<l.length->E i=E j->i=j
 | [],ps,_,_,_,_=>⟨fun _=>⟨0,0,none⟩,fun i x h=>by simp at h,fun i j h=>by simp at h⟩
 | x ::l,ps,hT,hv,hnd,hrows=>by
  obtain⟨g,t,cs,fuel,p,q,hg,ht,hvar,hd,hq,rfl⟩:=hv;obtain⟨g',hg',ht'⟩:=hT x aW;obtain rfl:=vC (hg.symm.trans hg');obtain rfl:=vC (ht.symm.trans ht');have hsub:∀{y},y∈q->y∈MemPlace.row ⟨g,0,none⟩ cs.size++p++q:=fun h=>xB _ h;obtain⟨E,hE1,hE2⟩:=lu hi hrow hp he hft hfo hs hc hcs l q (fun y hy=>hT y (by simp[hy])) hq (List.Nodup.sublist (List.sublist_append_right _ _) hnd) (fun b off hm=>hrows b off (hsub hm));obtain⟨l0⟩:=cs;have ok0:∀u v,l0=[.iface u v]->Value.okWide P W .any 0 u v:=fun u v e=>by
   subst e;exact (hrows g 0 (by simp[MemPlace.row])).2 u v (by simpa using World.var?_cell hg hvar 0)
  obtain⟨a0,s0,rfl,hc0,hs0,hz0,rfl⟩:=errorString_of_trod hi hrow hp he hft hfo hs hc hcs hd ok0;have ha:MemPlace.cell a0.block a0.off∈MemPlace.row a0 1:=by simp[MemPlace.row]
  have hdis:∀i,i<l.length->¬E i=a0:=fun i hi' e=>by
   have h1:=(hE1 i _ (vF hi')).2;rw[e] at h1;have h2:=(List.nodup_append.1 hnd).2.2 _ (xB _ ha) _ h1;exact h2 rfl
  refine⟨fun i=>match i with|0=>a0|i+1=>E i,fun i y hy=>?_,fun i j hi' hj' e=>?_⟩
  ·cases i with
   | zero=>
    obtain rfl:x=y:=by simpa using hy
    exact⟨hvar,List.mem_append_left _ (xB _ ha)⟩
   | succ i=>
    obtain⟨h1,h2⟩:=hE1 i y (by simpa using hy);exact⟨h1,hsub h2⟩
  ·cases i with
   | zero=>cases j with
    | zero=>rfl
    | succ j=>exact absurd e.symm (hdis j (by simpa using hj'))
   | succ i=>cases j with
    | zero=>exact absurd e (hdis i (by simpa using hi'))
    | succ j=>rw[hE2 i j (by simpa using hi') (by simpa using hj') e]

theorem iV {H:Type} {enc:TypeId×Value->H} {P:Program} {w:World} {sp:Nat->Bool} :∀(ns:List String) (gs:List (DataW H)) (ps:List MemPlace),DataW.TrodVars enc P w sp ns gs ps->gs.length=ns.length
 | [],[],_,_=>rfl
 | [],_ ::_,_,h=>h.elim
 | _ ::_,[],_,h=>h.elim
 | _ ::ns,_ ::gs,_,h=>by
  obtain⟨_,_,_,_,_,q,_,_,_,_,h1,_⟩:=h;simp[iV ns gs q h1]
theorem vq {α:Type} :∀{l:List α},l.length=10->∃a b c d e f g h i j,l=[a,b,c,d,e,f,g,h,i,j]
 | [a,b,c,d,e,f,g,h,i,j],_=>⟨a,b,c,d,e,f,g,h,i,j,rfl⟩

end Rc
end Go.Proofs.YtjgjhkkmlaacdaaGreatDoor

namespace Go.Proofs.YtjgjhkkmlaacdaaGreatDoor
open Go.RowKit Go.ChangeShapes Go.WideShapes Go.Deep

theorem uy {α:Type} {l:List α} (h:l.length=6):∃x0 x1 x2 x3 x4 x5,l=[x0,x1,x2,x3,x4,x5]:=by
 match l,h with
 | [x0,x1,x2,x3,x4,x5],_=>exact⟨_,_,_,_,_,_,rfl⟩
section
variable {H:Type} {enc:TypeId×Value->H} {P:Program} {w:World} {base:Nat} {spare:Nat->Bool} {held:Bool}

theorem nz {r:Reach} {b0:Nat} {t:TypeId} {fs:Array Field} {v:Value} {d:DataW H} {p:List MemPlace} (hs:P.underlying t=some (.struct fs)) (hone:oneCellFields P fs=true) (hC:P.cellsOf t=fs.size)
  (hv:Value.okWide P w r b0 t v) (h:DataW.Trod enc P w base spare held t v d p):
  ∃(cs:List Value) (n:Nat),v=.agg cs.toArray/\cs.length=fs.size/\∀(i:Nat) (f:Field),fs[i]?=some f->∃c y,cs[i]?=some c/\xe enc P w base spare held n f.type [c]=some y:=by
 obtain⟨cs,rfl,hsz⟩:=okWide_struct hs hv;obtain⟨fuel,hf⟩:=h;obtain⟨xs,n,_,hx,hl,hlen,hf'⟩:=DataW.trod_struct hs hf;refine⟨cs.toList,n,rfl,by rw[xp];exact hsz.trans hC,fun i f hi=>?_⟩;obtain⟨o,k⟩:=hone_of hone i f hi;have hlt:i<fs.size:=(vT.1 hi).1;have hlc:i<cs.toList.length:=by rw[xp,hsz,hC];exact hlt
 have g:=hf' i f hi;rw[o,k] at g;have e:((Value.agg cs).cells.toList.drop i).take 1=[cs.toList[i]'hlc]:=by
  show (cs.toList.drop i).take 1=_;rw[List.drop_eq_getElem_cons hlc];rfl
 exact pP

theorem dM {t e:TypeId} {n:Nat} {c:Value} {y:DataW H×List MemPlace} (ht:P.underlying t=some (.slice e)) (he:P.underlying e=some .string) (hc:P.cellsOf e=1)
  (h:xe enc P w base spare held n t [c]=some y):∃a len cap zs,c=.slice a len cap/\av w a len cap zs:=by
 rcases open_strs ht he hc h with ⟨hcs,_⟩|⟨a,len,cap,m,Sx,hcs,hb,hl,hm,hmm,_,hx⟩
 ·exact⟨none,0,0,[],by simpa using hcs,rfl,vD _,by omega,fun j x hx=>by simp at hx,Or.inl rfl⟩
 ·obtain⟨hlm,hm'⟩:=gX;refine⟨some a,len,cap,(wN len).map Sx,by simpa using hcs,by simp,hl,hm',fun j x hj=>?_,?_⟩
  ·rw[vL] at hj;by_cases hjl:j<len
   ·rw[List.getElem?_range hjl] at hj;obtain rfl:=vC hj;have:=(hx j af).2;unfold maxLen at this;omega
   ·exact oV
  ·by_cases h0:len=0
   ·subst h0;exact Or.inl rfl
   right;obtain⟨b,o,spot⟩:=a;have h0':=(hx 0 af).1;have hspot:spot=none:=by simpa[Addr.add] using World.cell?_spot h0'
   subst hspot;refine⟨b,o,rfl,?_,fun j x hj=>?_⟩
   ·rw[wv] at h0';rcases Nat.lt_or_ge b w.heap.size with h1|h1
    ·exact h1
    ·simp[World.cell?,Array.getElem?_eq_none h1] at h0'
   ·rw[vL] at hj;by_cases hjl:j<len
    ·rw[List.getElem?_range hjl] at hj;obtain rfl:=vC hj;have:=(hx j af).1;rw[wv] at this;exact this
    ·exact oV
end

section
variable {H:Type} {enc:TypeId×Value->H} {w:World} {base:Nat} {spare:Nat->Bool} {held:Bool}

theorem dr {P:Program} {n:Nat} {t:TypeId} {fs:Array Field} {cs:List Value} {x:DataW H×List MemPlace} (hs:P.underlying t=some (.struct fs)) (hone:oneCellFields P fs=true) (hC:P.cellsOf t=fs.size)
  (h:xe enc P w base spare held n t cs=some x):
  ∃(n:Nat),cs.length=fs.size/\∀(i:Nat) (f:Field),fs[i]?=some f->∃c y,cs[i]?=some c/\xe enc P w base spare held n f.type [c]=some y:=by
 obtain⟨xs,n,_,hx,hl,hlen,hf'⟩:=DataW.trod_struct hs h;refine⟨n,hl.trans hC,fun i f hi=>?_⟩;obtain⟨o,k⟩:=hone_of hone i f hi;have hlt:i<fs.size:=(vT.1 hi).1;have hlc:i<cs.length:=by rw[hl,hC];exact hlt
 have g:=hf' i f hi;rw[o,k] at g;have e:(cs.drop i).take 1=[cs[i]'hlc]:=by
  rw[List.drop_eq_getElem_cons hlc];rfl
 exact pP

end

end Go.Proofs.YtjgjhkkmlaacdaaGreatDoor

namespace Go.Proofs.YtjgjhkkmlaacdaaGreatDoor
open Go.RowKit Go.ChangeShapes Go.WideShapes Go.Deep
namespace Rc

section
variable {H:Type} {enc:TypeId×Value->H} {w:World} {base:Nat} {spare:Nat->Bool} {held:Bool}

theorem lf {b o n:Nat} {cs:List Value} {x:DataW H×List MemPlace} (hc:∀i,i<7->w.cell? ⟨b,o+i,none⟩=cs[i]?) (h:xe enc Tryz.prog w base spare held n 90 cs=some x):∃v:Nd,RAt w b o (ndF v):=by
 obtain⟨m,hl,hf⟩:=dr Tryz.underlying90 an an h;obtain⟨c0,y0,e0,t0⟩:=hf 0 _ rfl;obtain⟨b0,q0,-,s0⟩:=wF Tryz.underlying9 t0;obtain rfl:c0=.string b0:=by simpa using q0
 obtain⟨c1,y1,e1,t1⟩:=hf 1 _ rfl;obtain⟨b1,q1,-,s1⟩:=wF Tryz.underlying9 t1;obtain rfl:c1=.string b1:=by simpa using q1
 obtain⟨c2,y2,e2,t2⟩:=hf 2 _ rfl;obtain⟨b2,q2,-,s2⟩:=xr Tryz.underlying2 t2;obtain rfl:c2=.int .i64 b2:=by simpa using q2
 obtain⟨c3,y3,e3,t3⟩:=hf 3 _ rfl;obtain⟨b3,q3,-,s3⟩:=xr Tryz.underlying2 t3;obtain rfl:c3=.int .i64 b3:=by simpa using q3
 obtain⟨c4,y4,e4,t4⟩:=hf 4 _ rfl;obtain⟨b4,q4,-,s4⟩:=xr Tryz.underlying2 t4;obtain rfl:c4=.int .i64 b4:=by simpa using q4
 obtain⟨c5,y5,e5,t5⟩:=hf 5 _ rfl;obtain⟨b5,q5,-⟩:=xy Tryz.underlying4 t5;obtain rfl:c5=.bool b5:=by simpa using q5
 obtain⟨c6,y6,e6,t6⟩:=hf 6 _ rfl;obtain⟨b6,l6,p6,zz,rfl,r6⟩:=dM Tryz.underlying54 Tryz.underlying9 an t6;unfold maxLen at s0 s1;refine⟨⟨b0,b1,b2,b3,b4,b5,zz⟩,fun i f hi=>?_⟩;rcases i with _|_|_|_|_|_|_|i
 ·exact jJ
 ·cases hi;exact⟨_,(hc 1 af).trans e1,rfl,show b1.size<=_ by omega⟩
 ·cases hi;exact⟨_,(hc 2 af).trans e2,rfl⟩
 ·cases hi;exact⟨_,(hc 3 af).trans e3,rfl⟩
 ·cases hi;exact⟨_,(hc 4 af).trans e4,rfl⟩
 ·cases hi;exact⟨_,(hc 5 af).trans e5,rfl⟩
 ·cases hi;exact⟨_,(hc 6 af).trans e6,b6,l6,p6,rfl,r6⟩
 ·first|(cases hi;done)|(simp[ndF] at hi;done)

theorem ri {n:Nat} {c:Value} {y:DataW H×List MemPlace} (h:xe enc Tryz.prog w base spare held n 22 [c]=some y):∃a len cap,∃xs:List Nd,c=.slice a len cap/\aE w a len cap 7 (xs.map ndF):=by
 rcases open_slice Tryz.underlying22 h with ⟨hcs,_⟩|⟨a,len,cap,m,n',D,Pl,hcs,hb,hl,hm,hmm,_,hx⟩
 ·exact gi
 obtain⟨hlm,hm'⟩:=gX;have hce:Tryz.prog.cellsOf 90=7:=an
 rw[hce] at hx;by_cases h0:len=0
 ·exact gh
 obtain⟨b,o,spot⟩:=a;obtain⟨cs0,k1,k2⟩:=hx 0 af;have hspot:spot=none:=by
  exact gp
 subst hspot;have hblt:b<w.heap.size:=by
  exact gq
 have each:∀i,i<len->∃v:Nd,RAt w b (o+i*7) (ndF v):=fun i hi=>by
  obtain⟨cs,k1,k2⟩:=hx i af;obtain⟨_,hl0,hc0⟩:=World.cells?_some k1;refine lf (fun j hj=>?_) k2;exact gj
 have hin:Inhabited Nd:=⟨⟨⟨#[]⟩,⟨#[]⟩,0,0,0,false,[]⟩⟩;exact jV

theorem lv {b o n:Nat} {cs:List Value} {x:DataW H×List MemPlace} (hc:∀i,i<4->w.cell? ⟨b,o+i,none⟩=cs[i]?) (h:xe enc Tryz.prog w base spare held n 93 cs=some x):∃v:Kd,RAt w b o (kdF v):=by
 obtain⟨m,hl,hf⟩:=dr Tryz.underlying93 an an h;obtain⟨c0,y0,e0,t0⟩:=hf 0 _ rfl;obtain⟨b0,q0,-,s0⟩:=wF Tryz.underlying9 t0;obtain rfl:c0=.string b0:=by simpa using q0
 obtain⟨c1,y1,e1,t1⟩:=hf 1 _ rfl;obtain⟨b1,q1,-⟩:=xy Tryz.underlying4 t1;obtain rfl:c1=.bool b1:=by simpa using q1
 obtain⟨c2,y2,e2,t2⟩:=hf 2 _ rfl;obtain⟨b2,q2,-⟩:=xy Tryz.underlying4 t2;obtain rfl:c2=.bool b2:=by simpa using q2
 obtain⟨c3,y3,e3,t3⟩:=hf 3 _ rfl;obtain⟨b3,q3,-,s3⟩:=wF Tryz.underlying9 t3;obtain rfl:c3=.string b3:=by simpa using q3
 unfold maxLen at s0 s3;refine⟨⟨b0,b1,b2,b3⟩,fun i f hi=>?_⟩;rcases i with _|_|_|_|i
 ·exact jJ
 ·cases hi;exact⟨_,(hc 1 af).trans e1,rfl⟩
 ·cases hi;exact⟨_,(hc 2 af).trans e2,rfl⟩
 ·cases hi;exact⟨_,(hc 3 af).trans e3,rfl,show b3.size<=_ by omega⟩
 ·first|(cases hi;done)|(simp[kdF] at hi;done)

theorem rj {n:Nat} {c:Value} {y:DataW H×List MemPlace} (h:xe enc Tryz.prog w base spare held n 23 [c]=some y):∃a len cap,∃xs:List Kd,c=.slice a len cap/\aE w a len cap 4 (xs.map kdF):=by
 rcases open_slice Tryz.underlying23 h with ⟨hcs,_⟩|⟨a,len,cap,m,n',D,Pl,hcs,hb,hl,hm,hmm,_,hx⟩
 ·exact gi
 obtain⟨hlm,hm'⟩:=gX;have hce:Tryz.prog.cellsOf 93=4:=an
 rw[hce] at hx;by_cases h0:len=0
 ·exact gh
 obtain⟨b,o,spot⟩:=a;obtain⟨cs0,k1,k2⟩:=hx 0 af;have hspot:spot=none:=by
  exact gp
 subst hspot;have hblt:b<w.heap.size:=by
  exact gq
 have each:∀i,i<len->∃v:Kd,RAt w b (o+i*4) (kdF v):=fun i hi=>by
  obtain⟨cs,k1,k2⟩:=hx i af;obtain⟨_,hl0,hc0⟩:=World.cells?_some k1;refine lv (fun j hj=>?_) k2;exact gj
 have hin:Inhabited Kd:=⟨⟨⟨#[]⟩,false,false,⟨#[]⟩⟩⟩;exact jV

theorem kr {b o n:Nat} {cs:List Value} {x:DataW H×List MemPlace} (hc:∀i,i<8->w.cell? ⟨b,o+i,none⟩=cs[i]?) (h:xe enc Tryz.prog w base spare held n 96 cs=some x):∃v:Vd,RAt w b o (vdF v):=by
 obtain⟨m,hl,hf⟩:=dr Tryz.underlying96 an an h;obtain⟨c0,y0,e0,t0⟩:=hf 0 _ rfl;obtain⟨b0,q0,-,s0⟩:=wF Tryz.underlying9 t0;obtain rfl:c0=.string b0:=by simpa using q0
 obtain⟨c1,y1,e1,t1⟩:=hf 1 _ rfl;obtain⟨b1,q1,-,s1⟩:=xr Tryz.underlying2 t1;obtain rfl:c1=.int .i64 b1:=by simpa using q1
 obtain⟨c2,y2,e2,t2⟩:=hf 2 _ rfl;obtain⟨b2,q2,-,s2⟩:=wF Tryz.underlying9 t2;obtain rfl:c2=.string b2:=by simpa using q2
 obtain⟨c3,y3,e3,t3⟩:=hf 3 _ rfl;obtain⟨b3,q3,-,s3⟩:=wF Tryz.underlying9 t3;obtain rfl:c3=.string b3:=by simpa using q3
 obtain⟨c4,y4,e4,t4⟩:=hf 4 _ rfl;obtain⟨b4,q4,-⟩:=xy Tryz.underlying4 t4;obtain rfl:c4=.bool b4:=by simpa using q4
 obtain⟨c5,y5,e5,t5⟩:=hf 5 _ rfl;obtain⟨b5,q5,-,s5⟩:=wF Tryz.underlying9 t5;obtain rfl:c5=.string b5:=by simpa using q5
 obtain⟨c6,y6,e6,t6⟩:=hf 6 _ rfl;obtain⟨b6,q6,-⟩:=xy Tryz.underlying4 t6;obtain rfl:c6=.bool b6:=by simpa using q6
 obtain⟨c7,y7,e7,t7⟩:=hf 7 _ rfl;obtain⟨b7,l7,p7,zz,rfl,r7⟩:=dM Tryz.underlying54 Tryz.underlying9 an t7;unfold maxLen at s0 s2 s3 s5;refine⟨⟨b0,b1,b2,b3,b4,b5,b6,zz⟩,fun i f hi=>?_⟩;rcases i with _|_|_|_|_|_|_|_|i
 ·exact jJ
 ·cases hi;exact⟨_,(hc 1 af).trans e1,rfl⟩
 ·exact kV
 ·cases hi;exact⟨_,(hc 3 af).trans e3,rfl,show b3.size<=_ by omega⟩
 ·cases hi;exact⟨_,(hc 4 af).trans e4,rfl⟩
 ·cases hi;exact⟨_,(hc 5 af).trans e5,rfl,show b5.size<=_ by omega⟩
 ·cases hi;exact⟨_,(hc 6 af).trans e6,rfl⟩
 ·cases hi;exact⟨_,(hc 7 af).trans e7,b7,l7,p7,rfl,r7⟩
 ·first|(cases hi;done)|(simp[vdF] at hi;done)

theorem rf {n:Nat} {c:Value} {y:DataW H×List MemPlace} (h:xe enc Tryz.prog w base spare held n 24 [c]=some y):∃a len cap,∃xs:List Vd,c=.slice a len cap/\aE w a len cap 8 (xs.map vdF):=by
 rcases open_slice Tryz.underlying24 h with ⟨hcs,_⟩|⟨a,len,cap,m,n',D,Pl,hcs,hb,hl,hm,hmm,_,hx⟩
 ·exact gi
 obtain⟨hlm,hm'⟩:=gX;have hce:Tryz.prog.cellsOf 96=8:=an
 rw[hce] at hx;by_cases h0:len=0
 ·exact gh
 obtain⟨b,o,spot⟩:=a;obtain⟨cs0,k1,k2⟩:=hx 0 af;have hspot:spot=none:=by
  exact gp
 subst hspot;have hblt:b<w.heap.size:=by
  exact gq
 have each:∀i,i<len->∃v:Vd,RAt w b (o+i*8) (vdF v):=fun i hi=>by
  obtain⟨cs,k1,k2⟩:=hx i af;obtain⟨_,hl0,hc0⟩:=World.cells?_some k1;refine kr (fun j hj=>?_) k2;exact gj
 have hin:Inhabited Vd:=⟨⟨⟨#[]⟩,0,⟨#[]⟩,⟨#[]⟩,false,⟨#[]⟩,false,[]⟩⟩;exact jV

theorem kl {b o n:Nat} {cs:List Value} {x:DataW H×List MemPlace} (hc:∀i,i<5->w.cell? ⟨b,o+i,none⟩=cs[i]?) (h:xe enc Tryz.prog w base spare held n 99 cs=some x):∃v:Xd,RAt w b o (xdF v):=by
 obtain⟨m,hl,hf⟩:=dr Tryz.underlying99 an an h;obtain⟨c0,y0,e0,t0⟩:=hf 0 _ rfl;obtain⟨b0,q0,-,s0⟩:=wF Tryz.underlying9 t0;obtain rfl:c0=.string b0:=by simpa using q0
 obtain⟨c1,y1,e1,t1⟩:=hf 1 _ rfl;obtain⟨b1,q1,-,s1⟩:=xr Tryz.underlying2 t1;obtain rfl:c1=.int .i64 b1:=by simpa using q1
 obtain⟨c2,y2,e2,t2⟩:=hf 2 _ rfl;obtain⟨b2,q2,-,s2⟩:=wF Tryz.underlying9 t2;obtain rfl:c2=.string b2:=by simpa using q2
 obtain⟨c3,y3,e3,t3⟩:=hf 3 _ rfl;obtain⟨b3,q3,-⟩:=xy Tryz.underlying4 t3;obtain rfl:c3=.bool b3:=by simpa using q3
 obtain⟨c4,y4,e4,t4⟩:=hf 4 _ rfl;obtain⟨b4,q4,-,s4⟩:=wF Tryz.underlying9 t4;obtain rfl:c4=.string b4:=by simpa using q4
 unfold maxLen at s0 s2 s4;refine⟨⟨b0,b1,b2,b3,b4⟩,fun i f hi=>?_⟩;rcases i with _|_|_|_|_|i
 ·exact jJ
 ·cases hi;exact⟨_,(hc 1 af).trans e1,rfl⟩
 ·exact kV
 ·cases hi;exact⟨_,(hc 3 af).trans e3,rfl⟩
 ·cases hi;exact⟨_,(hc 4 af).trans e4,rfl,show b4.size<=_ by omega⟩
 ·first|(cases hi;done)|(simp[xdF] at hi;done)

theorem re {n:Nat} {c:Value} {y:DataW H×List MemPlace} (h:xe enc Tryz.prog w base spare held n 25 [c]=some y):∃a len cap,∃xs:List Xd,c=.slice a len cap/\aE w a len cap 5 (xs.map xdF):=by
 rcases open_slice Tryz.underlying25 h with ⟨hcs,_⟩|⟨a,len,cap,m,n',D,Pl,hcs,hb,hl,hm,hmm,_,hx⟩
 ·exact gi
 obtain⟨hlm,hm'⟩:=gX;have hce:Tryz.prog.cellsOf 99=5:=an
 rw[hce] at hx;by_cases h0:len=0
 ·exact gh
 obtain⟨b,o,spot⟩:=a;obtain⟨cs0,k1,k2⟩:=hx 0 af;have hspot:spot=none:=by
  exact gp
 subst hspot;have hblt:b<w.heap.size:=by
  exact gq
 have each:∀i,i<len->∃v:Xd,RAt w b (o+i*5) (xdF v):=fun i hi=>by
  obtain⟨cs,k1,k2⟩:=hx i af;obtain⟨_,hl0,hc0⟩:=World.cells?_some k1;refine kl (fun j hj=>?_) k2;exact gj
 have hin:Inhabited Xd:=⟨⟨⟨#[]⟩,0,⟨#[]⟩,false,⟨#[]⟩⟩⟩;exact jV

theorem kX {b o n:Nat} {cs:List Value} {x:DataW H×List MemPlace} (hc:∀i,i<6->w.cell? ⟨b,o+i,none⟩=cs[i]?) (h:xe enc Tryz.prog w base spare held n 102 cs=some x):∃v:Pd,RAt w b o (pdF v):=by
 obtain⟨m,hl,hf⟩:=dr Tryz.underlying102 an an h;obtain⟨c0,y0,e0,t0⟩:=hf 0 _ rfl;obtain⟨b0,q0,-,s0⟩:=wF Tryz.underlying9 t0;obtain rfl:c0=.string b0:=by simpa using q0
 obtain⟨c1,y1,e1,t1⟩:=hf 1 _ rfl;obtain⟨b1,q1,-,s1⟩:=xr Tryz.underlying2 t1;obtain rfl:c1=.int .i64 b1:=by simpa using q1
 obtain⟨c2,y2,e2,t2⟩:=hf 2 _ rfl;obtain⟨b2,q2,-,s2⟩:=wF Tryz.underlying9 t2;obtain rfl:c2=.string b2:=by simpa using q2
 obtain⟨c3,y3,e3,t3⟩:=hf 3 _ rfl;obtain⟨b3,l3,p3,zz,rfl,r3⟩:=dM Tryz.underlying54 Tryz.underlying9 an t3;obtain⟨c4,y4,e4,t4⟩:=hf 4 _ rfl;obtain⟨b4,q4,-,s4⟩:=wF Tryz.underlying9 t4;obtain rfl:c4=.string b4:=by simpa using q4
 obtain⟨c5,y5,e5,t5⟩:=hf 5 _ rfl;obtain⟨b5,q5,-,s5⟩:=xr Tryz.underlying2 t5;obtain rfl:c5=.int .i64 b5:=by simpa using q5
 unfold maxLen at s0 s2 s4;refine⟨⟨b0,b1,b2,zz,b4,b5⟩,fun i f hi=>?_⟩;rcases i with _|_|_|_|_|_|i
 ·exact jJ
 ·cases hi;exact⟨_,(hc 1 af).trans e1,rfl⟩
 ·exact kV
 ·cases hi;exact⟨_,(hc 3 af).trans e3,b3,l3,p3,rfl,r3⟩
 ·cases hi;exact⟨_,(hc 4 af).trans e4,rfl,show b4.size<=_ by omega⟩
 ·cases hi;exact⟨_,(hc 5 af).trans e5,rfl⟩
 ·first|(cases hi;done)|(simp[pdF] at hi;done)

theorem rh {n:Nat} {c:Value} {y:DataW H×List MemPlace} (h:xe enc Tryz.prog w base spare held n 26 [c]=some y):∃a len cap,∃xs:List Pd,c=.slice a len cap/\aE w a len cap 6 (xs.map pdF):=by
 rcases open_slice Tryz.underlying26 h with ⟨hcs,_⟩|⟨a,len,cap,m,n',D,Pl,hcs,hb,hl,hm,hmm,_,hx⟩
 ·exact gi
 obtain⟨hlm,hm'⟩:=gX;have hce:Tryz.prog.cellsOf 102=6:=an
 rw[hce] at hx;by_cases h0:len=0
 ·exact gh
 obtain⟨b,o,spot⟩:=a;obtain⟨cs0,k1,k2⟩:=hx 0 af;have hspot:spot=none:=by
  exact gp
 subst hspot;have hblt:b<w.heap.size:=by
  exact gq
 have each:∀i,i<len->∃v:Pd,RAt w b (o+i*6) (pdF v):=fun i hi=>by
  obtain⟨cs,k1,k2⟩:=hx i af;obtain⟨_,hl0,hc0⟩:=World.cells?_some k1;refine kX (fun j hj=>?_) k2;exact gj
 have hin:Inhabited Pd:=⟨⟨⟨#[]⟩,0,⟨#[]⟩,[],⟨#[]⟩,0⟩⟩;exact jV

end

end Rc
end Go.Proofs.YtjgjhkkmlaacdaaGreatDoor

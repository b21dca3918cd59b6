import Derived.Test.YtdfgbboadbnodaaGreatDoorK4
import Derived.Stop.LaidErr
import Derived.ChangeVars
import Derived.Deep.Strs
import Derived.Deep.Fields
import Derived.WideShapes
import Derived.ChangeArms
/-
 A node that wakes: what is told, and the specification.
-/
set_option maxRecDepth 100000
set_option maxHeartbeats 12800000
open And renaming intro→sw
open Array renaming getD_eq_getD_getElem?→sD, getElem?_push_size→sH, getElem?_eq_some_iff→sO, getElem?_setIfInBounds→sS, length_toList→tW
open Bool renaming and_eq_true→tl
open Go.Addr renaming add_lit→tB
open Go.Calls renaming quiet_of_same→sQ
open Go.DataW renaming trod_string→s8, trod→tI, trod_int→tY, trod_bool→ue
open Go.RowKit.Below renaming heap_setCell→sz, refl→sB, heap_alloc→sR
open Go.Value renaming string→sP
open Go.World renaming setCell→sZ
open Int renaming le_trans→sV, add_assoc→tq
open List renaming getElem?_eq_some_iff→sv, getElem?_eq_getElem→sA, take_of_length_le→sE, getElem?_map→sK, lookup→sM, length_take→sU, getElem?_take→sW, length_append→sY, getElem?_eq_none→s9, length_map→td, length_drop→tv, mem_cons→tz, range→tC, drop_eq_getElem_cons→tH
open Nat renaming le_refl→sy, le_trans→sC, lt_of_lt_of_le→sG, le_succ→sN, zero_add→th
open Option renaming map_eq_some_iff→sF
open Option.some renaming inj→sx, injEq→tn
namespace Go.Proofs.YtdfgbboadbnodaaGreatDoor
theorem mE {p:Prop} (h:p:=by simp[results,Tryz.results14,go_sem, *]):p:=h
end Go.Proofs.YtdfgbboadbnodaaGreatDoor
namespace Go.Proofs.YtdfgbboadbnodaaGreatDoor
theorem jb {p:Prop} (h:p:=by
 obtain⟨f,hf⟩:=choose_lt each;refine⟨some ⟨b,o,none⟩,len,cap,(tC len).map f,by simpa using hcs,by simp,hl,hm',.inr ⟨b,o,rfl,hblt,fun j r hj=>?_⟩⟩;rw[sK,sK] at hj;by_cases hjl:j<len
 ·rw[List.getElem?_range hjl] at hj;obtain rfl:=sx hj;exact hf j hjl
 ·rw[s9 cC] at hj;cases hj):p:=h
theorem qM {p:Prop} (h:p:=by
 rintro e w2 ⟨rfl,hb⟩;clear k0 k1 k2 k3 k4 k5 ltk_1;obtain⟨HA0,hbx⟩:=aJ hb;replace Bk:=upK Bk hbx;replace Br:=upK Br hbx;have Bg:=aa HA0;replace HB:=upB HB hbx;clear hb hbx HA0;clear hcc;obtain⟨r0,r1,r2,r3,r4,r5,r6,r7⟩:=cs8 Br;have ltr_2:=ae Br.out;obtain⟨fr0,fr1,fr2,fr3,fr4,fr5⟩:=eb;have fr6:=aq Br.out 6;have fr7:=aq Br.out 7;have hrl:w.heap.size+1<w2.heap.size:=ae Br.out;go_wp2;exact bodyPost_ret (v:=.agg #[.slice none 0 0,.slice none 0 0,.slice none 0 0,.slice none 0 0,.slice none 0 0,.int .i64 0,.string ⟨#[]⟩,.int .i64 cc]) (by simp[results,Tryz.results15,go_sem, *]) rfl ⟨ad0,co0 cc,rfl,HV.out,rA _ _,sb1 (sb1 (sb1 (sb1 (sb1 (sb1 (sb1 (sb1 (HB.out))))))))⟩):p:=h
theorem iP {p:Prop} (h:p:=by
 cases hi;exact⟨_,(hc 0 af).trans e0,rfl,show b0.size<=_ by omega⟩):p:=h
theorem mW {p:Prop} (h:p:=by
 cases hi;exact⟨_,(hc 2 af).trans e2,rfl,show b2.size<=_ by omega⟩):p:=h
theorem nT {p:Prop} (h:p:=by
 rw[e] at g;exact⟨_,xs[i]'(by omega),sA hlc,by rw[g,sA]⟩):p:=h
theorem fE {p:Prop} (h:p:=by
 obtain⟨_,hl0,hc0⟩:=World.cells?_some k1;have:=hc0 0 af;rw[sA af] at this;rcases Nat.lt_or_ge b w.heap.size with h1|h1
 ·exact h1
 ·simp[Addr.add,World.cell?,Array.getElem?_eq_none h1] at this):p:=h
theorem fD {p:Prop} (h:p:=by
 obtain⟨_,hl0,hc0⟩:=World.cells?_some k1;have:=hc0 0 af;rw[sA af] at this;simpa[Addr.add] using World.cell?_spot this):p:=h
theorem fA {p:Prop} (h:p:=by
 have:=hc0 j hj;rw[add_add,tB] at this;rw[Nat.add_assoc];exact this):p:=h
theorem fz {p:Prop} (h:p:=by
 exact⟨none,0,0,[],by simpa using hcs,rfl,sy _,by omega,.inl rfl⟩):p:=h
theorem fy {p:Prop} (h:p:=by
 subst h0;exact⟨some a,0,cap,[],by simpa using hcs,rfl,hl,hm',.inl rfl⟩):p:=h
theorem pT {p:Prop} (h:p:=by
 have Ck:=aa ((hk.block (w.heap.size) (ae Bk.out) (fun s=>by have s1:=s.1;have s2:=s.2;have q3:=HQ3.out;have q4:=HQ4.out;have q5:=HQ5.out;omega)).trans Bk.out);have Ca:=aa ((hk.block (w3.heap.size) (ae Ba.out) (fun s=>by have s1:=s.1;have s2:=s.2;have q3:=HQ3.out;have q4:=HQ4.out;have q5:=HQ5.out;omega)).trans Ba.out);have Cx:=aa ((hk.block (w4.heap.size) (ae Bx.out) (fun s=>by have s1:=s.1;have s2:=s.2;have q3:=HQ3.out;have q4:=HQ4.out;have q5:=HQ5.out;omega)).trans Bx.out);have Cg:=aa ((hk.block (w5.heap.size) (ae Bg.out) (fun s=>by have s1:=s.1;have s2:=s.2;have q3:=HQ3.out;have q4:=HQ4.out;have q5:=HQ5.out;omega)).trans Bg.out);exact sw Ck (sw Ca (sw Cx Cg))):p:=h
theorem f_ {p:Prop} (h:p:=by
 have hlm:len<=m:=by rw[hmm];split <;> omega
 have hm':cap<=9223372036854775807:=by unfold maxLen at hm;omega
 exact sw hlm hm'):p:=h
end Go.Proofs.YtdfgbboadbnodaaGreatDoor
namespace Go.Proofs.YtdfgbboadbnodaaGreatDoor
open Go.RowKit
namespace Rc
open Mk

def e_ (n:Nd):Nd:=⟨n.n,n.z,n.c,n.s,0,false,[]⟩
def dS (c:Cl) (t:ByteArray) (n:Nd):Cl:=⟨c.ns.set (pl Nd.n c.ns t) (e_ n),c.ks,c.vs,c.xs,c.ps,c.now⟩
def bN (c:Cl) (t:ByteArray) (o:Co):Prop:=(∃i,bY c t i/\o=co0 (cL i))\/∃n,cB c t n/\((n.d=false/\o=co0 (cL 8))\/(n.d=true/\o=⟨dS c t n,⟨#[]⟩,0⟩))
theorem bN.same {c:Cl} {t:ByteArray} {o o':Co} (h:bN c t o) (h':bN c t o'):o=o':=by
 rcases h with ⟨i,a,rfl⟩|⟨n,a,h⟩ <;> rcases h' with ⟨j,b,rfl⟩|⟨m,b,h'⟩
 ·rw[a.uniq b]
 ·exact (b.no a).elim
 ·exact (a.no b).elim
 ·obtain rfl:=a.uniq b;rcases h with ⟨h1,rfl⟩|⟨h1,rfl⟩ <;> rcases h' with ⟨h2,rfl⟩|⟨h2,rfl⟩
  ·rfl
  ·rw[h1] at h2;cases h2
  ·rw[h1] at h2;cases h2
  ·rfl
theorem bN.marks {c:Cl} {t:ByteArray} {o:Co} (h:bN c t o) (hf:fa c):cj 1 o.c.raw<=1152921504606846976:=by
 rcases h with ⟨i,_,rfl⟩|⟨n,a,⟨_,rfl⟩|⟨_,rfl⟩⟩
 ·exact gp _
 ·exact gp _
 ·refine fa.marks (c:=dS c t n) ⟨?_,fun j y hy=>?_,hf.l2,hf.l3,hf.f3,hf.l4,hf.l5,hf.f5⟩
  ·show (c.ns.set _ _).length<=_;rw[List.length_set];exact hf.l1
  ·have hy':(c.ns.set (pl Nd.n c.ns t) (e_ n))[j]?=some y:=hy;rw[cI (sv.1 a.2.2.1).1] at hy';split at hy'
   ·obtain rfl:=sx hy';show ([]:List ByteArray).length<=_;exact Nat.zero_le _
   ·exact hf.f1 j y hy'
theorem StJ.qS {g m:Nat} {T:TypeId} {S N:Nat->Prop} {w wr:World} {rs:List (List Fv)} {j:Nat} {r:List Fv} (h:StJ g m T S N w wr rs j r) {i:Nat} {old:Fv} (hi:r[i]?=some old):StJ g m T S N w (wr.setCell ⟨g,j*m+i,none⟩ (.slice none 0 0)) rs j (r.set i (.l [])):=by
 have hget:=h.get;obtain⟨⟨cur,H,h1,hN⟩,h2,h3⟩:=h;have hil:i<r.length:=(sv.1 hi).1;have hrm:=h1.len j r hget;obtain⟨v0,hc0,-⟩:=h1.cell j r hget i _ hi;have hin:j*m+i<cur.size:=(sO.1 hc0).1;have back:∀(j':Nat) r' (i':Nat) zs',(rs.set j (r.set i (.l [])))[j']?=some r'->r'[i']?=some (.l zs')->zs'≠[]->∃r0,(rs.set j r)[j']?=some r0/\r0[i']?=some (.l zs'):=by
  intro j' r' i' zs' hj' hi' hz;rcases cr h3 hil hj' hi' with ⟨_,_,e⟩|⟨_,q⟩
  ·cases e;exact absurd rfl hz
  ·exact q
 refine⟨⟨cur.setIfInBounds (j*m+i) (.slice none 0 0),H,⟨aD h1.blk _,h1.inS,fg h3 h1.len,fun j' r' hj' i' f' hi'=>?_,fun j' r' i' zs' j2 r2 i2 zs2 hj' hi' hz' hj2 hi2 hz2 hH=>?_⟩,fun j' r' i' zs' hj' hi' hz'=>?_⟩,h2.set h1.inS,h3⟩
 ·rcases cr h3 hil hj' hi' with ⟨rfl,rfl,rfl⟩|⟨hne,r0,q1,q2⟩
  ·exact⟨_,by rw[Array.getElem?_setIfInBounds_self_of_lt hin],⟨none,0,0,rfl,rfl,sy _,by decide,fun j x hx=>by simp at hx,.inl rfl⟩⟩
  ·exact qx
 ·obtain⟨r0,b1,b2⟩:=back j' r' i' zs' hj' hi' hz';obtain⟨r3,b3,b4⟩:=back j2 r2 i2 zs2 hj2 hi2 hz2;exact h1.inj j' r0 i' zs' j2 r3 i2 zs2 b1 b2 hz' b3 b4 hz2 hH
 ·obtain⟨r0,b1,b2⟩:=back j' r' i' zs' hj' hi' hz';exact hN j' r0 i' zs' b1 b2 hz'

theorem mB (d:Ad) (c:Cl) (t:ByteArray) (w:World) (hr:aL w d c.raw):
  Calls Tryz.prog 14 #[.agg #[.slice d.a1 d.l1 d.c1,.slice d.a2 d.l2 d.c2,.slice d.a3 d.l3 d.c3,.slice d.a4 d.l4 d.c4,.slice d.a5 d.l5 d.c5,.int .i64 c.now],.string t] w (rm (bN c t) w):=by
 obtain⟨a1,l1,y1,a2,l2,y2,a3,l3,y3,a4,l4,y4,a5,l5,y5⟩:=d;dsimp only;obtain⟨HR,hl1,hm1,hl2,hm2,hl3,hm3,hl4,hm4,hl5,hm5⟩:=o7;clear hr;have HB:=aa (sB w.heap.size w);go_enter Tryz.func14,Tryz.ntmps14;go_wp2_with fail;refine (lO ⟨a1,l1,y1,a2,l2,y2,a3,l3,y3,a4,l4,y4,a5,l5,y5⟩ c t _ (HR.below (HB.trans ((aB _ _ _).mono HB.size)))).mono ?_;rintro e w1 ⟨hb,hf⟩;obtain⟨HA0,HA1,hbx⟩:=bS hb;have Bk:=aa HA0;have Br:=aa HA1;replace HB:=upB HB hbx;clear hb hbx HA0 HA1;rcases hf with ⟨i,p,hw,hpi,hp0,rfl⟩|⟨j,n,hn,hok,rfl⟩
 ·have HV:Hid (bN c t (co0 p)):=.inl ⟨i,hw,by rw[hpi]⟩;have hp1:(p==0)=false:=by simpa using hp0
  clear hw hpi hp0;obtain⟨k0,k1,k2,k3,k4,k5⟩:=cs6 Bk;have ltk_1:=ae Bk.out;go_wp2_with fail;refine (ig p _).mono ?_;rintro e w2 ⟨rfl,hb⟩;clear k0 k1 k2 k3 k4 k5 ltk_1;replace Bk:=upK Bk hb;replace Br:=upK Br hb;replace HB:=upB HB hb;clear hb;obtain⟨r0,r1,r2,r3,r4,r5,r6,r7⟩:=cs8 Br;have ltr_2:=ae Br.out;obtain⟨fr0,fr1,fr2,fr3,fr4,fr5⟩:=eb;have fr6:=aq Br.out 6;have fr7:=aq Br.out 7;have hrl:=ae Br.out;go_wp2;exact bodyPost_ret (v:=.agg #[.slice none 0 0,.slice none 0 0,.slice none 0 0,.slice none 0 0,.slice none 0 0,.int .i64 0,.string ⟨#[]⟩,.int .i64 p]) mE rfl ⟨ad0,co0 p,rfl,HV.out,(rl0 _ _),sb1 (sb1 (sb1 (sb1 (sb1 (sb1 (sb1 (sb1 (HB.out))))))))⟩
 have HNJ:=aa hn;have HOK:=aa hok;clear hn hok;have HT:Hid (bV c):=HOK.2.1;have hj1:j<l1:=by have:=(sv.1 HNJ.out).1;omega
 have hj2:(j:Int)<l1:=af
 have hj0:¬(j:Int)<0:=af
 obtain⟨b,o,y,rfl,hbl,hy,hat⟩:=bq (HR.n.below HB.out) hj1;rw[HNJ.out] at hy;obtain rfl:=sx hy;obtain⟨ua,ul,uc,-,-,-,-,-,-,-,-,hd5,-⟩:=aK hat;clear hat hy;cases hd:n.d
 ·have HV:Hid (bN c t (co0 10)):=.inr ⟨n,HOK.out,.inl ⟨hd,rfl⟩⟩;rw[hd] at hd5;clear hd;obtain⟨k0,k1,k2,k3,k4,k5⟩:=cs6 Bk;have ltk_1:=ae Bk.out;go_wp2_with fail;refine (ig 10 _).mono ?_;rintro e w2 ⟨rfl,hb⟩;clear k0 k1 k2 k3 k4 k5 ltk_1;replace Bk:=upK Bk hb;replace Br:=upK Br hb;replace HB:=upB HB hb;clear hb;obtain⟨r0,r1,r2,r3,r4,r5,r6,r7⟩:=cs8 Br;have ltr_2:=ae Br.out;obtain⟨fr0,fr1,fr2,fr3,fr4,fr5⟩:=eb;have fr6:=aq Br.out 6;have fr7:=aq Br.out 7;have hrl:=ae Br.out;go_wp2;exact bodyPost_ret (v:=.agg #[.slice none 0 0,.slice none 0 0,.slice none 0 0,.slice none 0 0,.slice none 0 0,.int .i64 0,.string ⟨#[]⟩,.int .i64 10]) mE rfl ⟨ad0,co0 10,rfl,HV.out,(rl0 _ _),sb1 (sb1 (sb1 (sb1 (sb1 (sb1 (sb1 (sb1 (HB.out))))))))⟩
 have HV:Hid (bN c t ⟨dS c t n,⟨#[]⟩,0⟩):=.inr ⟨n,HOK.out,.inr ⟨hd,rfl⟩⟩;rw[hd] at hd5;clear hd;have HQ1:Hid (w.heap.size+1<w1.heap.size):=ae Br.out;obtain⟨k0,k1,k2,k3,k4,k5⟩:=cs6 Bk;have ltk_1:=ae Bk.out;go_wp2_with fail;have HLO:=aa HB.size;refine (jD ⟨(some ⟨b,o,none⟩),l1,y1,a2,l2,y2,a3,l3,y3,a4,l4,y4,a5,l5,y5⟩ c _ (HR.below HB.out) HT.sm).mono ?_;rintro e w3 ⟨d',rfl,ho,hb⟩;clear hd5 hbl;have HQ2:=aa hb.size;clear k0 k1 k2 k3 k4 k5 ltk_1;replace Bk:=upK Bk hb;replace Br:=upK Br hb;replace HB:=upB HB hb;clear hb;obtain⟨x1,m1,n1,x2,m2,n2,x3,m3,n3,x4,m4,n4,x5,m5,n5⟩:=d';have hm1:m1=l1:=by have h6:(c.ns.map ndF).length=m1:=ho.n.1;rw[td] at h6;omega
 subst hm1;obtain⟨g,hga,hS⟩:=(ho.n.da (S':=fun k=>w1.heap.size<=k/\k<w3.heap.size) (fun k hk s=>⟨s,hk⟩)).st (az.refl _ w3) (i:=j) (r:=ndF n) (show (c.ns.map ndF)[j]?=some (ndF n) by rw[sK,HNJ.out];rfl);have hga':x1=some ⟨g,0,none⟩:=hga;subst hga';have hq1:=HQ1.out;have hq2:=HQ2.out;have hgS:=(by obtain⟨⟨cur,H,h1,_⟩,_⟩:=hS;exact⟨h1.inS,ae h1.blk⟩:(w1.heap.size<=g/\g<w3.heap.size)/\g<w3.heap.size);obtain⟨⟨hg1,hg2⟩,-⟩:=hgS;obtain⟨v5,hv5⟩:=hS.cell (i:=5) rfl;obtain⟨v6,hv6⟩:=hS.cell (i:=6) rfl;obtain⟨v4,hv4⟩:=hS.cell (i:=4) rfl;have hf5:=hS.bJ (j*7+5);have hf6:=hS.bJ (j*7+6);have hf4:=hS.bJ (j*7+4);have HST:=aa hS;have HO:=aa ho;have hne:¬g=w3.heap.size:=af
 have hne2:¬w3.heap.size=g:=af
 have hne3:¬g=w.heap.size+1:=af
 have hne4:¬w.heap.size+1=g:=af
 have hne5:¬w.heap.size+1=w3.heap.size:=af
 have hne6:¬w3.heap.size=w.heap.size+1:=af
 clear hS ho hga;obtain⟨k0,k1,k2,k3,k4,k5⟩:=cs6 Bk;have ltk_2:=ae Bk.out;obtain⟨r0,r1,r2,r3,r4,r5,r6,r7⟩:=cs8 Br;have ltr_2:=ae Br.out;obtain⟨fr0,fr1,fr2,fr3,fr4,fr5⟩:=eb;have fr6:=aq Br.out 6;have fr7:=aq Br.out 7;go_wp2;have hlo:=HLO.out;refine bodyPost_ret (v:=.agg #[.slice (some ⟨g,0,none⟩) m1 n1,.slice x2 m2 n2,.slice x3 m3 n3,.slice x4 m4 n4,.slice x5 m5 n5,.int .i64 c.now,.string ⟨#[]⟩,.int .i64 0]) mE rfl ⟨⟨some ⟨g,0,none⟩,m1,n1,x2,m2,n2,x3,m3,n3,x4,m4,n4,x5,m5,n5⟩,⟨dS c t n,⟨#[]⟩,0⟩,rfl,HV.out,?_,Below.alloc (sb1 (sb1 (sb1 (sb1 (sb1 (sb1 (sb1 (sb1 (ag (show w.heap.size<=g by omega) (ag (show w.heap.size<=g by omega) (ag (show w.heap.size<=g by omega) (HB.out)))))))))))) ft _⟩;have hk2:∀k,w1.heap.size<=k->k<w3.heap.size->((((((((((((w3.setCell ⟨g,j*7+5,none⟩ (.bool false)).setCell ⟨g,j*7+6,none⟩ (.slice none 0 0)).setCell ⟨g,j*7+4,none⟩ (.int .i64 0)).setCell ⟨w.heap.size+1,0,none⟩ (.slice (some ⟨g,0,none⟩) m1 n1)).setCell ⟨w.heap.size+1,1,none⟩ (.slice x2 m2 n2)).setCell ⟨w.heap.size+1,2,none⟩ (.slice x3 m3 n3)).setCell ⟨w.heap.size+1,3,none⟩ (.slice x4 m4 n4)).setCell ⟨w.heap.size+1,4,none⟩ (.slice x5 m5 n5)).setCell ⟨w.heap.size+1,5,none⟩ (.int .i64 c.now)).setCell ⟨w.heap.size+1,6,none⟩ (.string ⟨#[]⟩)).setCell ⟨w.heap.size+1,7,none⟩ (.int .i64 0)).alloc (.cells (clo6 (some ⟨g,0,none⟩) m1 n1 x2 m2 n2 x3 m3 n3 x4 m4 n4 x5 m5 n5 c.now) 36)).heap[k]?=(((w3.setCell ⟨g,j*7+5,none⟩ (.bool false)).setCell ⟨g,j*7+6,none⟩ (.slice none 0 0)).setCell ⟨g,j*7+4,none⟩ (.int .i64 0)).heap[k]?:=fun k h1 h2=>by
  refine (sR _ _ _ (by simpa[sZ] using h2)).trans ?_;rw[sz _ _ _ _ (show k≠w.heap.size+1 by omega),sz _ _ _ _ (show k≠w.heap.size+1 by omega),sz _ _ _ _ (show k≠w.heap.size+1 by omega),sz _ _ _ _ (show k≠w.heap.size+1 by omega),sz _ _ _ _ (show k≠w.heap.size+1 by omega),sz _ _ _ _ (show k≠w.heap.size+1 by omega),sz _ _ _ _ (show k≠w.heap.size+1 by omega),sz _ _ _ _ (show k≠w.heap.size+1 by omega)]
 have hk3:∀k,w1.heap.size<=k->¬k=g->k<w3.heap.size->((((((((((((w3.setCell ⟨g,j*7+5,none⟩ (.bool false)).setCell ⟨g,j*7+6,none⟩ (.slice none 0 0)).setCell ⟨g,j*7+4,none⟩ (.int .i64 0)).setCell ⟨w.heap.size+1,0,none⟩ (.slice (some ⟨g,0,none⟩) m1 n1)).setCell ⟨w.heap.size+1,1,none⟩ (.slice x2 m2 n2)).setCell ⟨w.heap.size+1,2,none⟩ (.slice x3 m3 n3)).setCell ⟨w.heap.size+1,3,none⟩ (.slice x4 m4 n4)).setCell ⟨w.heap.size+1,4,none⟩ (.slice x5 m5 n5)).setCell ⟨w.heap.size+1,5,none⟩ (.int .i64 c.now)).setCell ⟨w.heap.size+1,6,none⟩ (.string ⟨#[]⟩)).setCell ⟨w.heap.size+1,7,none⟩ (.int .i64 0)).alloc (.cells (clo6 (some ⟨g,0,none⟩) m1 n1 x2 m2 n2 x3 m3 n3 x4 m4 n4 x5 m5 n5 c.now) 36)).heap[k]?=w3.heap[k]?:=fun k h1 h3 h2=>by
  rw[hk2 k h1 h2,sz _ _ _ _ h3,sz _ _ _ _ h3,sz _ _ _ _ h3]
 obtain⟨⟨cur,H,hbk,_⟩,_⟩:=HST.out;have h2:=((HST.eG (i:=5) rfl false).qS (i:=6) rfl).eF (i:=4) rfl 0;obtain⟨⟨cur2,H2,h3,_⟩,_,_⟩:=h2;have hns:(dS c t n).raw.n=(c.ns.map ndF).set j (ndF (e_ n)):=by
  show (c.ns.set (pl Nd.n c.ns t) (e_ n)).map ndF=_;rw[(cx HT.2.1.1.2.2 HNJ.out HOK.2.2.2).1,List.map_set]
 have far:∀{a l cp m T rs},ax w3 a l cp m T rs (fun k=>w1.heap.size<=k)->¬56=T->ax ((((((((((((w3.setCell ⟨g,j*7+5,none⟩ (.bool false)).setCell ⟨g,j*7+6,none⟩ (.slice none 0 0)).setCell ⟨g,j*7+4,none⟩ (.int .i64 0)).setCell ⟨w.heap.size+1,0,none⟩ (.slice (some ⟨g,0,none⟩) m1 n1)).setCell ⟨w.heap.size+1,1,none⟩ (.slice x2 m2 n2)).setCell ⟨w.heap.size+1,2,none⟩ (.slice x3 m3 n3)).setCell ⟨w.heap.size+1,3,none⟩ (.slice x4 m4 n4)).setCell ⟨w.heap.size+1,4,none⟩ (.slice x5 m5 n5)).setCell ⟨w.heap.size+1,5,none⟩ (.int .i64 c.now)).setCell ⟨w.heap.size+1,6,none⟩ (.string ⟨#[]⟩)).setCell ⟨w.heap.size+1,7,none⟩ (.int .i64 0)).alloc (.cells (clo6 (some ⟨g,0,none⟩) m1 n1 x2 m2 n2 x3 m3 n3 x4 m4 n4 x5 m5 n5 c.now) 36)) a l cp m T rs (fun k=>w1.heap.size<=k):=fun h hT=>(h.mh hbk.blk hT ak).aI (fun k hk s=>hk3 k s.1 s.2 hk) (fun k hk s=>s.1);have hR:ax (((w3.setCell ⟨g,j*7+5,none⟩ (.bool false)).setCell ⟨g,j*7+6,none⟩ (.slice none 0 0)).setCell ⟨g,j*7+4,none⟩ (.int .i64 0)) (some ⟨g,0,none⟩) m1 n1 7 56 (dS c t n).raw.n (fun k=>w1.heap.size<=k/\k<w3.heap.size):=by
  rw[hns];exact⟨by rw[List.length_set];exact HO.n.1,HO.n.2.1,HO.n.2.2.1,.inr ⟨g,cur2,H2,rfl,h3⟩⟩
 exact⟨(hR.aI (w':=((((((((((((w3.setCell ⟨g,j*7+5,none⟩ (.bool false)).setCell ⟨g,j*7+6,none⟩ (.slice none 0 0)).setCell ⟨g,j*7+4,none⟩ (.int .i64 0)).setCell ⟨w.heap.size+1,0,none⟩ (.slice (some ⟨g,0,none⟩) m1 n1)).setCell ⟨w.heap.size+1,1,none⟩ (.slice x2 m2 n2)).setCell ⟨w.heap.size+1,2,none⟩ (.slice x3 m3 n3)).setCell ⟨w.heap.size+1,3,none⟩ (.slice x4 m4 n4)).setCell ⟨w.heap.size+1,4,none⟩ (.slice x5 m5 n5)).setCell ⟨w.heap.size+1,5,none⟩ (.int .i64 c.now)).setCell ⟨w.heap.size+1,6,none⟩ (.string ⟨#[]⟩)).setCell ⟨w.heap.size+1,7,none⟩ (.int .i64 0)).alloc (.cells (clo6 (some ⟨g,0,none⟩) m1 n1 x2 m2 n2 x3 m3 n3 x4 m4 n4 x5 m5 n5 c.now) 36))) (fun k hk s=>hk2 k s.1 s.2) (fun _ _ s=>s)).rl (fun k s=>loq),(far HO.k ak).rl (fun k s=>loq),(far HO.v ak).rl (fun k s=>loq),(far HO.x ak).rl (fun k s=>loq),(far HO.p ak).rl (fun k s=>loq)⟩

theorem lL (d:Ad) (c:Cl) (t:ByteArray) (w:World) (hr:aL w d c.raw):
  Calls Tryz.prog 14 #[.agg #[.slice d.a1 d.l1 d.c1,.slice d.a2 d.l2 d.c2,.slice d.a3 d.l3 d.c3,.slice d.a4 d.l4 d.c4,.slice d.a5 d.l5 d.c5,.int .i64 c.now],.string t] w (rL (bN c t) w):=(mB d c t w hr).mono fun _ _ h=>h.s

theorem oV {c:Cl} {t:ByteArray} {n:Nd} (h:cB c t n):n8 c (e_ n)=dS c t n:=by
 have h1:=n7 (m:=e_ n) h.2.1 h.2.2.1 rfl;rw[h1];rfl

theorem gj (d:Ad) (c:Cl) (t:ByteArray) (E:Nat->Addr) (w:World) (hr:aL w d c.raw) (hG:Ers w E):
  Calls Tryz.prog 15 #[.agg #[.slice d.a1 d.l1 d.c1,.slice d.a2 d.l2 d.c2,.slice d.a3 d.l3 d.c3,.slice d.a4 d.l4 d.c4,.slice d.a5 d.l5 d.c5,.int .i64 c.now],.string t] w (sl (bN c t) w):=by
 have HR:=aa hr;obtain⟨HE,HB⟩:=fu;clear hr hG;go_enter Tryz.func15,Tryz.ntmps15;go_wp2_with fail;refine (oo d c t true E w _ HR.out (HB.trans ((aB _ _ _).mono HB.size)) (HE.below (HB.trans ((aB _ _ _).mono HB.size)))).mono ?_;rintro e w1 ⟨hb,hf⟩;obtain⟨HA0,HA1,hbx⟩:=bS hb;have Bk:=aa HA0;have Br:=aa HA1;replace HB:=upB HB hbx;clear hb hbx HA0 HA1;rcases hf with ⟨i,hi8,hwhy,rfl⟩|⟨n,va,vl,vc,hok,hf⟩
 ·obtain⟨k0,k1,k2,k3,k4,k5⟩:=cs6 Bk;have ltk_1:=ae Bk.out;have HV:Hid (bN c t (co0 (cL i))):=.inl ⟨i,hwhy,rfl⟩;obtain⟨cc,hcc⟩:∃cc,cc=cL i:=⟨_,rfl⟩;rw[<-hcc] at HV;clear hwhy;go_wp2_with fail;refine (eQ E i cc hcc _ (HE.below (HB.trans ((aj _ _).mono HB.size))) (by first|decide|omega)).mono ?_;exact qM
 have HOK:=aa hok;clear hok;have HT:Hid (bV c):=HOK.2.1;have HQ1:Hid (w.heap.size+1<w1.heap.size):=ae Br.out;rcases hf with ⟨hd,rfl⟩|⟨hd,rfl,hvr⟩
 ·have hd2:n.d=false:=by cases h:n.d <;> simp_all
  obtain⟨k0,k1,k2,k3,k4,k5⟩:=cs6 Bk;have ltk_1:=ae Bk.out;have HV:Hid (bN c t (co0 (cL 8))):=.inr ⟨n,HOK.out,.inl ⟨hd2,rfl⟩⟩;obtain⟨cc,hcc⟩:∃cc,cc=cL 8:=⟨_,rfl⟩;rw[<-hcc] at HV;clear hd hd2;go_wp2_with fail;refine (eQ E 8 cc hcc _ (HE.below (HB.trans ((aj _ _).mono HB.size))) (by first|decide|omega)).mono ?_;exact qM
 have HD:=aa hd;have HVR:=aa hvr;clear hd hvr;have HV:Hid (bN c t ⟨dS c t n,⟨#[]⟩,0⟩):=.inr ⟨n,HOK.out,.inr ⟨HD.out,rfl⟩⟩;have hno:=HT.2.1.1.2.1 _ n HOK.2.2.1;have z0:n.n.size<=9223372036854775807:=by have h1:=hno.1.2.1;omega
 have z1:n.z.size<=9223372036854775807:=by have h1:=hno.2.1.2.1;omega
 have hvl:vl<=8001:=by have h1:=HVR.1;have h2:=HT.sm.ns _ n HOK.2.2.1;omega
 clear hno;go_wp2_with fail;have hbx:Below w.heap.size w (w1.alloc (.cells #[.int .i64 n.u,.int .i64 c.now,.string n.n,.string n.z,.int .i64 n.c,.int .i64 n.s,.int .i64 0,.bool false,.slice none 0 0,.slice d.a1 d.l1 d.c1,.slice d.a2 d.l2 d.c2,.slice d.a3 d.l3 d.c3,.slice d.a4 d.l4 d.c4,.slice d.a5 d.l5 d.c5,.int .i64 c.now] 68)):=HB.trans ((aj w1 (.cells #[.int .i64 n.u,.int .i64 c.now,.string n.n,.string n.z,.int .i64 n.c,.int .i64 n.s,.int .i64 0,.bool false,.slice none 0 0,.slice d.a1 d.l1 d.c1,.slice d.a2 d.l2 d.c2,.slice d.a3 d.l3 d.c3,.slice d.a4 d.l4 d.c4,.slice d.a5 d.l5 d.c5,.int .i64 c.now] 68)).mono HB.size);refine (oy d c (e_ n) none 0 0 n.u c.now _ (HR.below hbx) HT.sm ⟨rfl,sy _,by decide,fun j x hx=>by simp[e_] at hx,.inl rfl⟩ af z0 z1).mono ?_;rintro e w5 ⟨d',rfl,ho,hb⟩;rw[oV HOK.out] at ho;have HO:=aa ho;have hs5:=hb.size;rw[cF] at hs5;have Br5:=aa ((hb.block (w.heap.size+1) (by rw[cF];have:=HQ1.out;omega)).trans ((sR w1 (.cells #[.int .i64 n.u,.int .i64 c.now,.string n.n,.string n.z,.int .i64 n.c,.int .i64 n.s,.int .i64 0,.bool false,.slice none 0 0,.slice d.a1 d.l1 d.c1,.slice d.a2 d.l2 d.c2,.slice d.a3 d.l3 d.c3,.slice d.a4 d.l4 d.c4,.slice d.a5 d.l5 d.c5,.int .i64 c.now] 68) _ (ae Br.out)).trans Br.out));have HB5:=aa (hbx.trans (hb.mono hbx.size));have hw1:w.heap.size<=w1.heap.size:=HB.size;clear hb ho hbx;obtain⟨r0,r1,r2,r3,r4,r5,r6,r7⟩:=cs8 Br5;have fr0:=aq Br5.out 0;have fr1:=aq Br5.out 1;have fr2:=aq Br5.out 2;have fr3:=aq Br5.out 3;have fr4:=aq Br5.out 4;have fr5:=aq Br5.out 5;have fr6:=aq Br5.out 6;have fr7:=aq Br5.out 7;have hrl:=ae Br5.out;have hq1:=HQ1.out;go_wp2;refine bodyPost_ret (v:=.agg #[.slice d'.a1 d'.l1 d'.c1,.slice d'.a2 d'.l2 d'.c2,.slice d'.a3 d'.l3 d'.c3,.slice d'.a4 d'.l4 d'.c4,.slice d'.a5 d'.l5 d'.c5,.int .i64 c.now,.string ⟨#[]⟩,.int .i64 0]) (by simp[results,Tryz.results15,go_sem, *]) rfl ⟨d',⟨dS c t n,⟨#[]⟩,0⟩,rfl,HV.out,?_,sb1 (sb1 (sb1 (sb1 (sb1 (sb1 (sb1 (sb1 (HB5.out))))))))⟩;obtain⟨P,hP⟩:=HO.out;exact⟨P,hP.aI (w':=((((((((w5.setCell ⟨w.heap.size+1,0,none⟩ (.slice d'.a1 d'.l1 d'.c1)).setCell ⟨w.heap.size+1,1,none⟩ (.slice d'.a2 d'.l2 d'.c2)).setCell ⟨w.heap.size+1,2,none⟩ (.slice d'.a3 d'.l3 d'.c3)).setCell ⟨w.heap.size+1,3,none⟩ (.slice d'.a4 d'.l4 d'.c4)).setCell ⟨w.heap.size+1,4,none⟩ (.slice d'.a5 d'.l5 d'.c5)).setCell ⟨w.heap.size+1,5,none⟩ (.int .i64 c.now)).setCell ⟨w.heap.size+1,6,none⟩ (.string ⟨#[]⟩)).setCell ⟨w.heap.size+1,7,none⟩ (.int .i64 0))) (fun k hk s=>by have s1:(w1.alloc (.cells #[.int .i64 n.u,.int .i64 c.now,.string n.n,.string n.z,.int .i64 n.c,.int .i64 n.s,.int .i64 0,.bool false,.slice none 0 0,.slice d.a1 d.l1 d.c1,.slice d.a2 d.l2 d.c2,.slice d.a3 d.l3 d.c3,.slice d.a4 d.l4 d.c4,.slice d.a5 d.l5 d.c5,.int .i64 c.now] 68)).heap.size<=k:=s;rw[cF] at s1;rw[sz _ _ _ _ (show k≠w.heap.size+1 by omega),sz _ _ _ _ (show k≠w.heap.size+1 by omega),sz _ _ _ _ (show k≠w.heap.size+1 by omega),sz _ _ _ _ (show k≠w.heap.size+1 by omega),sz _ _ _ _ (show k≠w.heap.size+1 by omega),sz _ _ _ _ (show k≠w.heap.size+1 by omega),sz _ _ _ _ (show k≠w.heap.size+1 by omega),sz _ _ _ _ (show k≠w.heap.size+1 by omega)]) (fun k _ s=>by have s1:(w1.alloc (.cells #[.int .i64 n.u,.int .i64 c.now,.string n.n,.string n.z,.int .i64 n.c,.int .i64 n.s,.int .i64 0,.bool false,.slice none 0 0,.slice d.a1 d.l1 d.c1,.slice d.a2 d.l2 d.c2,.slice d.a3 d.l3 d.c3,.slice d.a4 d.l4 d.c4,.slice d.a5 d.l5 d.c5,.int .i64 c.now] 68)).heap.size<=k:=s;rw[cF] at s1;show w.heap.size<=k;omega)⟩

end Rc
end Go.Proofs.YtdfgbboadbnodaaGreatDoor

namespace Go.Proofs.YtdfgbboadbnodaaGreatDoor
open Go.RowKit Rc Mk

def fk (c:Cl):Fact:=fun v w=> ∃d:Ad,v=.agg #[.slice d.a1 d.l1 d.c1,.slice d.a2 d.l2 d.c2,.slice d.a3 d.l3 d.c3,.slice d.a4 d.l4 d.c4,.slice d.a5 d.l5 d.c5,.int .i64 c.now]/\aL w d c.raw
theorem fk.mono (c:Cl):Fact.bP (fk c):=by
 rintro v w w' ⟨d,h1,h2⟩ hb;exact⟨d,h1,h2.below hb⟩

set_option linter.unusedVariables false in
theorem lF (d:Ad) (c:Cl) (t:ByteArray) (E:Nat->Addr) (w:World) (hr:aL w d c.raw) (ht:t.size<=maxLen) (hG:Ers w E):
  Calls Tryz.prog 4 #[.agg #[.slice d.a1 d.l1 d.c1,.slice d.a2 d.l2 d.c2,.slice d.a3 d.l3 d.c3,.slice d.a4 d.l4 d.c4,.slice d.a5 d.l5 d.c5,.int .i64 c.now],.string t] w fun e w'=>e=.returned (.bool true)/\Below w.heap.size w w':=by
 have HR:=aa hr;obtain⟨HE,HB⟩:=fu;clear hr hG;by_cases hlongt:1048576<t.size
 ·go_enter Tryz.func4,Tryz.ntmps4;go_wp2;go_ret;exact⟨rfl,aj _ _⟩
 go_enter Tryz.func4,Tryz.ntmps4;go_wp2_with fail;refine (fQ d c _ (HR.below (HB.trans ((aj _ _).mono HB.size)))).mono ?_;rintro e w1 ⟨r,rfl,hi,hb⟩;obtain⟨HA0,hbx⟩:=aJ hb;have Bk:=aa HA0;replace HB:=upB HB hbx;clear hb hbx HA0;rcases hi with rfl|⟨hr0,-,hft⟩
 ·obtain⟨k0,k1,k2,k3,k4,k5⟩:=cs6 Bk;have ltk_1:=ae Bk.out;go_wp2;go_ret;exact⟨rfl,HB.out⟩
 have HF:=aa hft;clear hft;obtain⟨k0,k1,k2,k3,k4,k5⟩:=cs6 Bk;have ltk_1:=ae Bk.out;go_wp2_with fail;refine (bW d c _ (HR.below HB.out) HF.out).mono ?_;rintro e w2 ⟨d1,rfl,ho,hb⟩;clear k0 k1 k2 k3 k4 k5 ltk_1;replace Bk:=upK Bk hb;replace HB:=upB HB hb;clear hb;have HO:=aa ho.row;clear ho;go_wp2_with fail;refine (lL d1 c t _ HO.out).mono ?_;rintro e w3 ⟨dg0,o,rfl,hI,ho,hb⟩;have R0:=aa ho;have HIS:=aa hI;clear ho hI HO;replace Bk:=upK Bk hb;replace HB:=upB HB hb;clear hb;have HY:=aa (Bw.refl w3);have HQ3:=aa (show w.heap.size<w3.heap.size from ae Bk.out);obtain⟨k0,k1,k2,k3,k4,k5⟩:=cs6 Bk;have ltk_3:=ae Bk.out;go_wp2_with fail;refine (bW d c _ (HR.below (HB.trans ((aj _ _).mono HB.size))) HF.out).mono ?_;rintro e w4 ⟨d2,rfl,ho,hb⟩;clear k0 k1 k2 k3 k4 k5 ltk_3;obtain⟨HA0,hbx⟩:=aJ hb;replace Bk:=upK Bk hbx;have Ba:=aa HA0;replace HY:=aa (HY.below hbx);replace HB:=upB HB hbx;clear hb hbx HA0;have HQ4:Hid (w3.heap.size+1<=w4.heap.size):=by have:=HY.le;have:=ae Ba.out;show w3.heap.size+1<=_;omega
 have HO2:=aa (ho.da (S':=fun k=>w3.heap.size+1<=k/\k<w4.heap.size) (fun k hk s=>⟨(show w3.heap.size+1<=k by simpa using s),hk⟩));clear ho;obtain⟨k0,k1,k2,k3,k4,k5⟩:=cs6 Bk;have ltk_4:=ae Bk.out;obtain⟨a0,a1,a2,a3,a4,a5,a6,a7⟩:=cs8 Ba;have lta_4:=ae Ba.out;go_wp2_with fail;have HOX:=aa (HO2.below (aj w4 (.cells (clv d2 c.now) 36)));refine (gj d2 c t E _ HOX.row (HE.below (HB.trans ((aj _ _).mono HB.size)))).mono ?_;rintro e w5 ⟨dg1,o1,rfl,hI,ho,hb⟩;clear HOX;obtain rfl:=HIS.same hI;clear hI;clear k0 k1 k2 k3 k4 k5 ltk_4 a0 a1 a2 a3 a4 a5 a6 a7 lta_4;obtain⟨HA0,hbx⟩:=aJ hb;replace Bk:=upK Bk hbx;replace Ba:=upK Ba hbx;have Bx:=aa HA0;replace HY:=aa (HY.below hbx);replace HO2:=aa (HO2.below hbx);replace HB:=upB HB hbx;clear hb hbx HA0;have HQ5:Hid (w4.heap.size<w5.heap.size):=ae Bx.out;have HO1:=aa (ho.da (S':=fun k=>w4.heap.size+1<=k/\k<w5.heap.size) (fun k hk s=>⟨(show w4.heap.size+1<=k by simpa using s),hk⟩));clear ho;have hlz:cj 1 o.c.raw<=1152921504606846976:=HIS.marks HF.out;have HH:=aa (fun (W:World) (hr:aL W dg1 (mkC 1 o.c.raw))=>gQ dg1 o 1 W hr ak hlz);obtain⟨M,hM⟩:∃M:Int,M=cj 1 o.c.raw:=⟨_,rfl⟩;have hM0:(0:Int)<M:=by rw[hM];have:=gG 1 o.c.raw;omega
 rw[<-hM] at HH;have HMM:=aa hM;clear hM;obtain⟨k0,k1,k2,k3,k4,k5⟩:=cs6 Bk;have ltk_5:=ae Bk.out;obtain⟨a0,a1,a2,a3,a4,a5,a6,a7⟩:=cs8 Ba;have lta_5:=ae Ba.out;obtain⟨x0,x1,x2,x3,x4,x5⟩:=cs6 Bx;have ltx_5:=ae Bx.out;go_wp2_with fail;refine (dP dg1 dg0 o _ (HO1.row.below (aj _ _)) (R0.below (HY.below (aj _ _)).out)).mono ?_;rintro e w6 ⟨rfl,hb⟩;clear k0 k1 k2 k3 k4 k5 ltk_5 a0 a1 a2 a3 a4 a5 a6 a7 lta_5 x0 x1 x2 x3 x4 x5 ltx_5;obtain⟨HA0,hbx⟩:=aJ hb;replace Bk:=upK Bk hbx;replace Ba:=upK Ba hbx;replace Bx:=upK Bx hbx;have Bg:=aa HA0;replace HY:=aa (HY.below hbx);replace HO2:=aa (HO2.below hbx);replace HO1:=aa (HO1.below hbx);replace HB:=upB HB hbx;clear hb hbx HA0;obtain⟨W,hW0⟩:∃W,W=w6:=⟨_,rfl⟩;rw[<-hW0] at HB HY HO2 HO1 Bk Ba Bx Bg;go_wp2_with fail;rw[<-hW0];clear hW0;rename_i K0 hK0;refine bK (back:=none) an (List.append_nil _).symm an ?_;refine' Grow.aV _ rfl ?_ ?_;rotate_left 1
 ·refine Obl.plain rfl ?_;intro ac wg K hsz hW hf hK;clear hsz;have e7:=hf 7 ak;simp[slotFact,sM] at e7;clear hf;obtain⟨k0,k1,k2,k3,k4,k5⟩:=cs6 ((hW.block _ (ae Bx.out)).trans Bx.out);exact eW
 refine' Grow.aV _ rfl ?_ ?_;rotate_left 1
 ·refine Obl.plain rfl ?_;intro ac wg K hsz hW hf hK;clear hsz;have e2:=hf 2 ak;simp[slotFact,sM] at e2;clear hf;obtain⟨k0,k1,k2,k3,k4,k5⟩:=cs6 ((hW.block _ (ae Bk.out)).trans Bk.out);exact eW
 refine Grow.step (fk c) rfl (fk.mono c) ?_ ?_
 ·refine Obl.plain rfl ?_;intro ac wg K hsz hW hf hK;clear hsz;have e35:=hf 35 ak;simp[slotFact,sM] at e35;clear hf;go_simp;refine (bW d c _ (HR.below (HB.trans (hW.mono HB.size))) HF.out).mono ?_;rintro e w6 ⟨d3,rfl,ho,hb6⟩;exact hK _ _ hb6 ⟨d3,rfl,ho.row⟩
 refine' Grow.aV (.bool true) rfl ?_ ?_
 ·refine Obl.plain rfl ?_;intro ac wg K hsz hW hf hK;clear hsz;have e34:=hf 34 ak;simp[slotFact,sM] at e34;have e36:=hf 36 ak;simp[slotFact,sM] at e36;obtain⟨d3,e36,hrow⟩:=e36;clear hf;go_simp;refine (dJ d2 d3 c _ (HO2.row.below hW) hrow).mono ?_;rintro e w6 ⟨rfl,hb6⟩;exact hK _ _ hb6 rfl
 refine' Grow.aV _ rfl ?_ ?_;rotate_left 1
 ·refine Obl.plain rfl ?_;intro ac wg K hsz hW hf hK;clear hsz;have e37:=hf 37 ak;simp[slotFact,sM] at e37;clear hf;exact eW
 refine Grow.done ?_;intro q wz hW hf;simp only[List.forall_mem_cons] at hf;obtain⟨h38,-⟩:=hf;have hb:=hW;refine hK0 _ _ ?_;simp only[aR,List.foldr,Act.put,List.setIfInBounds_toArray,List.set_cons_zero,List.set_cons_succ,h38];clear hK0;replace Bk:=upK Bk hb;replace Ba:=upK Ba hb;replace Bx:=upK Bx hb;replace Bg:=upK Bg hb;replace HY:=aa (HY.below hb);replace HO2:=aa (HO2.below hb);replace HO1:=aa (HO1.below hb);replace HB:=upB HB hb;clear hb;clear hW;obtain⟨rk,hrk⟩:∃r:Int,r=cj 1 c.raw:=⟨_,rfl⟩;have hrk0:decide (rk<0)=false:=by rw[decide_eq_false_iff_not,hrk];have:=gG 1 c.raw;omega
 obtain⟨k0,k1,k2,k3,k4,k5⟩:=cs6 Bk;have ltk_7:=ae Bk.out;obtain⟨a0,a1,a2,a3,a4,a5,a6,a7⟩:=cs8 Ba;have lta_7:=ae Ba.out;obtain⟨x0,x1,x2,x3,x4,x5⟩:=cs6 Bx;have ltx_7:=ae Bx.out;obtain⟨g0,g1,g2,g3,g4,g5,g6,g7⟩:=cs8 Bg;have ltg_7:=ae Bg.out;go_wp2_with fail;refine (c_ d2 c 1 _ wz HO2.out (fun k s=>by have s2:=s.2;have q9:=HY.le;have q8:=ae Bx.out;have q3:=HQ3.out;have q4:=HQ4.out;have q5:=HQ5.out;omega) ak HF.marks).mono ?_;rintro e w8 ⟨rfl,ho,hk⟩;clear k0 k1 k2 k3 k4 k5 ltk_7 a0 a1 a2 a3 a4 a5 a6 a7 lta_7 x0 x1 x2 x3 x4 x5 ltx_7 g0 g1 g2 g3 g4 g5 g6 g7 ltg_7;obtain⟨Ck,Ca,Cx,Cg⟩:=pT;have HB8:=aa (HB.trans (hk.low (X:=w.heap.size) HB.size (fun k s=>by have s1:=s.1;have q3:=HQ3.out;have q4:=HQ4.out;have q5:=HQ5.out;omega)));have CHY:=aa (HY.kept hk (fun k s=>by have s1:=s.1;have q3:=HQ3.out;have q4:=HQ4.out;have q5:=HQ5.out;omega));have CHO1:=aa (HO1.kept hk (fun k s s'=>by have s1:=s.1;have s2:=s.2;have t1:=s'.1;have t2:=s'.2;have q3:=HQ3.out;have q4:=HQ4.out;have q5:=HQ5.out;omega));clear HB HY hk HO2 HO1 Bk Ba Bx Bg;have HB:=HB8;clear HB8;have HY:=CHY;clear CHY;have HO1:=CHO1;clear CHO1;have Bk:=Ck;clear Ck;have Ba:=Ca;clear Ca;have Bx:=Cx;clear Cx;have Bg:=Cg;clear Cg;clear ho;rw[<-hrk];clear hrk;obtain⟨k0,k1,k2,k3,k4,k5⟩:=cs6 Bk;have ltk_8:=ae Bk.out;obtain⟨a0,a1,a2,a3,a4,a5,a6,a7⟩:=cs8 Ba;have lta_8:=ae Ba.out;obtain⟨x0,x1,x2,x3,x4,x5⟩:=cs6 Bx;have ltx_8:=ae Bx.out;obtain⟨g0,g1,g2,g3,g4,g5,g6,g7⟩:=cs8 Bg;have ltg_8:=ae Bg.out;go_wp2_with fail;refine (dP dg1 dg0 o _ (HO1.row) (R0.below HY.out)).mono ?_;rintro e w9 ⟨rfl,hb⟩;clear k0 k1 k2 k3 k4 k5 ltk_8 a0 a1 a2 a3 a4 a5 a6 a7 lta_8 x0 x1 x2 x3 x4 x5 ltx_8 g0 g1 g2 g3 g4 g5 g6 g7 ltg_8;replace Bk:=upK Bk hb;replace Ba:=upK Ba hb;replace Bx:=upK Bx hb;replace Bg:=upK Bg hb;replace HY:=aa (HY.below hb);replace HO1:=aa (HO1.below hb);replace HB:=upB HB hb;clear hb;clear hrk0;obtain⟨k0,k1,k2,k3,k4,k5⟩:=cs6 Bk;have ltk_9:=ae Bk.out;obtain⟨a0,a1,a2,a3,a4,a5,a6,a7⟩:=cs8 Ba;have lta_9:=ae Ba.out;obtain⟨x0,x1,x2,x3,x4,x5⟩:=cs6 Bx;have ltx_9:=ae Bx.out;obtain⟨g0,g1,g2,g3,g4,g5,g6,g7⟩:=cs8 Bg;have ltg_9:=ae Bg.out;go_wp2_with fail;refine (gH dg1 o 1 _ _ HO1.out (fun k s=>by have s2:=s.2;have q9:=HB.size;have q8:=HY.le;have q7:=ae Bg.out;have q3:=HQ3.out;have q4:=HQ4.out;have q5:=HQ5.out; omega) ak hlz).mono ?_;rintro e w10 ⟨rfl,ho,hk⟩;clear k0 k1 k2 k3 k4 k5 ltk_9 a0 a1 a2 a3 a4 a5 a6 a7 lta_9 x0 x1 x2 x3 x4 x5 ltx_9 g0 g1 g2 g3 g4 g5 g6 g7 ltg_9;obtain⟨Ck,Ca,Cx,Cg⟩:=pT;have HB10:=aa (HB.trans (hk.low (X:=w.heap.size) HB.size (fun k s=>by have s1:=s.1;have q3:=HQ3.out;have q4:=HQ4.out;have q5:=HQ5.out;omega)));have CHY:=aa (HY.kept hk (fun k s=>by have s1:=s.1;have q3:=HQ3.out;have q4:=HQ4.out;have q5:=HQ5.out;omega))
 clear HB HY hk HO1 Bk Ba Bx Bg;have HB:=HB10;clear HB10;have HY:=CHY;clear CHY;have Bk:=Ck;clear Ck;have Ba:=Ca;clear Ca;have Bx:=Cx;clear Cx;have Bg:=Cg;clear Cg;have HM1:=aa ho;clear ho;rw[<-HMM.out];obtain⟨k0,k1,k2,k3,k4,k5⟩:=cs6 Bk;have ltk_10:=ae Bk.out;obtain⟨a0,a1,a2,a3,a4,a5,a6,a7⟩:=cs8 Ba;have lta_10:=ae Ba.out;obtain⟨x0,x1,x2,x3,x4,x5⟩:=cs6 Bx;have ltx_10:=ae Bx.out;obtain⟨g0,g1,g2,g3,g4,g5,g6,g7⟩:=cs8 Bg;have ltg_10:=ae Bg.out;go_wp2_with fail;refine (HH.out _ HM1.row).mono ?_;rintro e w11 ⟨rfl,hb⟩;clear k0 k1 k2 k3 k4 k5 ltk_10 a0 a1 a2 a3 a4 a5 a6 a7 lta_10 x0 x1 x2 x3 x4 x5 ltx_10 g0 g1 g2 g3 g4 g5 g6 g7 ltg_10;replace Bk:=upK Bk hb;replace Ba:=upK Ba hb;replace Bx:=upK Bx hb;replace Bg:=upK Bg hb;replace HY:=aa (HY.below hb);replace HM1:=aa (HM1.below hb);replace HB:=upB HB hb;clear hb;obtain⟨k0,k1,k2,k3,k4,k5⟩:=cs6 Bk;have ltk_11:=ae Bk.out;go_wp2_with fail;refine (bW d c _ (HR.below HB.out) HF.out).mono ?_;rintro e w12 ⟨d4,rfl,ho,hb⟩;clear k0 k1 k2 k3 k4 k5 ltk_11;replace Bk:=upK Bk hb;replace Ba:=upK Ba hb;replace Bx:=upK Bx hb;replace Bg:=upK Bg hb;replace HY:=aa (HY.below hb);replace HM1:=aa (HM1.below hb);replace HB:=upB HB hb;clear hb;have HO:=aa ho.row;clear ho;go_wp2_with fail;refine (gj d4 c t E _ HO.out (HE.below HB.out)).mono ?_;rintro e w13 ⟨dg2,o2,rfl,hI,ho,hb⟩;obtain rfl:=HIS.same hI;clear hI HO;have HR2:=aa ho.row;clear ho;replace Bk:=upK Bk hb;replace Ba:=upK Ba hb;replace Bx:=upK Bx hb;replace Bg:=upK Bg hb;replace HY:=aa (HY.below hb);replace HM1:=aa (HM1.below hb);replace HB:=upB HB hb;clear hb;obtain⟨k0,k1,k2,k3,k4,k5⟩:=cs6 Bk;have ltk_13:=ae Bk.out;obtain⟨a0,a1,a2,a3,a4,a5,a6,a7⟩:=cs8 Ba;have lta_13:=ae Ba.out;obtain⟨x0,x1,x2,x3,x4,x5⟩:=cs6 Bx;have ltx_13:=ae Bx.out;obtain⟨g0,g1,g2,g3,g4,g5,g6,g7⟩:=cs8 Bg;have ltg_13:=ae Bg.out;go_wp2_with fail;refine (dP dg2 dg0 o _ (HR2.below (aj _ _)) (R0.below (HY.below (aj _ _)).out)).mono ?_;rintro e w14 ⟨rfl,hb⟩;clear k0 k1 k2 k3 k4 k5 ltk_13 a0 a1 a2 a3 a4 a5 a6 a7 lta_13 x0 x1 x2 x3 x4 x5 ltx_13 g0 g1 g2 g3 g4 g5 g6 g7 ltg_13;obtain⟨HA0,hbx⟩:=aJ hb;replace Bk:=upK Bk hbx;replace Ba:=upK Ba hbx;replace Bx:=upK Bx hbx;replace Bg:=upK Bg hbx;have Bh:=aa HA0;replace HY:=aa (HY.below hbx);replace HM1:=aa (HM1.below hbx);replace HB:=upB HB hbx;clear hb hbx HA0;obtain⟨k0,k1,k2,k3,k4,k5⟩:=cs6 Bk;have ltk_14:=ae Bk.out;obtain⟨g0,g1,g2,g3,g4,g5,g6,g7⟩:=cs8 Bg;have ltg_14:=ae Bg.out;go_wp2_with fail;refine (HH.out _ HM1.row).mono ?_;rintro e w15 ⟨rfl,hb⟩;clear k0 k1 k2 k3 k4 k5 ltk_14 g0 g1 g2 g3 g4 g5 g6 g7 ltg_14;replace Bk:=upK Bk hb;replace Ba:=upK Ba hb;replace Bx:=upK Bx hb;replace Bg:=upK Bg hb;replace Bh:=upK Bh hb;replace HY:=aa (HY.below hb);replace HM1:=aa (HM1.below hb);replace HB:=upB HB hb
 clear hb;go_wp2_with fail;go_ret;exact⟨rfl,HB.out⟩

set_option linter.unusedVariables false in
theorem eO (a1:Option Addr) (l1 y1:Nat) (ns:List Nd) (a2:Option Addr) (l2 y2:Nat) (ks:List Kd) (a3:Option Addr) (l3 y3:Nat) (vs:List Vd) (a4:Option Addr) (l4 y4:Nat) (xs:List Xd) (a5:Option Addr) (l5 y5:Nat) (ps:List Pd) (now:Int) (t:ByteArray) (w:World)
  (h1:aA w a1 l1 y1 7 (ns.map ndF)) (h2:aA w a2 l2 y2 4 (ks.map kdF)) (h3:aA w a3 l3 y3 8 (vs.map vdF)) (h4:aA w a4 l4 y4 5 (xs.map xdF)) (h5:aA w a5 l5 y5 6 (ps.map pdF)) (_:(Lit.int .i64 now).wf=true) (ht:t.size<=maxLen) (hG:∃E,Ers w E):
  Calls Tryz.prog 4 #[.agg #[.slice a1 l1 y1,.slice a2 l2 y2,.slice a3 l3 y3,.slice a4 l4 y4,.slice a5 l5 y5,.int .i64 now],.string t] w fun e w'=>e=.returned (.bool true)/\Below w.heap.size w w':=
 by obtain⟨E,hG⟩:=hG;exact lF ⟨a1,l1,y1,a2,l2,y2,a3,l3,y3,a4,l4,y4,a5,l5,y5⟩ ⟨ns,ks,vs,xs,ps,now⟩ t E w ⟨h1,h2,h3,h4,h5⟩ ht hG

end Go.Proofs.YtdfgbboadbnodaaGreatDoor

namespace Go.Proofs.YtdfgbboadbnodaaGreatDoor
open Go.RowKit
namespace Rc

theorem g_: "*" ++ "errors.errorString" = "*errors.errorString":=by decide
theorem rR (u:TypeId) (h:Tryz.prog.typeName? 3 u=some "*errors.errorString"):u=195:=
 typeName_ptr_named (nm:= "errors.errorString") (by rw[g_];kernel_rfl) an ak u (by rw[g_];exact h)

theorem j5 {P:Program} {W:World} {nm:String} {ti tp te ts:TypeId} {ms:Array (String×TypeId)} {f:Field} (hi:P.underlying ti=some (.interface ms)) (hrow:∀u,P.typeName? 3 u=some nm->u=tp)
  (hp:P.underlying tp=some (.pointer te)) (he:P.underlying te=some (.struct #[f])) (hft:f.type=ts) (hfo:f.offset=0) (hs:P.underlying ts=some .string) (hc:P.cellsOf te=1) (hcs:P.cellsOf ts=1):
  ∀(l:List (String×List UInt8)) (ps:List MemPlace),(∀x∈l,∃g,P.globalNamed x.1=some g/\(P.globals[g]?).map (·.type)=some ti)->
   DataW.LaidVars P W (l.map fun x=>(x.1,.iface nm (.ptr (.agg [.lit (.string x.2)])))) ps->ps.Nodup->
   (∀b off,MemPlace.cell b off∈ps->(∃c t,W.heap[b]?=some (.cells c t (0,0)))/\∀u v,W.cell? ⟨b,off,none⟩=some (.iface u v)->Value.okWide P W .any 0 u v)->
   ∃E:Nat->Addr,(∀(i:Nat) x,l[i]?=some x->W.var? P x.1=some #[.iface tp (.pointer (some (E i)))]/\MemPlace.cell (E i).block (E i).off∈ps)/\∀i j,i<l.length->j<l.length->E i=E j->i=j
 | [],ps,_,_,_,_=>⟨fun _=>⟨0,0,none⟩,fun i x h=>by simp at h,fun i j h=>by simp at h⟩
 | x ::l,ps,hT,hv,hnd,hrows=>by
  obtain⟨g,t,cs,fuel,p,q,hg,ht,hvar,hd,hq,rfl⟩:=hv;obtain⟨g',hg',ht'⟩:=hT x aT;obtain rfl:=sx (hg.symm.trans hg');obtain rfl:=sx (ht.symm.trans ht');have hsub:∀{y},y∈q->y∈MemPlace.row ⟨g,0,none⟩ cs.size++p++q:=fun h=>List.mem_append_right _ h;obtain⟨E,hE1,hE2⟩:=j5 hi hrow hp he hft hfo hs hc hcs l q (fun y hy=>hT y (by simp[hy])) hq (List.Nodup.sublist (List.sublist_append_right _ _) hnd) (fun b off hm=>hrows b off (hsub hm));obtain⟨l0⟩:=cs;have ok0:∀u v,l0=[.iface u v]->Value.okWide P W .any 0 u v:=fun u v e=>by
   subst e;exact (hrows g 0 (by simp[MemPlace.row])).2 u v (by simpa using World.var?_cell hg hvar 0)
  obtain⟨a0,s0,rfl,hc0,hs0,hz0,rfl⟩:=errorString_of_trod hi hrow hp he hft hfo hs hc hcs hd ok0;have ha:MemPlace.cell a0.block a0.off∈MemPlace.row a0 1:=by simp[MemPlace.row]
  have hdis:∀i,i<l.length->¬E i=a0:=fun i hi' e=>by
   have h1:=(hE1 i _ (sA hi')).2;rw[e] at h1;have h2:=(List.nodup_append.1 hnd).2.2 _ (List.mem_append_right _ ha) _ h1;exact h2 rfl
  refine⟨fun i=>match i with|0=>a0|i+1=>E i,fun i y hy=>?_,fun i j hi' hj' e=>?_⟩
  ·cases i with
   | zero=>
    obtain rfl:x=y:=by simpa using hy
    exact⟨hvar,List.mem_append_left _ (List.mem_append_right _ ha)⟩
   | succ i=>
    obtain⟨h1,h2⟩:=hE1 i y (by simpa using hy);exact⟨h1,hsub h2⟩
  ·cases i with
   | zero=>cases j with
    | zero=>rfl
    | succ j=>exact absurd e.symm (hdis j (by simpa using hj'))
   | succ i=>cases j with
    | zero=>exact absurd e (hdis i (by simpa using hi'))
    | succ j=>rw[hE2 i j (by simpa using hi') (by simpa using hj') e]

theorem hJ {H:Type} {enc:TypeId×Value->H} {P:Program} {w:World} {sp:Nat->Bool} :∀(ns:List String) (gs:List (DataW H)) (ps:List MemPlace),DataW.TrodVars enc P w sp ns gs ps->gs.length=ns.length
 | [],[],_,_=>rfl
 | [],_ ::_,_,h=>h.elim
 | _ ::_,[],_,h=>h.elim
 | _ ::ns,_ ::gs,_,h=>by
  obtain⟨_,_,_,_,_,q,_,_,_,_,h1,_⟩:=h;simp[hJ ns gs q h1]
theorem ss {α:Type} :∀{l:List α},l.length=10->∃a b c d e f g h i j,l=[a,b,c,d,e,f,g,h,i,j]
 | [a,b,c,d,e,f,g,h,i,j],_=>⟨a,b,c,d,e,f,g,h,i,j,rfl⟩

end Rc
end Go.Proofs.YtdfgbboadbnodaaGreatDoor

namespace Go.Proofs.YtdfgbboadbnodaaGreatDoor
open Go.RowKit Go.ChangeShapes Go.WideShapes Go.Deep

theorem rC {α:Type} {l:List α} (h:l.length=6):∃x0 x1 x2 x3 x4 x5,l=[x0,x1,x2,x3,x4,x5]:=by
 match l,h with
 | [x0,x1,x2,x3,x4,x5],_=>exact⟨_,_,_,_,_,_,rfl⟩
section
variable {H:Type} {enc:TypeId×Value->H} {P:Program} {w:World} {base:Nat} {spare:Nat->Bool} {held:Bool}

theorem lQ {r:Reach} {b0:Nat} {t:TypeId} {fs:Array Field} {v:Value} {d:DataW H} {p:List MemPlace} (hs:P.underlying t=some (.struct fs)) (hone:oneCellFields P fs=true) (hC:P.cellsOf t=fs.size)
  (hv:Value.okWide P w r b0 t v) (h:DataW.Trod enc P w base spare held t v d p):
  ∃(cs:List Value) (n:Nat),v=.agg cs.toArray/\cs.length=fs.size/\∀(i:Nat) (f:Field),fs[i]?=some f->∃c y,cs[i]?=some c/\tI enc P w base spare held n f.type [c]=some y:=by
 obtain⟨cs,rfl,hsz⟩:=okWide_struct hs hv;obtain⟨fuel,hf⟩:=h;obtain⟨xs,n,_,hx,hl,hlen,hf'⟩:=DataW.trod_struct hs hf;refine⟨cs.toList,n,rfl,by rw[tW];exact hsz.trans hC,fun i f hi=>?_⟩;obtain⟨o,k⟩:=hone_of hone i f hi;have hlt:i<fs.size:=(sO.1 hi).1;have hlc:i<cs.toList.length:=by rw[tW,hsz,hC];exact hlt
 have g:=hf' i f hi;rw[o,k] at g;have e:((Value.agg cs).cells.toList.drop i).take 1=[cs.toList[i]'hlc]:=by
  show (cs.toList.drop i).take 1=_;rw[tH hlc];rfl
 exact nT

theorem dd {t e:TypeId} {n:Nat} {c:Value} {y:DataW H×List MemPlace} (ht:P.underlying t=some (.slice e)) (he:P.underlying e=some .string) (hc:P.cellsOf e=1)
  (h:tI enc P w base spare held n t [c]=some y):∃a len cap zs,c=.slice a len cap/\ar w a len cap zs:=by
 rcases open_strs ht he hc h with ⟨hcs,_⟩|⟨a,len,cap,m,Sx,hcs,hb,hl,hm,hmm,_,hx⟩
 ·exact⟨none,0,0,[],by simpa using hcs,rfl,sy _,by omega,fun j x hx=>by simp at hx,Or.inl rfl⟩
 ·obtain⟨hlm,hm'⟩:=f_;refine⟨some a,len,cap,(tC len).map Sx,by simpa using hcs,by simp,hl,hm',fun j x hj=>?_,?_⟩
  ·rw[sK] at hj;by_cases hjl:j<len
   ·rw[List.getElem?_range hjl] at hj;obtain rfl:=sx hj;have:=(hx j af).2;unfold maxLen at this;omega
   ·exact nn
  ·by_cases h0:len=0
   ·subst h0;exact Or.inl rfl
   right;obtain⟨b,o,spot⟩:=a;have h0':=(hx 0 af).1;have hspot:spot=none:=by simpa[Addr.add] using World.cell?_spot h0'
   subst hspot;refine⟨b,o,rfl,?_,fun j x hj=>?_⟩
   ·rw[tB] at h0';rcases Nat.lt_or_ge b w.heap.size with h1|h1
    ·exact h1
    ·simp[World.cell?,Array.getElem?_eq_none h1] at h0'
   ·rw[sK] at hj;by_cases hjl:j<len
    ·rw[List.getElem?_range hjl] at hj;obtain rfl:=sx hj;have:=(hx j af).1;rw[tB] at this;exact this
    ·exact nn
end

section
variable {H:Type} {enc:TypeId×Value->H} {w:World} {base:Nat} {spare:Nat->Bool} {held:Bool}

theorem cO {P:Program} {n:Nat} {t:TypeId} {fs:Array Field} {cs:List Value} {x:DataW H×List MemPlace} (hs:P.underlying t=some (.struct fs)) (hone:oneCellFields P fs=true) (hC:P.cellsOf t=fs.size)
  (h:tI enc P w base spare held n t cs=some x):
  ∃(n:Nat),cs.length=fs.size/\∀(i:Nat) (f:Field),fs[i]?=some f->∃c y,cs[i]?=some c/\tI enc P w base spare held n f.type [c]=some y:=by
 obtain⟨xs,n,_,hx,hl,hlen,hf'⟩:=DataW.trod_struct hs h;refine⟨n,hl.trans hC,fun i f hi=>?_⟩;obtain⟨o,k⟩:=hone_of hone i f hi;have hlt:i<fs.size:=(sO.1 hi).1;have hlc:i<cs.length:=by rw[hl,hC];exact hlt
 have g:=hf' i f hi;rw[o,k] at g;have e:(cs.drop i).take 1=[cs[i]'hlc]:=by
  rw[tH hlc];rfl
 exact nT

end

end Go.Proofs.YtdfgbboadbnodaaGreatDoor

namespace Go.Proofs.YtdfgbboadbnodaaGreatDoor
open Go.RowKit Go.ChangeShapes Go.WideShapes Go.Deep
namespace Rc

section
variable {H:Type} {enc:TypeId×Value->H} {w:World} {base:Nat} {spare:Nat->Bool} {held:Bool}

theorem jT {b o n:Nat} {cs:List Value} {x:DataW H×List MemPlace} (hc:∀i,i<7->w.cell? ⟨b,o+i,none⟩=cs[i]?) (h:tI enc Tryz.prog w base spare held n 86 cs=some x):∃v:Nd,RAt w b o (ndF v):=by
 obtain⟨m,hl,hf⟩:=cO Tryz.underlying86 an an h;obtain⟨c0,y0,e0,t0⟩:=hf 0 _ rfl;obtain⟨b0,q0,-,s0⟩:=s8 Tryz.underlying9 t0;obtain rfl:c0=.string b0:=by simpa using q0
 obtain⟨c1,y1,e1,t1⟩:=hf 1 _ rfl;obtain⟨b1,q1,-,s1⟩:=s8 Tryz.underlying9 t1;obtain rfl:c1=.string b1:=by simpa using q1
 obtain⟨c2,y2,e2,t2⟩:=hf 2 _ rfl;obtain⟨b2,q2,-,s2⟩:=tY Tryz.underlying2 t2;obtain rfl:c2=.int .i64 b2:=by simpa using q2
 obtain⟨c3,y3,e3,t3⟩:=hf 3 _ rfl;obtain⟨b3,q3,-,s3⟩:=tY Tryz.underlying2 t3;obtain rfl:c3=.int .i64 b3:=by simpa using q3
 obtain⟨c4,y4,e4,t4⟩:=hf 4 _ rfl;obtain⟨b4,q4,-,s4⟩:=tY Tryz.underlying2 t4;obtain rfl:c4=.int .i64 b4:=by simpa using q4
 obtain⟨c5,y5,e5,t5⟩:=hf 5 _ rfl;obtain⟨b5,q5,-⟩:=ue Tryz.underlying4 t5;obtain rfl:c5=.bool b5:=by simpa using q5
 obtain⟨c6,y6,e6,t6⟩:=hf 6 _ rfl;obtain⟨b6,l6,p6,zz,rfl,r6⟩:=dd Tryz.underlying54 Tryz.underlying9 an t6;unfold maxLen at s0 s1;refine⟨⟨b0,b1,b2,b3,b4,b5,zz⟩,fun i f hi=>?_⟩;rcases i with _|_|_|_|_|_|_|i
 ·exact iP
 ·cases hi;exact⟨_,(hc 1 af).trans e1,rfl,show b1.size<=_ by omega⟩
 ·cases hi;exact⟨_,(hc 2 af).trans e2,rfl⟩
 ·cases hi;exact⟨_,(hc 3 af).trans e3,rfl⟩
 ·cases hi;exact⟨_,(hc 4 af).trans e4,rfl⟩
 ·cases hi;exact⟨_,(hc 5 af).trans e5,rfl⟩
 ·cases hi;exact⟨_,(hc 6 af).trans e6,b6,l6,p6,rfl,r6⟩
 ·first|(cases hi;done)|(simp[ndF] at hi;done)

theorem oT {n:Nat} {c:Value} {y:DataW H×List MemPlace} (h:tI enc Tryz.prog w base spare held n 22 [c]=some y):∃a len cap,∃xs:List Nd,c=.slice a len cap/\aA w a len cap 7 (xs.map ndF):=by
 rcases open_slice Tryz.underlying22 h with ⟨hcs,_⟩|⟨a,len,cap,m,n',D,Pl,hcs,hb,hl,hm,hmm,_,hx⟩
 ·exact fz
 obtain⟨hlm,hm'⟩:=f_;have hce:Tryz.prog.cellsOf 86=7:=an
 rw[hce] at hx;by_cases h0:len=0
 ·exact fy
 obtain⟨b,o,spot⟩:=a;obtain⟨cs0,k1,k2⟩:=hx 0 af;have hspot:spot=none:=by
  exact fD
 subst hspot;have hblt:b<w.heap.size:=by
  exact fE
 have each:∀i,i<len->∃v:Nd,RAt w b (o+i*7) (ndF v):=fun i hi=>by
  obtain⟨cs,k1,k2⟩:=hx i af;obtain⟨_,hl0,hc0⟩:=World.cells?_some k1;refine jT (fun j hj=>?_) k2;exact fA
 have hin:Inhabited Nd:=⟨⟨⟨#[]⟩,⟨#[]⟩,0,0,0,false,[]⟩⟩;exact jb

theorem j6 {b o n:Nat} {cs:List Value} {x:DataW H×List MemPlace} (hc:∀i,i<4->w.cell? ⟨b,o+i,none⟩=cs[i]?) (h:tI enc Tryz.prog w base spare held n 89 cs=some x):∃v:Kd,RAt w b o (kdF v):=by
 obtain⟨m,hl,hf⟩:=cO Tryz.underlying89 an an h;obtain⟨c0,y0,e0,t0⟩:=hf 0 _ rfl;obtain⟨b0,q0,-,s0⟩:=s8 Tryz.underlying9 t0;obtain rfl:c0=.string b0:=by simpa using q0
 obtain⟨c1,y1,e1,t1⟩:=hf 1 _ rfl;obtain⟨b1,q1,-⟩:=ue Tryz.underlying4 t1;obtain rfl:c1=.bool b1:=by simpa using q1
 obtain⟨c2,y2,e2,t2⟩:=hf 2 _ rfl;obtain⟨b2,q2,-⟩:=ue Tryz.underlying4 t2;obtain rfl:c2=.bool b2:=by simpa using q2
 obtain⟨c3,y3,e3,t3⟩:=hf 3 _ rfl;obtain⟨b3,q3,-,s3⟩:=s8 Tryz.underlying9 t3;obtain rfl:c3=.string b3:=by simpa using q3
 unfold maxLen at s0 s3;refine⟨⟨b0,b1,b2,b3⟩,fun i f hi=>?_⟩;rcases i with _|_|_|_|i
 ·exact iP
 ·cases hi;exact⟨_,(hc 1 af).trans e1,rfl⟩
 ·cases hi;exact⟨_,(hc 2 af).trans e2,rfl⟩
 ·cases hi;exact⟨_,(hc 3 af).trans e3,rfl,show b3.size<=_ by omega⟩
 ·first|(cases hi;done)|(simp[kdF] at hi;done)

theorem oU {n:Nat} {c:Value} {y:DataW H×List MemPlace} (h:tI enc Tryz.prog w base spare held n 23 [c]=some y):∃a len cap,∃xs:List Kd,c=.slice a len cap/\aA w a len cap 4 (xs.map kdF):=by
 rcases open_slice Tryz.underlying23 h with ⟨hcs,_⟩|⟨a,len,cap,m,n',D,Pl,hcs,hb,hl,hm,hmm,_,hx⟩
 ·exact fz
 obtain⟨hlm,hm'⟩:=f_;have hce:Tryz.prog.cellsOf 89=4:=an
 rw[hce] at hx;by_cases h0:len=0
 ·exact fy
 obtain⟨b,o,spot⟩:=a;obtain⟨cs0,k1,k2⟩:=hx 0 af;have hspot:spot=none:=by
  exact fD
 subst hspot;have hblt:b<w.heap.size:=by
  exact fE
 have each:∀i,i<len->∃v:Kd,RAt w b (o+i*4) (kdF v):=fun i hi=>by
  obtain⟨cs,k1,k2⟩:=hx i af;obtain⟨_,hl0,hc0⟩:=World.cells?_some k1;refine j6 (fun j hj=>?_) k2;exact fA
 have hin:Inhabited Kd:=⟨⟨⟨#[]⟩,false,false,⟨#[]⟩⟩⟩;exact jb

theorem jx {b o n:Nat} {cs:List Value} {x:DataW H×List MemPlace} (hc:∀i,i<8->w.cell? ⟨b,o+i,none⟩=cs[i]?) (h:tI enc Tryz.prog w base spare held n 92 cs=some x):∃v:Vd,RAt w b o (vdF v):=by
 obtain⟨m,hl,hf⟩:=cO Tryz.underlying92 an an h;obtain⟨c0,y0,e0,t0⟩:=hf 0 _ rfl;obtain⟨b0,q0,-,s0⟩:=s8 Tryz.underlying9 t0;obtain rfl:c0=.string b0:=by simpa using q0
 obtain⟨c1,y1,e1,t1⟩:=hf 1 _ rfl;obtain⟨b1,q1,-,s1⟩:=tY Tryz.underlying2 t1;obtain rfl:c1=.int .i64 b1:=by simpa using q1
 obtain⟨c2,y2,e2,t2⟩:=hf 2 _ rfl;obtain⟨b2,q2,-,s2⟩:=s8 Tryz.underlying9 t2;obtain rfl:c2=.string b2:=by simpa using q2
 obtain⟨c3,y3,e3,t3⟩:=hf 3 _ rfl;obtain⟨b3,q3,-,s3⟩:=s8 Tryz.underlying9 t3;obtain rfl:c3=.string b3:=by simpa using q3
 obtain⟨c4,y4,e4,t4⟩:=hf 4 _ rfl;obtain⟨b4,q4,-⟩:=ue Tryz.underlying4 t4;obtain rfl:c4=.bool b4:=by simpa using q4
 obtain⟨c5,y5,e5,t5⟩:=hf 5 _ rfl;obtain⟨b5,q5,-,s5⟩:=s8 Tryz.underlying9 t5;obtain rfl:c5=.string b5:=by simpa using q5
 obtain⟨c6,y6,e6,t6⟩:=hf 6 _ rfl;obtain⟨b6,q6,-⟩:=ue Tryz.underlying4 t6;obtain rfl:c6=.bool b6:=by simpa using q6
 obtain⟨c7,y7,e7,t7⟩:=hf 7 _ rfl;obtain⟨b7,l7,p7,zz,rfl,r7⟩:=dd Tryz.underlying54 Tryz.underlying9 an t7;unfold maxLen at s0 s2 s3 s5;refine⟨⟨b0,b1,b2,b3,b4,b5,b6,zz⟩,fun i f hi=>?_⟩;rcases i with _|_|_|_|_|_|_|_|i
 ·exact iP
 ·cases hi;exact⟨_,(hc 1 af).trans e1,rfl⟩
 ·exact mW
 ·cases hi;exact⟨_,(hc 3 af).trans e3,rfl,show b3.size<=_ by omega⟩
 ·cases hi;exact⟨_,(hc 4 af).trans e4,rfl⟩
 ·cases hi;exact⟨_,(hc 5 af).trans e5,rfl,show b5.size<=_ by omega⟩
 ·cases hi;exact⟨_,(hc 6 af).trans e6,rfl⟩
 ·cases hi;exact⟨_,(hc 7 af).trans e7,b7,l7,p7,rfl,r7⟩
 ·first|(cases hi;done)|(simp[vdF] at hi;done)

theorem oR {n:Nat} {c:Value} {y:DataW H×List MemPlace} (h:tI enc Tryz.prog w base spare held n 24 [c]=some y):∃a len cap,∃xs:List Vd,c=.slice a len cap/\aA w a len cap 8 (xs.map vdF):=by
 rcases open_slice Tryz.underlying24 h with ⟨hcs,_⟩|⟨a,len,cap,m,n',D,Pl,hcs,hb,hl,hm,hmm,_,hx⟩
 ·exact fz
 obtain⟨hlm,hm'⟩:=f_;have hce:Tryz.prog.cellsOf 92=8:=an
 rw[hce] at hx;by_cases h0:len=0
 ·exact fy
 obtain⟨b,o,spot⟩:=a;obtain⟨cs0,k1,k2⟩:=hx 0 af;have hspot:spot=none:=by
  exact fD
 subst hspot;have hblt:b<w.heap.size:=by
  exact fE
 have each:∀i,i<len->∃v:Vd,RAt w b (o+i*8) (vdF v):=fun i hi=>by
  obtain⟨cs,k1,k2⟩:=hx i af;obtain⟨_,hl0,hc0⟩:=World.cells?_some k1;refine jx (fun j hj=>?_) k2;exact fA
 have hin:Inhabited Vd:=⟨⟨⟨#[]⟩,0,⟨#[]⟩,⟨#[]⟩,false,⟨#[]⟩,false,[]⟩⟩;exact jb

theorem jt {b o n:Nat} {cs:List Value} {x:DataW H×List MemPlace} (hc:∀i,i<5->w.cell? ⟨b,o+i,none⟩=cs[i]?) (h:tI enc Tryz.prog w base spare held n 95 cs=some x):∃v:Xd,RAt w b o (xdF v):=by
 obtain⟨m,hl,hf⟩:=cO Tryz.underlying95 an an h;obtain⟨c0,y0,e0,t0⟩:=hf 0 _ rfl;obtain⟨b0,q0,-,s0⟩:=s8 Tryz.underlying9 t0;obtain rfl:c0=.string b0:=by simpa using q0
 obtain⟨c1,y1,e1,t1⟩:=hf 1 _ rfl;obtain⟨b1,q1,-,s1⟩:=tY Tryz.underlying2 t1;obtain rfl:c1=.int .i64 b1:=by simpa using q1
 obtain⟨c2,y2,e2,t2⟩:=hf 2 _ rfl;obtain⟨b2,q2,-,s2⟩:=s8 Tryz.underlying9 t2;obtain rfl:c2=.string b2:=by simpa using q2
 obtain⟨c3,y3,e3,t3⟩:=hf 3 _ rfl;obtain⟨b3,q3,-⟩:=ue Tryz.underlying4 t3;obtain rfl:c3=.bool b3:=by simpa using q3
 obtain⟨c4,y4,e4,t4⟩:=hf 4 _ rfl;obtain⟨b4,q4,-,s4⟩:=s8 Tryz.underlying9 t4;obtain rfl:c4=.string b4:=by simpa using q4
 unfold maxLen at s0 s2 s4;refine⟨⟨b0,b1,b2,b3,b4⟩,fun i f hi=>?_⟩;rcases i with _|_|_|_|_|i
 ·exact iP
 ·cases hi;exact⟨_,(hc 1 af).trans e1,rfl⟩
 ·exact mW
 ·cases hi;exact⟨_,(hc 3 af).trans e3,rfl⟩
 ·cases hi;exact⟨_,(hc 4 af).trans e4,rfl,show b4.size<=_ by omega⟩
 ·first|(cases hi;done)|(simp[xdF] at hi;done)

theorem oQ {n:Nat} {c:Value} {y:DataW H×List MemPlace} (h:tI enc Tryz.prog w base spare held n 25 [c]=some y):∃a len cap,∃xs:List Xd,c=.slice a len cap/\aA w a len cap 5 (xs.map xdF):=by
 rcases open_slice Tryz.underlying25 h with ⟨hcs,_⟩|⟨a,len,cap,m,n',D,Pl,hcs,hb,hl,hm,hmm,_,hx⟩
 ·exact fz
 obtain⟨hlm,hm'⟩:=f_;have hce:Tryz.prog.cellsOf 95=5:=an
 rw[hce] at hx;by_cases h0:len=0
 ·exact fy
 obtain⟨b,o,spot⟩:=a;obtain⟨cs0,k1,k2⟩:=hx 0 af;have hspot:spot=none:=by
  exact fD
 subst hspot;have hblt:b<w.heap.size:=by
  exact fE
 have each:∀i,i<len->∃v:Xd,RAt w b (o+i*5) (xdF v):=fun i hi=>by
  obtain⟨cs,k1,k2⟩:=hx i af;obtain⟨_,hl0,hc0⟩:=World.cells?_some k1;refine jt (fun j hj=>?_) k2;exact fA
 have hin:Inhabited Xd:=⟨⟨⟨#[]⟩,0,⟨#[]⟩,false,⟨#[]⟩⟩⟩;exact jb

theorem jP {b o n:Nat} {cs:List Value} {x:DataW H×List MemPlace} (hc:∀i,i<6->w.cell? ⟨b,o+i,none⟩=cs[i]?) (h:tI enc Tryz.prog w base spare held n 98 cs=some x):∃v:Pd,RAt w b o (pdF v):=by
 obtain⟨m,hl,hf⟩:=cO Tryz.underlying98 an an h;obtain⟨c0,y0,e0,t0⟩:=hf 0 _ rfl;obtain⟨b0,q0,-,s0⟩:=s8 Tryz.underlying9 t0;obtain rfl:c0=.string b0:=by simpa using q0
 obtain⟨c1,y1,e1,t1⟩:=hf 1 _ rfl;obtain⟨b1,q1,-,s1⟩:=tY Tryz.underlying2 t1;obtain rfl:c1=.int .i64 b1:=by simpa using q1
 obtain⟨c2,y2,e2,t2⟩:=hf 2 _ rfl;obtain⟨b2,q2,-,s2⟩:=s8 Tryz.underlying9 t2;obtain rfl:c2=.string b2:=by simpa using q2
 obtain⟨c3,y3,e3,t3⟩:=hf 3 _ rfl;obtain⟨b3,l3,p3,zz,rfl,r3⟩:=dd Tryz.underlying54 Tryz.underlying9 an t3;obtain⟨c4,y4,e4,t4⟩:=hf 4 _ rfl;obtain⟨b4,q4,-,s4⟩:=s8 Tryz.underlying9 t4;obtain rfl:c4=.string b4:=by simpa using q4
 obtain⟨c5,y5,e5,t5⟩:=hf 5 _ rfl;obtain⟨b5,q5,-,s5⟩:=tY Tryz.underlying2 t5;obtain rfl:c5=.int .i64 b5:=by simpa using q5
 unfold maxLen at s0 s2 s4;refine⟨⟨b0,b1,b2,zz,b4,b5⟩,fun i f hi=>?_⟩;rcases i with _|_|_|_|_|_|i
 ·exact iP
 ·cases hi;exact⟨_,(hc 1 af).trans e1,rfl⟩
 ·exact mW
 ·cases hi;exact⟨_,(hc 3 af).trans e3,b3,l3,p3,rfl,r3⟩
 ·cases hi;exact⟨_,(hc 4 af).trans e4,rfl,show b4.size<=_ by omega⟩
 ·cases hi;exact⟨_,(hc 5 af).trans e5,rfl⟩
 ·first|(cases hi;done)|(simp[pdF] at hi;done)

theorem oS {n:Nat} {c:Value} {y:DataW H×List MemPlace} (h:tI enc Tryz.prog w base spare held n 26 [c]=some y):∃a len cap,∃xs:List Pd,c=.slice a len cap/\aA w a len cap 6 (xs.map pdF):=by
 rcases open_slice Tryz.underlying26 h with ⟨hcs,_⟩|⟨a,len,cap,m,n',D,Pl,hcs,hb,hl,hm,hmm,_,hx⟩
 ·exact fz
 obtain⟨hlm,hm'⟩:=f_;have hce:Tryz.prog.cellsOf 98=6:=an
 rw[hce] at hx;by_cases h0:len=0
 ·exact fy
 obtain⟨b,o,spot⟩:=a;obtain⟨cs0,k1,k2⟩:=hx 0 af;have hspot:spot=none:=by
  exact fD
 subst hspot;have hblt:b<w.heap.size:=by
  exact fE
 have each:∀i,i<len->∃v:Pd,RAt w b (o+i*6) (pdF v):=fun i hi=>by
  obtain⟨cs,k1,k2⟩:=hx i af;obtain⟨_,hl0,hc0⟩:=World.cells?_some k1;refine jP (fun j hj=>?_) k2;exact fA
 have hin:Inhabited Pd:=⟨⟨⟨#[]⟩,0,⟨#[]⟩,[],⟨#[]⟩,0⟩⟩;exact jb

end

end Rc
end Go.Proofs.YtdfgbboadbnodaaGreatDoor

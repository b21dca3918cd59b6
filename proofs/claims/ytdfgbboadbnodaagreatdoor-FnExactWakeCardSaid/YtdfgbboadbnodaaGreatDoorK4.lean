import Derived.Test.YtdfgbboadbnodaaGreatDoorK3
import Derived.Deep.AppendLies
import Derived.Lib.Overlaps
import Derived.Lib.SliceRun
import Derived.Lib.AppendZerosOnto
import Derived.Deep.RegionLaw
import Derived.Shelf.RegionOpenPlain
import Derived.Laws.CopyRow
import Derived.Laws.Tables
import Derived.Laws.Rows
import Derived.Laws.CopyOwn
/-
 Things and lists of them in memory of their own, as the program makes them.
-/
set_option maxRecDepth 100000
set_option maxHeartbeats 12800000
open And renaming intro→sw
open Array renaming getD_eq_getD_getElem?→sD, getElem?_push_size→sH, getElem?_eq_some_iff→sO, getElem?_setIfInBounds→sS, length_toList→tW
open Bool renaming and_eq_true→tl
open Go.Addr renaming add_lit→tB
open Go.Builtin renaming append_→tM, copy_→ug
open Go.Calls renaming quiet_of_same→sQ
open Go.Op renaming bytesLess→sJ
open Go.Region renaming ready→tk, binds→tu, wanted→tA
open Go.RowKit.Below renaming heap_setCell→sz, refl→sB, heap_alloc→sR, alloc→tN
open Go.Value renaming string→sP
open Go.World renaming setCell→sZ, cell?_of_block→tj, ownsRow_nil→tr
open Int renaming le_trans→sV, add_assoc→tq
open List renaming getElem?_eq_some_iff→sv, getElem?_eq_getElem→sA, take_of_length_le→sE, getElem?_map→sK, lookup→sM, length_take→sU, getElem?_take→sW, getElem?_append_left→sX, length_append→sY, getElem?_eq_none→s9, take_add_one→tc, length_map→td, getElem?_append_right→tf, all_eq_true→tg, setIfInBounds_toArray→tm, eq_nil_of_length_eq_zero→tt, length_drop→tv, not_mem_nil→tx, mem_cons→tz, range→tC, append_assoc→tD, set_cons_zero→tF, forall_mem_cons→tL, getElem?_drop→tO, mem_range→tP, set_cons_succ→tQ, getLast?_eq_some_iff→tS, length_cons→tX, take_left'→ud, size_toArray→uh
open Nat renaming le_refl→sy, le_trans→sC, lt_of_lt_of_le→sG, le_succ→sN, zero_add→th
open Option renaming map_eq_some_iff→sF
open Option.some renaming inj→sx, injEq→tn
open Prod.mk renaming injEq→uf
namespace Go.Proofs.YtdfgbboadbnodaaGreatDoor
theorem fZ {p:Prop} (h:p:=by simp[sZ];have:=HB.size;omega):p:=h
theorem kM {p:Prop} (h:p:=by simp[results,Tryz.results83,go_sem, *]):p:=h
theorem iy {p:Prop} (h:p:=by rw[sU];omega):p:=h
theorem mF {p:Prop} (h:p:=by simp[results,Tryz.results30,go_sem, *]):p:=h
theorem kL {p:Prop} (h:p:=by simp[Act.eval,Act.put]):p:=h
theorem mD {p:Prop} (h:p:=by simp[results,Tryz.results21,go_sem]):p:=h
theorem pt {p:Prop} (h:p:=by simp only[sY,sU,tv];omega):p:=h
end Go.Proofs.YtdfgbboadbnodaaGreatDoor
namespace Go.Proofs.YtdfgbboadbnodaaGreatDoor
theorem gf {p:Prop} (h:p:=by
 refine Gi.Obl.plain rfl ?_;intro ac wg K lo hi hsz hW hpr hf hap hK;clear hsz hap hpr;have e1:=hf 1 ak;simp[Gi.slotFact,sM] at e1;clear hf;go_simp;refine hK _ _ (sB _ _) ?_;with_reducible rfl):p:=h
theorem qI {p:Prop} (h:p:=by
 go_enter Tryz.func96,Tryz.ntmps96;go_wp2_with (first|(at_builtin;refine cE rfl _ _ 122 30 rfl base 56 56 i0 (.agg #[.string ⟨#[]⟩,.string ⟨#[]⟩,.int .i64 0,.int .i64 0,.int .i64 0,.bool false,.slice none 0 0]) 7 88 Tryz.underlying122 Tryz.underlying30 HI0.1 HI0.2.1 HI0.2.2.1 HI0.2.2.2 rfl ak _ _ _ rfl HO.out ⟨vb,0,none⟩ 1 1 ys rfl af HYN.out HY1.out fc af hbs ?_));intro v' w' h1 h2;have H1:=aa h1;have H2:=aa h2;clear h1 h2;go_wp2;go_ret;exact⟨v',rfl,H1.out,H2.out⟩):p:=h
theorem fx {p:Prop} (h:p:=by
 go_simp;refine hK _ _ (Rv.other ak (sB _ _)) ?_;with_reducible rfl):p:=h
theorem nr {p:Prop} (h:p:=by
 rw[<-e1] at hV;have HV3:=aa hV;have HB3:=aa ((HB.trans (hb23.mono hBs)).grown hgrow cC (fun g hg=>(HO2.lt g hg).1));clear hown3 hgrow hb23 hV e1;go_wp2;exact⟨⟨k+1,_,_,by omega,by go_num,HO3,HV3,HB3⟩,by simp[intOf];omega⟩):p:=h
theorem qA {p:Prop} (h:p:=by
 rw[<-e1] at hs3;have HS1:=aa hs1;have HS2:=aa hs2';have HS3:=aa hs3;have HS4:=aa hs4;obtain⟨o0,o1,o2,o3,o4,o5⟩:=cs6 bo5;have fo0:=aq bo5 0;have fo2:=aq bo5 2;have fo4:=aq bo5 4;clear hs1 hs2' hs3 hs4 bo5 hown5 hgrow e1;go_wp2;exact⟨⟨k+1,_,H',_,by omega,by go_num,HS1,HS2,HS3,HS4⟩,by simp[intOf];omega⟩):p:=h
theorem nd {p:Prop} (h:p:=by
 rintro e w6 ⟨a',c',rfl,ho,hb6⟩;exact hK _ _ hb6 ⟨a',c',rfl,ho.da (fun k hk s=>⟨s,hk⟩),Below.size hW⟩):p:=h
theorem mZ {p:Prop} (h:p:=by
 rw[hl5] at HR5;rw[hl5];clear h5 hR HV HO;go_wp2;go_ret;exact⟨a',c',rfl,HR5.out,HB.out⟩):p:=h
theorem pZ {p:Prop} (h:p:=by
 intro a' c' w' hR hb6;have hsw:=hW.size;exact hK _ _ hb6 ⟨a',c',rfl,hR.da (fun k _ s=>by show W.heap.size<=k;rcases s with rfl|s <;> omega)⟩):p:=h
theorem eJ {p:Prop} (h:p:=by
 clear hf;obtain⟨k0,k1,k2,k3,k4,k5⟩:=cs6 ((Below.block hW _ (ae Bk.out)).trans Bk.out);exact eW):p:=h
theorem nJ {p:Prop} (h:p:=by
 refine Obl.plain rfl ?_;intro ac wg K hsz hW hf hK;clear hsz;have e6:=hf 6 ak;simp[slotFact,sM] at e6;clear hf;obtain⟨n0,n1,n2,n3,n4,n5,n6⟩:=cs7 ((hW.block _ (ae BnW.out)).trans BnW.out);exact eW):p:=h
theorem nI {p:Prop} (h:p:=by
 refine Obl.plain rfl ?_;intro ac wg K hsz hW hf hK;clear hsz;have e2:=hf 2 ak;simp[slotFact,sM] at e2;clear hf;obtain⟨k0,k1,k2,k3,k4,k5⟩:=cs6 ((hW.block _ (ae BkW.out)).trans BkW.out);exact eW):p:=h
theorem nH {p:Prop} (h:p:=by
 refine Gi.Obl.plain rfl ?_;intro ac wg K lo hi hsz hW hpr hf hap hK;clear hsz hap hpr;have hW:wr.grownBy wg v.ownBlock:=hW;have e3:=hf 3 ak;simp[Gi.slotFact,sM] at e3;clear hf;exact fx):p:=h
theorem jL {p:Prop} (h:p:=by
 show World.ownsRow _ _ _ _ _ _ _;rw[List.flatten_append];simpa using hown3):p:=h
theorem oZ {p:Prop} (h:p:=by
 have fr0:=aq Br.out 0;have fr1:=aq Br.out 1;have fr2:=aq Br.out 2;have fr3:=aq Br.out 3;have fr4:=aq Br.out 4;have fr5:=aq Br.out 5;have fr6:=aq Br.out 6;have fr7:=aq Br.out 7;have fr8:=aq Br.out 8;have fr9:=aq Br.out 9;have fr10:=aq Br.out 10;have fr11:=aq Br.out 11;have fr12:=aq Br.out 12;have fr13:=aq Br.out 13;have fr14:=aq Br.out 14;have hrl:w.heap.size+1<w1.heap.size:=ae Br.out;have hkl:w.heap.size<w1.heap.size:=ae Bk.out;have hn1:¬w.heap.size+1=w1.heap.size:=af
 have hn2:¬w1.heap.size=w.heap.size+1:=af
 exact sw fr0 (sw fr1 (sw fr2 (sw fr3 (sw fr4 (sw fr5 (sw fr6 (sw fr7 (sw fr8 (sw fr9 (sw fr10 (sw fr11 (sw fr12 (sw fr13 (sw fr14 (sw hrl (sw hkl (sw hn1 hn2)))))))))))))))))):p:=h
theorem eb {p:Prop} (h:p:=by
 have fr0:=aq Br.out 0;have fr1:=aq Br.out 1;have fr2:=aq Br.out 2;have fr3:=aq Br.out 3;have fr4:=aq Br.out 4;have fr5:=aq Br.out 5;exact sw fr0 (sw fr1 (sw fr2 (sw fr3 (sw fr4 fr5))))):p:=h
theorem mT {p:Prop} (h:p:=by
 have hXs:=HBX.size;have HBW:=aa (HBX.trans (HK.low (X:=w.heap.size) hXs (fun k s=>by rcases s with rfl|s <;> omega)));have BkR:=aa ((HK.block w.heap.size af (fun s=>by rcases s with s|s <;> omega)).trans Bk.out);have hKs:=HK.size;exact sw hXs (sw HBW (sw BkR hKs))):p:=h
theorem mP {p:Prop} (h:p:=by
 have HG:=aa hg;have HX2:=aa hbx;have HO2:=aa (bD HO.out hbx);have hs2:wr.heap.size<w2.heap.size:=by have:=hb2.size;rw[cF] at this;omega
 exact sw HG (sw HX2 (sw HO2 hs2))):p:=h
theorem pE {p:Prop} (h:p:=by
 have Br:Hid (W.heap[w.heap.size+1]?=some (.cells (clo6 none 0 0 none 0 0 none 0 0 none 0 0 none 0 0 0) 36 (0,0))):=by rw[hW0];exact bB _ _ _
 have hWs:W.heap.size=w.heap.size+1+1:=by rw[hW0];simp
 exact sw Br hWs):p:=h
theorem py {p:Prop} (h:p:=by
 have hs2:wr.heap.size+1<w2.heap.size:=by have:=hb2.size;simp at this;omega
 have hsl:∀k,(k=wr.heap.size+1\/wr.heap.size+1+1<=k)->wr.heap.size+1<=k:=fun k s=>by omega
 exact sw hs2 hsl):p:=h
theorem mL {p:Prop} (h:p:=by
 have hz8:vl<=8001:=by have h1:=hvr.1;have h2:=HS.out k x hx;omega
 have HX:=aa hx;have HT:=aa hvr;have HZz0:=aa z0;exact sw hz8 (sw HX (sw HT HZz0))):p:=h
theorem pw {p:Prop} (h:p:=by
 have HG:Hid (∀zs:List ByteArray,x.zs=zs->zs≠[]->wr.heap.size<=g):=fun zs e hz=>by subst e;have:=hsl _ (hg.lt hz).1;omega
 have HB4:=aa hb4;have HO4:=aa (bD HO.out hb4);exact sw HG (sw HB4 HO4)):p:=h
end Go.Proofs.YtdfgbboadbnodaaGreatDoor
namespace Go.Proofs.YtdfgbboadbnodaaGreatDoor
open Go.RowKit
namespace Rc
open Mk

theorem bO.fr {w:World} {a:Option Addr} {l c:Nat} {zs:List ByteArray} {S:Nat->Prop} (h:bO w a l c zs S):∃g,LFr w g S zs (.slice a l c):=by
 obtain⟨⟨h1,h2,h3,h4,h5⟩,h6⟩:=h;rcases h6 with rfl|⟨g,cur,rfl,hS,hg⟩
 ·exact⟨0,_,_,_,rfl,h1,h2,h3,h4,.inl rfl⟩
 ·refine⟨g,_,_,_,rfl,h1,h2,h3,h4,h5.imp id ?_⟩;rintro⟨b,o,e,hlt,hc⟩;cases e;exact⟨rfl,hS,cur,hg,fun j x hx=>by have:=hc j x hx;rw[ay hg,th] at this;exact this⟩
theorem LFr.lt {w:World} {h:Nat} {S:Nat->Prop} {zs:List ByteArray} {v:Value} (k:LFr w h S zs v) (hz:zs≠[]):S h/\h<w.heap.size:=by
 obtain⟨a',l',c',h1,h2,h3,h4,h5,h6⟩:=k;rcases h6 with h6|⟨_,q2,cu,q4,_⟩
 ·exact absurd h6 hz
 ·exact⟨q2,ae q4⟩
theorem cv (w:World) (vs:List Value) (T:TypeId):∀(j:Nat) u,vs[j]?=some u->(w.alloc (.cells vs.toArray T)).cell? ((⟨w.heap.size,0,none⟩:Addr).add j)=some u:=by
 intro j u hu;rw[tB,ay (heap_alloc_new w _),th];simpa using hu
theorem aH.app {w W w':World} {S:Nat->Prop} {m:Nat} {rs:List (List Fv)} {vss:List (List Value)} {H:Nat->Nat->Nat} {base n:Nat} {T:TypeId} {v:Value} {xs:List Value} (h:aH w S m rs vss H) (hb:Below w.heap.size w W) (ho:W.ownsRow base T m v n xs) (hT:¬T=9) (hg:W.grownBy w' v.ownBlock)
  {r:List Fv} {vs:List Value} {hh:Nat} (hr:r.length=m) (hvs:vs.length=m) (hc:∀(i:Nat) f,r[i]?=some f->∃v,vs[i]?=some v/\f.Fr W hh S v) (hfr:∀(i:Nat) zs,r[i]?=some (.l zs)->zs≠[]->w.heap.size<=hh)
  (h1:∀(i i':Nat) zs zs',r[i]?=some (.l zs)->zs≠[]->r[i']?=some (.l zs')->zs'≠[]->i=i'):aH w' S m (rs++[r]) (vss++[vs]) (fun j=>if j=rs.length then fun _=>hh else H j):=
 ((h.below hb).push hr hvs hc (fun i zs a b j r' i' zs' c d e q=>by have q1:=h.lt c d e;have q2:=hfr i zs a b;omega) h1).grown ho hT hg

theorem lS {x:Nd} {i:Nat} {zs:List ByteArray} (h:(ndF x)[i]?=some (.l zs)):i=6/\zs=x.zs:=by
 rcases i with _|_|_|_|_|_|_|i
 ·cases h
 ·cases h
 ·cases h
 ·cases h
 ·cases h
 ·cases h
 ·cases h;exact⟨rfl,rfl⟩
 ·simp[ndF] at h
theorem qP {w:World} {x:Nd} {g:Nat} {Q:Nat->Prop} {a:Option Addr} {l c:Nat} (hn:x.n.size<=9223372036854775807) (hz:x.z.size<=9223372036854775807) (hl:LFr w g Q x.zs (.slice a l c)):∀(i:Nat) f,(ndF x)[i]?=some f->∃v,[.string x.n,.string x.z,.int .i64 x.c,.int .i64 x.s,.int .i64 x.u,.bool x.d,.slice a l c][i]?=some v/\f.Fr w g Q v:=by
 intro i f h;rcases i with _|_|_|_|_|_|_|i
 ·cases h;exact⟨_,rfl,rfl,hn⟩
 ·cases h;exact⟨_,rfl,rfl,hz⟩
 ·cases h;exact⟨_,rfl,rfl⟩
 ·cases h;exact⟨_,rfl,rfl⟩
 ·cases h;exact⟨_,rfl,rfl⟩
 ·cases h;exact⟨_,rfl,rfl⟩
 ·cases h;exact⟨_,rfl,hl⟩
 ·simp[ndF] at h

theorem fL (x:Nd) (va:Option Addr) (vl vc:Nat) (w:World) (hr:ar w va vl vc x.zs) (hl:vl<=8001):
  Calls Tryz.prog 77 #[.agg #[.string x.n,.string x.z,.int .i64 x.c,.int .i64 x.s,.int .i64 x.u,.bool x.d,.slice va vl vc]] w fun e w'=> ∃a' l' c',e=.returned (.agg #[.string x.n,.string x.z,.int .i64 x.c,.int .i64 x.s,.int .i64 x.u,.bool x.d,.slice a' l' c'])/\bO w' a' l' c' x.zs (fun k=>w.heap.size<=k)/\Below w.heap.size w w':=by
 obtain⟨HR,HB⟩:=eS;clear hr;go_enter Tryz.func77,Tryz.ntmps77;go_wp2_with fail;refine (Ap.gF va vl vc x.zs _ (HR.below (HB.trans ((aB _ _ _).mono HB.size))) hl).mono ?_;rintro e w1 ⟨a',l',c',rfl,h1,h2,hb⟩;obtain⟨HA0,HA1,hbx⟩:=bS hb;have Bp:=aa HA0;have Br:=aa HA1;replace HB:=upB HB hbx;clear hb hbx HA0 HA1;have HO:Hid (bO w1 a' l' c' x.zs (fun k=>w.heap.size+1+1<=k)):=⟨h1,h2.imp id fun ⟨g,cur,e1,e2,e3⟩=>⟨g,cur,e1,by simpa using e2,e3⟩⟩;clear h1 h2;obtain⟨p0,p1,p2,p3,p4,p5,p6⟩:=cs7 Bp;obtain⟨r0,r1,r2,r3,r4,r5,r6⟩:=cs7 Br;obtain⟨fr0,fr1,fr2,fr3,fr4,fr5⟩:=eb;have fp6:=aq Bp.out 6;have fr6:=aq Br.out 6;go_wp2_with fail;refine bodyPost_ret (v:=.agg #[.string x.n,.string x.z,.int .i64 x.c,.int .i64 x.s,.int .i64 x.u,.bool x.d,.slice a' l' c']) (by simp[results,Tryz.results77,go_sem, *]) rfl ⟨a',l',c',rfl,HO.aI (fun k _ s=>by have s1:w.heap.size+1+1<=k:=s;rw[sz _ _ _ _ (show k≠w.heap.size+1 by omega),sz _ _ _ _ (show k≠w.heap.size+1 by omega),sz _ _ _ _ (show k≠w.heap.size+1 by omega),sz _ _ _ _ (show k≠w.heap.size+1 by omega),sz _ _ _ _ (show k≠w.heap.size+1 by omega),sz _ _ _ _ (show k≠w.heap.size+1 by omega),sz _ _ _ _ (show k≠w.heap.size+1 by omega),sz _ _ _ _ (show k≠w.heap.size by omega)]) (fun k _ s=>by have s1:w.heap.size+1+1<=k:=s;show w.heap.size<=k;omega),sb1 (sb1 (sb1 (sb1 (sb1 (sb1 (sb1 (ag (sy _) (HB.out))))))))⟩

theorem gO (a:Option Addr) (len cap:Nat) (xs:List Nd) (w:World) (hr:aA w a len cap 7 (xs.map ndF)) (hl:len<=8) (hs:∀(j:Nat) x,xs[j]?=some x->x.zs.length<=8001):
  Calls Tryz.prog 90 #[.slice a len cap,.func (.func 77) #[] #[]] w fun e w'=> ∃a' c',e=.returned (.slice a' len c')/\ax w' a' len c' 7 56 (xs.map ndF) (fun k=>w.heap.size<=k)/\Below w.heap.size w w':=by
 have HR:=aa hr;have HS:=aa hs;have hxl:xs.length=len:=de
 clear hr hs;obtain⟨i0,hi,hz0,hz1,hz2⟩:=info_parts eN;have HI0:=aa (sw hi (sw hz0 (sw hz1 hz2)));clear hi hz0 hz1 hz2;go_enter Tryz.func90,Tryz.ntmps90;go_wp2;go_loopw [5,10] (fun vo vi wr=> ∃(k:Nat) (vss:List (List Value)) (H:Nat->Nat->Nat),k<=len/\vi=.int .i64 k/\Hid (wr.ownsRow w.heap.size 56 7 vo k vss.flatten)/\Hid (aH wr (fun k=>w.heap.size<=k) 7 ((xs.take k).map ndF) vss H)/\Hid (Below w.heap.size w wr)) (fun _ vi _=>len - (intOf vi).toNat);case atStart=>exact⟨0,[],fun _ _=>0,by omega,rfl,tr _ _ _ _,aH.nil _ _ _ _,sB _ _⟩
 case round=>
  obtain⟨k,vss,H,hk,rfl,HO,HV,HB⟩:=hrel;have hBs:=HB.size;by_cases hlt:k<len
  ·obtain⟨b,o,x,rfl,hb,hx,hat⟩:=bq (HR.below HB.out) hlt;obtain⟨va,vl,vc,hvr,z0,z1,c0,c1,c2,c3,c4,c5,c6⟩:=aK hat;obtain⟨hz8,HX,HT,HZz0⟩:=mL;have HZz1:=aa z1;clear hat hx hvr z0 z1;go_wp2_with fail;refine (fL x va vl vc _ (HT.below (aj _ _)) hz8).mono ?_;rintro e w2 ⟨a',l',c',rfl,ho,hb2⟩;obtain⟨-,hbx⟩:=aJ hb2;rw[cF] at ho;obtain⟨g,hg⟩:=ho.fr;obtain⟨HG,HX2,HO2,hs2⟩:=mP;clear ho hb2 hbx hg hb c0 c1 c2 c3 c4 c5 c6;go_wp2_with (first|(at_builtin;refine wpList_append_own _ rfl _ _ 30 rfl w.heap.size 56 i0 (.agg #[.string ⟨#[]⟩,.string ⟨#[]⟩,.int .i64 0,.int .i64 0,.int .i64 0,.bool false,.slice none 0 0]) 7 88 Tryz.underlying30 HI0.1 HI0.2.1 HI0.2.2.1 HI0.2.2.2 rfl ak _ _ _ rfl (HO2.alloc _) ⟨w2.heap.size,0,none⟩ 1 1 [.string x.n,.string x.z,.int .i64 x.c,.int .i64 x.s,.int .i64 x.u,.bool x.d,.slice a' l' c'] rfl rfl ?c1 ?c2 ?c3 ?c4 ?c5 ?_));case c1=>exact cv _ _ _
   case c2=>intro u hu;simp only[tz,tx,or_false] at hu;rcases hu with rfl|rfl|rfl|rfl|rfl|rfl|rfl <;> rfl
   case c3=>unfold maxLen;omega
   case c4=>omega
   case c5=>simp;omega
   rintro v' w3 hown3 hgrow -;have HO3:Hid (w3.ownsRow w.heap.size 56 7 v' (k+1) (vss++([[.string x.n,.string x.z,.int .i64 x.c,.int .i64 x.s,.int .i64 x.u,.bool x.d,.slice a' l' c']]:List (List Value))).flatten):=by
    exact jL
   have hb23:Below wr.heap.size wr (w2.alloc (.cells (nov x a' l' c') 56)):=HX2.trans ((aj _ _).mono (Nat.le_of_lt hs2));have hV:=HV.app (r:=ndF x) (vs:=[.string x.n,.string x.z,.int .i64 x.c,.int .i64 x.s,.int .i64 x.u,.bool x.d,.slice a' l' c']) (hh:=g) hb23 (HO2.alloc _) ak hgrow rfl rfl
    (qP HZz0.out HZz1.out (HG.aI (S':=fun k=>w.heap.size<=k) (fun cu _ q=>sR _ _ _ (ae q)) (fun _ s=>by have s1:wr.heap.size+1<=g:=s;show w.heap.size<=g;omega)))
    (fun i zs hi hz=>by obtain⟨_,rfl⟩:=lS hi;have s1:wr.heap.size+1<=g:=(HG.lt hz).1;omega) (fun i i' zs zs' h1 _ h2 _=>(lS h1).1.trans (lS h2).1.symm)
   have e1:(xs.take (k+1)).map ndF=(xs.take k).map ndF++[ndF x]:=by rw[tc,HX.out];simp
   exact nr
  ·obtain rfl:len=k:=af
   have h5:=HV.out;rw[sE af] at h5;obtain⟨a',c',rfl,hR⟩:=h5.own HO.out (by simp[hxl]) ak (fun g hg=>(HO.lt g hg).1);have HR5:=aa hR;have hl5:(xs.map ndF).length=len:=by simpa using hxl
   exact mZ

theorem lG {x:Vd} {i:Nat} {zs:List ByteArray} (h:(vdF x)[i]?=some (.l zs)):i=7/\zs=x.zs:=by
 rcases i with _|_|_|_|_|_|_|_|i
 ·cases h
 ·cases h
 ·cases h
 ·cases h
 ·cases h
 ·cases h
 ·cases h
 ·cases h;exact⟨rfl,rfl⟩
 ·simp[vdF] at h
theorem pn {w:World} {x:Vd} {g:Nat} {Q:Nat->Prop} {a:Option Addr} {l c:Nat} (hn:x.n.size<=9223372036854775807) (hz:x.z.size<=9223372036854775807) (hk:x.k.size<=9223372036854775807) (hm:x.m.size<=9223372036854775807) (hl:LFr w g Q x.zs (.slice a l c)):∀(i:Nat) f,(vdF x)[i]?=some f->∃v,[.string x.n,.int .i64 x.c,.string x.z,.string x.k,.bool x.x,.string x.m,.bool x.y,.slice a l c][i]?=some v/\f.Fr w g Q v:=by
 intro i f h;rcases i with _|_|_|_|_|_|_|_|i
 ·cases h;exact⟨_,rfl,rfl,hn⟩
 ·cases h;exact⟨_,rfl,rfl⟩
 ·cases h;exact⟨_,rfl,rfl,hz⟩
 ·cases h;exact⟨_,rfl,rfl,hk⟩
 ·cases h;exact⟨_,rfl,rfl⟩
 ·cases h;exact⟨_,rfl,rfl,hm⟩
 ·cases h;exact⟨_,rfl,rfl⟩
 ·cases h;exact⟨_,rfl,hl⟩
 ·simp[vdF] at h

theorem j_ (x:Vd) (va:Option Addr) (vl vc:Nat) (w:World) (hr:ar w va vl vc x.zs) (hl:vl<=8001):
  Calls Tryz.prog 92 #[.agg #[.string x.n,.int .i64 x.c,.string x.z,.string x.k,.bool x.x,.string x.m,.bool x.y,.slice va vl vc]] w fun e w'=> ∃a' l' c',e=.returned (.agg #[.string x.n,.int .i64 x.c,.string x.z,.string x.k,.bool x.x,.string x.m,.bool x.y,.slice a' l' c'])/\bO w' a' l' c' x.zs (fun k=>w.heap.size<=k)/\Below w.heap.size w w':=by
 refine (Ap.rD x.n x.c x.z x.k x.x x.m x.y va vl vc x.zs w hr hl).mono ?_;rintro e w' ⟨a',l',c',rfl,h1,h2,hb⟩;exact⟨a',l',c',rfl,⟨h1,h2⟩,hb⟩

theorem gM (a:Option Addr) (len cap:Nat) (xs:List Vd) (w:World) (hr:aA w a len cap 8 (xs.map vdF)) (hl:len<=8) (hs:∀(j:Nat) x,xs[j]?=some x->x.zs.length<=8001):
  Calls Tryz.prog 91 #[.slice a len cap,.func (.func 92) #[] #[]] w fun e w'=> ∃a' c',e=.returned (.slice a' len c')/\ax w' a' len c' 8 101 (xs.map vdF) (fun k=>w.heap.size<=k)/\Below w.heap.size w w':=by
 have HR:=aa hr;have HS:=aa hs;have hxl:xs.length=len:=de
 clear hr hs;obtain⟨i0,hi,hz0,hz1,hz2⟩:=info_parts kd;have HI0:=aa (sw hi (sw hz0 (sw hz1 hz2)));clear hi hz0 hz1 hz2;go_enter Tryz.func91,Tryz.ntmps91;go_wp2;go_loopw [5,10] (fun vo vi wr=> ∃(k:Nat) (vss:List (List Value)) (H:Nat->Nat->Nat),k<=len/\vi=.int .i64 k/\Hid (wr.ownsRow w.heap.size 101 8 vo k vss.flatten)/\Hid (aH wr (fun k=>w.heap.size<=k) 8 ((xs.take k).map vdF) vss H)/\Hid (Below w.heap.size w wr)) (fun _ vi _=>len - (intOf vi).toNat);case atStart=>exact⟨0,[],fun _ _=>0,by omega,rfl,tr _ _ _ _,aH.nil _ _ _ _,sB _ _⟩
 case round=>
  obtain⟨k,vss,H,hk,rfl,HO,HV,HB⟩:=hrel;have hBs:=HB.size;by_cases hlt:k<len
  ·obtain⟨b,o,x,rfl,hb,hx,hat⟩:=bk (HR.below HB.out) hlt;obtain⟨va,vl,vc,hvr,z0,z2,z3,z5,c0,c1,c2,c3,c4,c5,c6,c7⟩:=aE hat;obtain⟨hz8,HX,HT,HZz0⟩:=mL;have HZz2:=aa z2;have HZz3:=aa z3;have HZz5:=aa z5;clear hat hx hvr z0 z2 z3 z5;go_wp2_with fail;refine (j_ x va vl vc _ (HT.below (aj _ _)) hz8).mono ?_;rintro e w2 ⟨a',l',c',rfl,ho,hb2⟩;obtain⟨-,hbx⟩:=aJ hb2;rw[cF] at ho;obtain⟨g,hg⟩:=ho.fr;obtain⟨HG,HX2,HO2,hs2⟩:=mP;clear ho hb2 hbx hg hb c0 c1 c2 c3 c4 c5 c6 c7;go_wp2_with (first|(at_builtin;refine wpList_append_own _ rfl _ _ 32 rfl w.heap.size 101 i0 (.agg #[.string ⟨#[]⟩,.int .i64 0,.string ⟨#[]⟩,.string ⟨#[]⟩,.bool false,.string ⟨#[]⟩,.bool false,.slice none 0 0]) 8 112 Tryz.underlying32 HI0.1 HI0.2.1 HI0.2.2.1 HI0.2.2.2 rfl ak _ _ _ rfl (HO2.alloc _) ⟨w2.heap.size,0,none⟩ 1 1 [.string x.n,.int .i64 x.c,.string x.z,.string x.k,.bool x.x,.string x.m,.bool x.y,.slice a' l' c'] rfl rfl ?c1 ?c2 ?c3 ?c4 ?c5 ?_));case c1=>exact cv _ _ _
   case c2=>intro u hu;simp only[tz,tx,or_false] at hu;rcases hu with rfl|rfl|rfl|rfl|rfl|rfl|rfl|rfl <;> rfl
   case c3=>unfold maxLen;omega
   case c4=>omega
   case c5=>simp;omega
   rintro v' w3 hown3 hgrow -;have HO3:Hid (w3.ownsRow w.heap.size 101 8 v' (k+1) (vss++([[.string x.n,.int .i64 x.c,.string x.z,.string x.k,.bool x.x,.string x.m,.bool x.y,.slice a' l' c']]:List (List Value))).flatten):=by
    exact jL
   have hb23:Below wr.heap.size wr (w2.alloc (.cells (vov x a' l' c') 101)):=HX2.trans ((aj _ _).mono (Nat.le_of_lt hs2));have hV:=HV.app (r:=vdF x) (vs:=[.string x.n,.int .i64 x.c,.string x.z,.string x.k,.bool x.x,.string x.m,.bool x.y,.slice a' l' c']) (hh:=g) hb23 (HO2.alloc _) ak hgrow rfl rfl
    (pn HZz0.out HZz2.out HZz3.out HZz5.out (HG.aI (S':=fun k=>w.heap.size<=k) (fun cu _ q=>sR _ _ _ (ae q)) (fun _ s=>by have s1:wr.heap.size+1<=g:=s;show w.heap.size<=g;omega)))
    (fun i zs hi hz=>by obtain⟨_,rfl⟩:=lG hi;have s1:wr.heap.size+1<=g:=(HG.lt hz).1;omega) (fun i i' zs zs' h1 _ h2 _=>(lG h1).1.trans (lG h2).1.symm)
   have e1:(xs.take (k+1)).map vdF=(xs.take k).map vdF++[vdF x]:=by rw[tc,HX.out];simp
   exact nr
  ·obtain rfl:len=k:=af
   have h5:=HV.out;rw[sE af] at h5;obtain⟨a',c',rfl,hR⟩:=h5.own HO.out (by simp[hxl]) ak (fun g hg=>(HO.lt g hg).1);have HR5:=aa hR;have hl5:(xs.map vdF).length=len:=by simpa using hxl
   exact mZ

theorem lP {x:Pd} {i:Nat} {zs:List ByteArray} (h:(pdF x)[i]?=some (.l zs)):i=3/\zs=x.zs:=by
 rcases i with _|_|_|_|_|_|i
 ·cases h
 ·cases h
 ·cases h
 ·cases h;exact⟨rfl,rfl⟩
 ·cases h
 ·cases h
 ·simp[pdF] at h
theorem qO {w:World} {x:Pd} {g:Nat} {Q:Nat->Prop} {a:Option Addr} {l c:Nat} (hn:x.n.size<=9223372036854775807) (hz:x.z.size<=9223372036854775807) (hd:x.d.size<=9223372036854775807) (hl:LFr w g Q x.zs (.slice a l c)):∀(i:Nat) f,(pdF x)[i]?=some f->∃v,[.string x.n,.int .i64 x.c,.string x.z,.slice a l c,.string x.d,.int .i64 x.p][i]?=some v/\f.Fr w g Q v:=by
 intro i f h;rcases i with _|_|_|_|_|_|i
 ·cases h;exact⟨_,rfl,rfl,hn⟩
 ·cases h;exact⟨_,rfl,rfl⟩
 ·cases h;exact⟨_,rfl,rfl,hz⟩
 ·cases h;exact⟨_,rfl,hl⟩
 ·cases h;exact⟨_,rfl,rfl,hd⟩
 ·cases h;exact⟨_,rfl,rfl⟩
 ·simp[pdF] at h

theorem ka (x:Pd) (va:Option Addr) (vl vc:Nat) (w:World) (hr:ar w va vl vc x.zs) (hl:vl<=8001):
  Calls Tryz.prog 94 #[.agg #[.string x.n,.int .i64 x.c,.string x.z,.slice va vl vc,.string x.d,.int .i64 x.p]] w fun e w'=> ∃a' l' c',e=.returned (.agg #[.string x.n,.int .i64 x.c,.string x.z,.slice a' l' c',.string x.d,.int .i64 x.p])/\bO w' a' l' c' x.zs (fun k=>w.heap.size<=k)/\Below w.heap.size w w':=by
 obtain⟨HR,HB⟩:=eS;clear hr;go_enter Tryz.func94,Tryz.ntmps94;go_wp2_with fail;refine (Ap.gF va vl vc x.zs _ (HR.below (HB.trans ((aB _ _ _).mono HB.size))) hl).mono ?_;rintro e w1 ⟨a',l',c',rfl,h1,h2,hb⟩;obtain⟨HA0,HA1,hbx⟩:=bS hb;have Bp:=aa HA0;have Br:=aa HA1;replace HB:=upB HB hbx;clear hb hbx HA0 HA1;have HO:Hid (bO w1 a' l' c' x.zs (fun k=>w.heap.size+1+1<=k)):=⟨h1,h2.imp id fun ⟨g,cur,e1,e2,e3⟩=>⟨g,cur,e1,by simpa using e2,e3⟩⟩;clear h1 h2;obtain⟨p0,p1,p2,p3,p4,p5⟩:=cs6 Bp;obtain⟨r0,r1,r2,r3,r4,r5⟩:=cs6 Br;have fr0:=aq Br.out 0;have fr1:=aq Br.out 1;have fr2:=aq Br.out 2;have fp3:=aq Bp.out 3;have fr3:=aq Br.out 3;have fr4:=aq Br.out 4;have fr5:=aq Br.out 5;go_wp2_with fail;refine bodyPost_ret (v:=.agg #[.string x.n,.int .i64 x.c,.string x.z,.slice a' l' c',.string x.d,.int .i64 x.p]) (by simp[results,Tryz.results94,go_sem, *]) rfl ⟨a',l',c',rfl,HO.aI (fun k _ s=>by have s1:w.heap.size+1+1<=k:=s;rw[sz _ _ _ _ (show k≠w.heap.size+1 by omega),sz _ _ _ _ (show k≠w.heap.size+1 by omega),sz _ _ _ _ (show k≠w.heap.size+1 by omega),sz _ _ _ _ (show k≠w.heap.size+1 by omega),sz _ _ _ _ (show k≠w.heap.size+1 by omega),sz _ _ _ _ (show k≠w.heap.size+1 by omega),sz _ _ _ _ (show k≠w.heap.size by omega)]) (fun k _ s=>by have s1:w.heap.size+1+1<=k:=s;show w.heap.size<=k;omega),sb1 (sb1 (sb1 (sb1 (sb1 (sb1 (ag (sy _) (HB.out)))))))⟩

theorem gN (a:Option Addr) (len cap:Nat) (xs:List Pd) (w:World) (hr:aA w a len cap 6 (xs.map pdF)) (hl:len<=8) (hs:∀(j:Nat) x,xs[j]?=some x->x.zs.length<=8001):
  Calls Tryz.prog 93 #[.slice a len cap,.func (.func 94) #[] #[]] w fun e w'=> ∃a' c',e=.returned (.slice a' len c')/\ax w' a' len c' 6 103 (xs.map pdF) (fun k=>w.heap.size<=k)/\Below w.heap.size w w':=by
 have HR:=aa hr;have HS:=aa hs;have hxl:xs.length=len:=de
 clear hr hs;obtain⟨i0,hi,hz0,hz1,hz2⟩:=info_parts ke;have HI0:=aa (sw hi (sw hz0 (sw hz1 hz2)));clear hi hz0 hz1 hz2;go_enter Tryz.func93,Tryz.ntmps93;go_wp2;go_loopw [5,10] (fun vo vi wr=> ∃(k:Nat) (vss:List (List Value)) (H:Nat->Nat->Nat),k<=len/\vi=.int .i64 k/\Hid (wr.ownsRow w.heap.size 103 6 vo k vss.flatten)/\Hid (aH wr (fun k=>w.heap.size<=k) 6 ((xs.take k).map pdF) vss H)/\Hid (Below w.heap.size w wr)) (fun _ vi _=>len - (intOf vi).toNat);case atStart=>exact⟨0,[],fun _ _=>0,by omega,rfl,tr _ _ _ _,aH.nil _ _ _ _,sB _ _⟩
 case round=>
  obtain⟨k,vss,H,hk,rfl,HO,HV,HB⟩:=hrel;have hBs:=HB.size;by_cases hlt:k<len
  ·obtain⟨b,o,x,rfl,hb,hx,hat⟩:=bR (HR.below HB.out) hlt;obtain⟨va,vl,vc,hvr,z0,z2,z4,c0,c1,c2,c3,c4,c5⟩:=aO hat;obtain⟨hz8,HX,HT,HZz0⟩:=mL;have HZz2:=aa z2;have HZz4:=aa z4;clear hat hx hvr z0 z2 z4;go_wp2_with fail;refine (ka x va vl vc _ (HT.below (aj _ _)) hz8).mono ?_;rintro e w2 ⟨a',l',c',rfl,ho,hb2⟩;obtain⟨-,hbx⟩:=aJ hb2;rw[cF] at ho;obtain⟨g,hg⟩:=ho.fr;obtain⟨HG,HX2,HO2,hs2⟩:=mP;clear ho hb2 hbx hg hb c0 c1 c2 c3 c4 c5;go_wp2_with (first|(at_builtin;refine wpList_append_own _ rfl _ _ 34 rfl w.heap.size 103 i0 (.agg #[.string ⟨#[]⟩,.int .i64 0,.string ⟨#[]⟩,.slice none 0 0,.string ⟨#[]⟩,.int .i64 0]) 6 88 Tryz.underlying34 HI0.1 HI0.2.1 HI0.2.2.1 HI0.2.2.2 rfl ak _ _ _ rfl (HO2.alloc _) ⟨w2.heap.size,0,none⟩ 1 1 [.string x.n,.int .i64 x.c,.string x.z,.slice a' l' c',.string x.d,.int .i64 x.p] rfl rfl ?c1 ?c2 ?c3 ?c4 ?c5 ?_));case c1=>exact cv _ _ _
   case c2=>intro u hu;simp only[tz,tx,or_false] at hu;rcases hu with rfl|rfl|rfl|rfl|rfl|rfl <;> rfl
   case c3=>unfold maxLen;omega
   case c4=>omega
   case c5=>simp;omega
   rintro v' w3 hown3 hgrow -;have HO3:Hid (w3.ownsRow w.heap.size 103 6 v' (k+1) (vss++([[.string x.n,.int .i64 x.c,.string x.z,.slice a' l' c',.string x.d,.int .i64 x.p]]:List (List Value))).flatten):=by
    exact jL
   have hb23:Below wr.heap.size wr (w2.alloc (.cells (pov x a' l' c') 103)):=HX2.trans ((aj _ _).mono (Nat.le_of_lt hs2));have hV:=HV.app (r:=pdF x) (vs:=[.string x.n,.int .i64 x.c,.string x.z,.slice a' l' c',.string x.d,.int .i64 x.p]) (hh:=g) hb23 (HO2.alloc _) ak hgrow rfl rfl
    (qO HZz0.out HZz2.out HZz4.out (HG.aI (S':=fun k=>w.heap.size<=k) (fun cu _ q=>sR _ _ _ (ae q)) (fun _ s=>by have s1:wr.heap.size+1<=g:=s;show w.heap.size<=g;omega)))
    (fun i zs hi hz=>by obtain⟨_,rfl⟩:=lP hi;have s1:wr.heap.size+1<=g:=(HG.lt hz).1;omega) (fun i i' zs zs' h1 _ h2 _=>(lP h1).1.trans (lP h2).1.symm)
   have e1:(xs.take (k+1)).map pdF=(xs.take k).map pdF++[pdF x]:=by rw[tc,HX.out];simp
   exact nr
  ·obtain rfl:len=k:=af
   have h5:=HV.out;rw[sE af] at h5;obtain⟨a',c',rfl,hR⟩:=h5.own HO.out (by simp[hxl]) ak (fun g hg=>(HO.lt g hg).1);have HR5:=aa hR;have hl5:(xs.map pdF).length=len:=by simpa using hxl
   exact mZ

end Rc
end Go.Proofs.YtdfgbboadbnodaaGreatDoor

namespace Go.Proofs.YtdfgbboadbnodaaGreatDoor
open Go.RowKit
namespace Gi

abbrev Rs:=Option Tmp->World->World->Prop
structure Rel (R:Rs) (sp:Tmp):Prop where
 refl:∀w,R none w w
 trans:∀{a b c},R none a b->R none b c->R none a c
 size:∀{a b},R none a b->a.heap.size<=b.heap.size
 drew:∀w,R none w w.drew
 sub:∀s {a b},R s a b->R none a b
 low:∀s {a b},¬s=none->¬s=some sp->R s a b->Below a.heap.size a b
abbrev Fact:=Value->World->Nat->Nat->Prop
abbrev Ex:=Tmp->Option Tmp
def Fact.bP (R:Rs) (ex:Ex) (d:Option Tmp) (φ:Fact):Prop:=∀s,¬s=none->¬s=d->(∀t e,d=some t->ex t=some e->¬s=some e)->∀v w w' l h,φ v w l h->R s w w'->φ v w' l h
theorem Fact.ei (R:Rs) (ex:Ex) (d:Option Tmp) (c:Value):Fact.bP R ex d (fun v _ _ _=>v=c):=fun _ _ _ _ _ _ _ _ _ h _=>h

def slotFact (ex:Ex) (d:Option Tmp) (a0:Act) (known:List (Tmp×Fact)) (a:Act) (w:World) (lo hi:Tmp->Nat) (t:Tmp):Prop:=
 match known.lookup t with
 | some φ=>(ex t=none\/ex t=d)->φ (a.tmps.getD t undef) w (lo t) (hi t)
 | none=>a.tmps.getD t undef=a0.tmps.getD t undef

def gY (known:List (Tmp×Fact)) (lo hi:Tmp->Nat) (ts:List Tmp):Prop:=∀t∈ts,∀t'∈ts,(known.lookup t).isSome=true->(known.lookup t').isSome=true->¬t=t'->hi t<=lo t'\/hi t'<=lo t
def Obl (R:Rs) (sp:Tmp) (ex:Ex) (P:Program) (ops:Array Oper) (Q:Exit->Act->World->Prop) (W:World) (a0:Act) (known:List (Tmp×Fact)) (o:Oper) (φ:Fact):Prop:=
 ∀(a:Act) (w:World) (K:Act->World->Prop) (lo hi:Tmp->Nat),a.tmps.size=a0.tmps.size->R none W w->(o.dst=some sp->Below W.heap.size W w)->(∀t∈o.looksAt ops,slotFact ex o.dst a0 known a w lo hi t)->gY known lo hi (o.looksAt ops)->
  (∀v w',R o.dst w w'->φ v w' w.heap.size w'.heap.size->K (a.put o.dst v) w')->if tA o (yielded ops a.tmps)=true then o.wp P a w K Q else K (a.put o.dst undef) w

theorem Obl.plain {R:Rs} {sp:Tmp} {ex:Ex} {P:Program} {ops:Array Oper} {Q:Exit->Act->World->Prop} {W:World} {a0:Act} {known:List (Tmp×Fact)} {o:Oper} {φ:Fact} (hg:o.guard=none)
  (h:∀(a:Act) (w:World) (K:Act->World->Prop) (lo hi:Tmp->Nat),a.tmps.size=a0.tmps.size->R none W w->(o.dst=some sp->Below W.heap.size W w)->(∀t∈looksOf o,slotFact ex o.dst a0 known a w lo hi t)->gY known lo hi (looksOf o)->(∀v w',R o.dst w w'->φ v w' w.heap.size w'.heap.size->K (a.put o.dst v) w')->o.wp P a w K Q):Obl R sp ex P ops Q W a0 known o φ:=by
 intro a w K lo hi h1 h2 h6 h3 h5 h4;have hw:tA o (yielded ops a.tmps)=true:=by simp[tA,hg]
 rw[if_pos hw];have hs:∀t∈looksOf o,t∈o.looksAt ops:=fun t ht=>by unfold Oper.looksAt;exact List.mem_append_left _ ht
 exact h a w K lo hi h1 h2 h6 (fun t ht=>h3 t (hs t ht)) (fun t ht t' ht'=>h5 t (hs t ht) t' (hs t' ht')) h4

def aR (a0:Act) (known:List (Tmp×Fact)) (x:Tmp->Value):Act:=known.foldr (fun p b=>b.put (some p.1) (x p.1)) a0
def rP (known:List (Tmp×Fact)) (lo hi:Tmp->Nat):Prop:=∀p∈known,∀q∈known,¬p.1=q.1->hi p.1<=lo q.1\/hi q.1<=lo p.1
def Fin (R:Rs) (ex:Ex) (P:Program) (ops:Array Oper) (Q:Exit->Act->World->Prop) (W:World) (a0:Act) (back:Option Oper) (known:List (Tmp×Fact)):Prop:=
 ∀(x:Tmp->Value) (w:World) (lo hi:Tmp->Nat),R none W w->(∀p∈known,ex p.1=none->p.2 (x p.1) w (lo p.1) (hi p.1))->rP known lo hi->ep P ops Q back (aR a0 known x) w

def kn (d:Option Tmp) (φ:Fact) (known:List (Tmp×Fact)):List (Tmp×Fact):=match d with|some t=>(t,φ) ::known|none=>known

def Grow (R:Rs) (sp:Tmp) (ex:Ex) (P:Program) (ops:Array Oper) (Q:Exit->Act->World->Prop) (W:World) (a0:Act) (back:Option Oper):List Oper->List (Tmp×Fact)->Prop
 | [],known=>Fin R ex P ops Q W a0 back known
 | o ::rest,known=> ∃φ:Fact,φ.bP R ex o.dst/\Obl R sp ex P ops Q W a0 known o φ/\Grow R sp ex P ops Q W a0 back rest (kn o.dst φ known)
theorem Grow.step {R:Rs} {sp:Tmp} {ex:Ex} {P:Program} {ops:Array Oper} {Q:Exit->Act->World->Prop} {W:World} {a0:Act} {back:Option Oper} {o:Oper} {rest:List Oper} {known:List (Tmp×Fact)} {t:Tmp} (φ:Fact) (hd:o.dst=some t) (hφ:φ.bP R ex (some t)) (ho:Obl R sp ex P ops Q W a0 known o φ)
  (h:Grow R sp ex P ops Q W a0 back rest ((t,φ) ::known)):Grow R sp ex P ops Q W a0 back (o ::rest) known:=⟨φ,by rw[hd];exact hφ,ho,by rw[hd];exact h⟩
theorem Grow.aV {R:Rs} {sp:Tmp} {ex:Ex} {P:Program} {ops:Array Oper} {Q:Exit->Act->World->Prop} {W:World} {a0:Act} {back:Option Oper} {o:Oper} {rest:List Oper} {known:List (Tmp×Fact)} {t:Tmp} (c:Value) (hd:o.dst=some t) (ho:Obl R sp ex P ops Q W a0 known o (fun v _ _ _=>v=c))
  (h:Grow R sp ex P ops Q W a0 back rest ((t,fun v _ _ _=>v=c) ::known)):Grow R sp ex P ops Q W a0 back (o ::rest) known:=Grow.step _ hd (Fact.ei R ex _ c) ho h
theorem Grow.done {R:Rs} {sp:Tmp} {ex:Ex} {P:Program} {ops:Array Oper} {Q:Exit->Act->World->Prop} {W:World} {a0:Act} {back:Option Oper} {known:List (Tmp×Fact)} (h:Fin R ex P ops Q W a0 back known):Grow R sp ex P ops Q W a0 back [] known:=h

section
variable {R:Rs} {sp:Tmp} {ex:Ex} {P:Program} {ops:Array Oper} {Q:Exit->Act->World->Prop} {W:World} {a0:Act} {back:Option Oper}

def knAll:List (Tmp×Fact)->List Oper->List Fact->List (Tmp×Fact)
 | known,o ::l,φ ::φs=>knAll (kn o.dst φ known) l φs
 | known,_,_=>known
theorem bo (known:List (Tmp×Fact)) (φs:List Fact):knAll known [] φs=known:=by cases φs <;> rfl

theorem Grow.spec:∀(l:List Oper) (known:List (Tmp×Fact)),Grow R sp ex P ops Q W a0 back l known->∃φs:List Fact,φs.length=l.length/\
  (∀(i:Nat) (o:Oper) (φ:Fact),l[i]?=some o->φs[i]?=some φ->φ.bP R ex o.dst/\Obl R sp ex P ops Q W a0 (knAll known (l.take i) (φs.take i)) o φ)/\Fin R ex P ops Q W a0 back (knAll known l φs)
 | [],known,h=>⟨[],rfl,fun i o φ h=>by simp at h,by rw[bo];exact h⟩
 | o ::l,known,h=>by
  exact nt

theorem eM (d:Option Tmp) (φ:Fact) (known:List (Tmp×Fact)) (t:Tmp):(kn d φ known).lookup t=if d=some t then some φ else known.lookup t:=by
 exact qj

theorem bG:∀(l:List Oper) (φs:List Fact) (known:List (Tmp×Fact)) {t:Tmp} {φ:Fact},(knAll known l φs).lookup t=some φ->
  (∃(i:Nat) (o:Oper),l[i]?=some o/\o.dst=some t/\φs[i]?=some φ)\/known.lookup t=some φ
 | [],φs,known,t,φ,h=>by rw[bo] at h;exact .inr h
 | o ::l,[],known,t,φ,h=>.inr h
 | o ::l,ψ ::φs,known,t,φ,h=>by
  exact qv
theorem bH:∀(l:List Oper) (φs:List Fact) (known:List (Tmp×Fact)) {t:Tmp},(knAll known l φs).lookup t=none->
  known.lookup t=none/\∀(i:Nat) (o:Oper) (φ:Fact),l[i]?=some o->φs[i]?=some φ->o.dst≠some t
 | [],φs,known,t,h=>by rw[bo] at h;exact⟨h,fun i o φ h=>by simp at h⟩
 | o ::l,[],known,t,h=>⟨h,fun i o φ _ h=>by simp at h⟩
 | o ::l,ψ ::φs,known,t,h=>by
  exact qE
theorem bT:∀(l:List Oper) (φs:List Fact) (known:List (Tmp×Fact)) {p:Tmp×Fact},p∈knAll known l φs->
  (∃(i:Nat) (o:Oper),l[i]?=some o/\o.dst=some p.1/\φs[i]?=some p.2)\/p∈known
 | [],φs,known,p,h=>by rw[bo] at h;exact .inr h
 | o ::l,[],known,p,h=>.inr h
 | o ::l,ψ ::φs,known,p,h=>by
  exact qC

theorem bL (a0:Act) (x:Tmp->Value):∀known,(aR a0 known x).tmps.size=a0.tmps.size
 | []=>rfl
 | p ::l=>by unfold aR;rw[List.foldr_cons,size_put];exact bL a0 x l
theorem bM (a0:Act) (x:Tmp->Value):∀known,(aR a0 known x).defers=a0.defers
 | []=>rfl
 | p ::l=>by unfold aR;rw[List.foldr_cons,c8];exact bM a0 x l
theorem ef (a0 a:Act) (known:List (Tmp×Fact)) (hk:∀p∈known,p.1<a0.tmps.size) (t:Tmp) (h:(∀p∈known,p.1≠t)->a.tmps.getD t undef=a0.tmps.getD t undef):
  (aR a0 known (fun t=>a.tmps.getD t undef)).tmps.getD t undef=a.tmps.getD t undef:=by
 exact qH
structure At (R:Rs) (sp:Tmp) (ex:Ex) (front:List Oper) (φs:List Fact) (W:World) (a0:Act) (listed:Array Bool) (a:Act) (w:World) (lo hi:Tmp->Nat):Prop where
 size:a.tmps.size=a0.tmps.size
 defers:a.defers=a0.defers
 below:R none W w
 pre:(∀(i:Nat) (p:Oper),front[i]?=some p->p.dst=some sp->listed.getD i false=false)->Below W.heap.size W w
 known:∀(i:Nat) (o:Oper) (φ:Fact),front[i]?=some o->φs[i]?=some φ->∀t,o.dst=some t->listed.getD i false=true->(∀e,ex t=some e->∀(i':Nat) (p':Oper),front[i']?=some p'->p'.dst=some e->listed.getD i' false=false)->φ (a.tmps.getD t undef) w (lo t) (hi t)
 top:∀(i:Nat) (o:Oper),front[i]?=some o->∀t,o.dst=some t->listed.getD i false=true->hi t<=w.heap.size
 apart:∀(i:Nat) (o:Oper) (i':Nat) (o':Oper),front[i]?=some o->front[i']?=some o'->∀t t',o.dst=some t->o'.dst=some t'->listed.getD i false=true->listed.getD i' false=true->¬t=t'->hi t<=lo t'\/hi t'<=lo t
 other:∀t,(∀(i:Nat) (o:Oper),front[i]?=some o->o.dst=some t->listed.getD i false=false)->a.tmps.getD t undef=a0.tmps.getD t undef

theorem At.step {front:List Oper} {φs:List Fact} {listed:Array Bool} {a:Act} {w w':World} {lo hi:Tmp->Nat} {j:Nat} {o:Oper} {φ:Fact} {v:Value} (hR:Rel R sp) (hds:¬o.dst=none) (h:At R sp ex front φs W a0 listed a w lo hi)
  (hn:(front.filterMap (·.dst)).Nodup) (hin:∀o∈front,∀t,o.dst=some t->t<a0.tmps.size) (hmono:∀(i:Nat) (o:Oper) (φ:Fact),front[i]?=some o->φs[i]?=some φ->φ.bP R ex o.dst)
  (ho:front[j]?=some o) (hφ:φs[j]?=some φ) (hj:j<listed.size) (hb:R o.dst w w') (hv:φ v w' w.heap.size w'.heap.size):∃lo hi,At R sp ex front φs W a0 (listed.setIfInBounds j true) (a.put o.dst v) w' lo hi:=by
 have old:∀(i:Nat) (p:Oper) t,front[i]?=some p->p.dst=some t->¬j=i->(listed.setIfInBounds j true).getD i false=true->¬o.dst=some t/\listed.getD i false=true:=fun i p t hp ht e hl=>
  ⟨fun hd=>e (cP front hn ho hp hd ht),by simpa[sD,sS,e] using hl⟩
 refine⟨fun t=>if o.dst=some t then w.heap.size else lo t,fun t=>if o.dst=some t then w'.heap.size else hi t,(size_put _ _ _).trans h.size,(c8 _ _ _).trans h.defers,hR.trans h.below (hR.sub _ hb),fun hx=>?_,?_,?_,?_,?_⟩
 ·have hns:¬o.dst=some sp:=fun e=>by
   have:=hx j o ho e;simp[sD,hj] at this
  have h1:=h.pre (fun i p hp hd=>by
   have h2:=hx i p hp hd
   have e:¬j=i:=fun e=>by subst e;exact hns (by rw[sx (ho.symm.trans hp)];exact hd)
   simpa[sD,sS,e] using h2)
  exact h1.trans ((hR.low _ hds hns hb).mono h1.size)
 ·intro i p ψ hp hψ t ht hl hx;by_cases e:j=i
  ·subst e;obtain rfl:o=p:=sx (ho.symm.trans hp);obtain rfl:φ=ψ:=sx (hφ.symm.trans hψ);simp only[if_pos ht];exact nR
  ·obtain⟨hne,hl'⟩:=old i p t hp ht e hl;simp only[if_neg hne];have hxo:∀e,ex t=some e->∀(i':Nat) (p':Oper),front[i']?=some p'->p'.dst=some e->¬j=i'/\listed.getD i' false=false:=fun e9 he i' p' hp' hd'=>by
    have h9:=hx e9 he i' p' hp' hd';by_cases ej:j=i'
    ·subst ej;simp[sD,hj] at h9
    ·exact⟨ej,by simpa[sD,sS,ej] using h9⟩
   have h1:=hmono i p ψ hp hψ o.dst hds (fun e9=>hne (e9.trans ht)) (fun t9 e9 h8 h9 hd=>by
    obtain rfl:t=t9:=sx (ht.symm.trans h8)
    exact (hxo e9 h9 j o ho hd).1 rfl) _ _ _ _ _ (h.known i p ψ hp hψ t ht hl' (fun e9 he i' p' hp' hd'=>(hxo e9 he i' p' hp' hd').2)) hb
   exact nA
 ·intro i p hp t ht hl;by_cases e:j=i
  ·subst e;obtain rfl:o=p:=sx (ho.symm.trans hp);simp only[if_pos ht];exact sy _
  ·obtain⟨hne,hl'⟩:=old i p t hp ht e hl;simp only[if_neg hne];exact sC (h.top i p hp t ht hl') (hR.size (hR.sub _ hb))
 ·intro i p i' p' hp hp' t t' ht ht' hl hl' hne;by_cases e:j=i
  ·subst e;obtain rfl:o=p:=sx (ho.symm.trans hp);by_cases e':j=i'
   ·subst e';obtain rfl:o=p':=sx (ho.symm.trans hp');exact absurd (sx (ht.symm.trans ht')) hne
   ·obtain⟨hne',hl''⟩:=old i' p' t' hp' ht' e' hl';simp only[if_pos ht,if_neg hne'];exact .inr (h.top i' p' hp' t' ht' hl'')
  ·obtain⟨hne1,hl1⟩:=old i p t hp ht e hl;by_cases e':j=i'
   ·subst e';obtain rfl:o=p':=sx (ho.symm.trans hp');simp only[if_pos ht',if_neg hne1];exact .inl (h.top i p hp t ht hl1)
   ·obtain⟨hne',hl''⟩:=old i' p' t' hp' ht' e' hl';simp only[if_neg hne1,if_neg hne'];exact h.apart i p i' p' hp hp' t t' ht ht' hl1 hl'' hne
 ·exact qG

theorem Fin.last {front:List Oper} {φs:List Fact} {listed:Array Bool} {a:Act} {w:World} {lo hi:Tmp->Nat} (hf:Fin R ex P ops Q W a0 back (knAll [] front φs)) (hlen:φs.length=front.length) (hin:∀o∈front,∀t,o.dst=some t->t<a0.tmps.size)
  (h:At R sp ex front φs W a0 listed a w lo hi) (hall:∀i,i<front.length->listed.getD i false=true):ep P ops Q back a w:=by
 have h1:=hf (fun t=>a.tmps.getD t undef) w lo hi h.below (fun p hp hpe=>by
  rcases bT front φs [] hp with ⟨i,o,h1,h2,h3⟩|h1
  ·exact h.known i o p.2 h1 h3 p.1 h2 (hall i (sv.1 h1).1) (fun e he=>by rw[hpe] at he;cases he)
  ·simp at h1) (fun p hp q hq hne=>by
  rcases bT front φs [] hp with ⟨i,o,h1,h2,h3⟩|h1
  ·rcases bT front φs [] hq with ⟨i',o',g1,g2,g3⟩|g1
   ·exact h.apart i o i' o' h1 g1 p.1 q.1 h2 g2 (hall i (sv.1 h1).1) (hall i' (sv.1 g1).1) hne
   ·simp at g1
  ·simp at h1)
 exact qN

theorem cn {front:List Oper} {φs:List Fact} (hR:Rel R sp) (hds:∀o∈front,¬o.dst=none) (hops:ops=(front++back.toList).toArray) (hB:growB a0.tmps.size front back=true) (hlen:φs.length=front.length)
  (hs:∀(i:Nat) (o:Oper) (φ:Fact),front[i]?=some o->φs[i]?=some φ->φ.bP R ex o.dst/\Obl R sp ex P ops Q W a0 (knAll [] (front.take i) (φs.take i)) o φ) (hf:Fin R ex P ops Q W a0 back (knAll [] front φs)):
  ∀(fuel:Nat) (listed:Array Bool) (a:Act) (w:World),listed.size=ops.size->listed.toList.count false<=fuel->(∀o,back=some o->listed.getD front.length false=false)->(∃lo hi,At R sp ex front φs W a0 listed a w lo hi)->wpAny P .any ops Q fuel listed a w:=by
 obtain⟨hn,hin,hdep,hlt,hback⟩:=cZ hB;rw[<-hops] at hdep hlt;have hsz:ops.size=front.length+back.toList.length:=by rw[hops];simp
 have hend:∀(listed:Array Bool) (a:Act) (w:World),listed.size=ops.size->(∀i,i<ops.size->listed.getD i false=true)->(∀o,back=some o->listed.getD front.length false=false)->(∃lo hi,At R sp ex front φs W a0 listed a w lo hi)->Q .normal a w:=by
  rintro listed a w hz hall hb ⟨lo,hi,h⟩;exact qe
 intro fuel;induction fuel with
 | zero=>
  intro listed a w hz hc hb h;have hall:∀i,i<ops.size->listed.getD i false=true:=fun i hi=>eg af i af;refine⟨?_,hend listed a w hz hall hb h⟩
  cases hr:tk .any ops listed with
  | nil=>rfl
  | cons j js=>
   have hm:j∈tk .any ops listed:=by rw[hr];simp
   obtain⟨h1,o,ho,-⟩:=mem_ready.1 hm;have hj:=(sO.1 ho).1;rw[<-bC af,hall j hj] at h1
   cases h1
 | succ fuel ih=>
  intro listed a w hz hc hb hlh;refine⟨fun hr=>hend listed a w hz (dQ hz hlt hr) hb hlh,fun j hj=>?_⟩;obtain⟨lo,hi,h⟩:=hlh;obtain⟨hun,o,ho,hall⟩:=mem_ready.1 hj;have hjs:j<ops.size:=(sO.1 ho).1;have hcs:=count_set (listed:=listed) (i:=j) af hun
  by_cases hjf:j<front.length
  ·have hof:front[j]?=some o:=by rw[hops] at ho;simpa[sX hjf] using ho
   have hφ:φs[j]?=some (φs[j]'(by omega)):=sA _;obtain⟨hm,hob⟩:=hs j o _ hof hφ
   have hfacts:∀t∈o.looksAt ops,slotFact ex o.dst a0 (knAll [] (front.take j) (φs.take j)) a w lo hi t:=by
    intro t ht;unfold slotFact
    cases hk:(knAll [] (front.take j) (φs.take j)).lookup t with
    | some φ=>
     rcases bG _ _ _ hk with ⟨i,p,h1,h2,h3⟩|h1
     ·have hij:i<j:=by have:=(sv.1 h1).1;simp at this;omega
      rw[sW,if_pos hij] at h1 h3;obtain⟨-,e,he,hon,hbi⟩:=hdep j o hof t ht i p h1 h2;have hl:=hall e he hbi;rw[hon] at hl;intro hex;refine h.known i p φ h1 h3 t h2 hl (fun e9 he i' p' hp' hd'=>?_)
      rcases hex with h9|h9
      ·rw[h9] at he;cases he
      ·have:i'=j:=cP front hn hp' hof hd' (h9.symm.trans he);subst this;rw[bC af];exact hun
     ·simp at h1
    | none=>
     refine h.other t (fun i p hp hd=>?_)
     exfalso
     obtain⟨hij,-⟩:=hdep j o hof t ht i p hp hd;have hi:=(sv.1 hp).1;exact (bH _ _ _ hk).2 i p (φs[i]'(by omega)) mH mK hd
   have hfind:∀t∈o.looksAt ops,((knAll [] (front.take j) (φs.take j)).lookup t).isSome=true->∃(i:Nat) (p:Oper),front[i]?=some p/\p.dst=some t/\listed.getD i false=true:=by
    intro t ht hk;obtain⟨φ,hφ'⟩:=Option.isSome_iff_exists.1 hk
    rcases bG _ _ _ hφ' with ⟨i,p,h1,h2,h3⟩|h1
    ·have hij:i<j:=by have:=(sv.1 h1).1;simp at this;omega
     rw[sW,if_pos hij] at h1;obtain⟨-,e,he,hon,hbi⟩:=hdep j o hof t ht i p h1 h2;have hl:=hall e he hbi;rw[hon] at hl;exact⟨i,p,h1,h2,hl⟩
    ·simp at h1
   have hap:gY (knAll [] (front.take j) (φs.take j)) lo hi (o.looksAt ops):=by
    intro t ht t' ht' hk hk' hne;obtain⟨i,p,h1,h2,h3⟩:=hfind t ht hk;obtain⟨i',p',g1,g2,g3⟩:=hfind t' ht' hk';exact h.apart i p i' p' h1 g1 t t' h2 g2 h3 g3 hne
   have hpre:o.dst=some sp->Below W.heap.size W w:=fun hd=>h.pre (fun i p hp hd'=>by
    have:i=j:=cP front hn hp hof hd' hd;subst this;rw[bC af]
    exact hun)
   have h1:=hob a w (wpAny P .any ops Q fuel (listed.setIfInBounds j true)) lo hi h.size h.below hpre hfacts hap (fun v w' hbw hv=>by
    refine ih _ _ _ (by simpa using hz) af (fun o' ho'=>?_) (h.step hR (hds o (List.mem_of_getElem? hof)) hn hin (fun i o φ h1 h2=>(hs i o φ h1 h2).1) hof hφ af hbw hv);have h2:=hb o' ho'
    have e:¬j=front.length:=af
    simpa[sD,sS,e] using h2)
   unfold wpOp;rw[ho]
   simp only
   split
   ·rename_i hw;rw[if_pos hw] at h1;exact .inl h1
   ·rename_i hw;rw[if_neg hw] at h1;exact h1
  ·cases hk:back with
   | none=>rw[hk] at hsz;simp at hsz;omega
   | some b=>
    have hjn:j=front.length:=by rw[hk] at hsz;simp at hsz;omega
    subst hjn
    have hob:o=b:=by
     rw[hops,hk] at ho
     simp at ho
     exact ho.symm
    subst hob
    have hfl:∀i,i<front.length->listed.getD i false=true:=fun i hi=>by
     obtain⟨e,he,hon,hbi⟩:=hback o hk i hi;have:=hall e he hbi
     rwa [hon] at this
    have h1:=hf.last hlen hin h hfl;rw[hk] at h1
    have h2:=h1 (wpAny P .any ops Q fuel (listed.setIfInBounds front.length true)) (fun a' w' hq=>by
     have hr:tk .any ops (listed.setIfInBounds front.length true)=[]:=by
      cases hr:tk .any ops (listed.setIfInBounds front.length true) with
      | nil=>rfl
      | cons i is=>
       have hm:i∈tk .any ops (listed.setIfInBounds front.length true):=by rw[hr];simp
       obtain⟨h3,o',ho',-⟩:=mem_ready.1 hm;have hi:=(sO.1 ho').1
       exfalso
       by_cases e:front.length=i
       ·subst e
        simp[sD,show front.length<listed.size from by omega] at h3
       ·have h4:=hfl i (by rw[hk] at hsz;simp at hsz;omega);rw[bC af] at h4
        simp[sD,e] at h3 h4
        rw[h3] at h4
        cases h4
     cases fuel with
     | zero=>exact⟨hr,hq⟩
     | succ fuel=>exact⟨fun _=>hq,fun i hi=>by rw[hr] at hi;cases hi⟩)
    unfold wpOp;rw[ho]
    simp only
    split
    ·rename_i hw;rw[if_pos hw] at h2;exact .inl h2
    ·rename_i hw;rw[if_neg hw] at h2;exact h2
end

theorem bK {R:Rs} {sp:Tmp} {ex:Ex} (hR:Rel R sp) {P:Program} {id:Nat} {Q:Exit->Act->World->Prop} {a0:Act} {W:World} {l:List Oper} {front:List Oper} {back:Option Oper} (hm:P.follows .mixedOrders=true) (hl:l=front++back.toList) (hds:front.all (fun o=>o.dst.isSome)=true) (hB:growB a0.tmps.size front back=true)
  (h:Grow R sp ex P l.toArray Q W a0 back front []):(Code.region id l.toArray true).wp P Q a0 W:=by
 obtain⟨φs,hlen,hs,hf⟩:=Grow.spec _ _ h;refine wp_region_any hm (cn hR (fun o ho e=>by have:=tg.1 hds o ho;rw[e] at this;cases this) (by rw[hl]) hB hlen hs hf _ _ _ _ aT ?_ (fun o ho=>?_) ⟨fun _=>0,fun _=>0,rfl,rfl,hR.drew _,fun _=>(sB _ _).drew,fun i o φ h1 h2 t ht hx _=>?_,fun i o h1 t ht hx=>?_,fun i o i' o' h1 h2 t t' ht ht' hx=>?_,fun t _=>rfl⟩)
 ·exact m_
 ·exact bc _ _
 ·rw[bc] at hx;cases hx
 ·rw[bc] at hx;cases hx
 ·rw[bc] at hx;cases hx
theorem bw {R:Rs} {sp:Tmp} {ex:Ex} (hR:Rel R sp) {P:Program} {id:Nat} {Q:Exit->Act->World->Prop} {a0:Act} {W:World} {l:List Oper} {front:List Oper} {last:Oper} (hm:P.follows .mixedOrders=true) (hf:l.dropLast=front) (hb:l.getLast?=some last) (hds:front.all (fun o=>o.dst.isSome)=true) (hB:growB a0.tmps.size front (some last)=true)
  (h:Grow R sp ex P l.toArray Q W a0 (some last) front []):(Code.region id l.toArray true).wp P Q a0 W:=by
 refine bK hR hm ?_ hds hB h;obtain⟨l',rfl⟩:=tS.1 hb;rw[<-hf];simp

def Bel (w w':World):Prop:=Below w.heap.size w w'
theorem Bel.rel (sp:Tmp):Rel (fun _=>Bel) sp:=⟨fun _=>sB _ _,fun h k=>Below.trans h (Below.mono k (Below.size h)),fun h=>Below.size h,fun _=>(sB _ _).drew,fun _ _ _ h=>h,fun _ _ _ _ _ h=>h⟩
end Gi
end Go.Proofs.YtdfgbboadbnodaaGreatDoor

namespace Go.Proofs.YtdfgbboadbnodaaGreatDoor
open Go.RowKit
namespace Rc
open Mk

structure Sm (c:Cl):Prop where
 n:c.ns.length<=8
 ns:∀(j:Nat) x,c.ns[j]?=some x->x.zs.length<=8001
 k:c.ks.length<=8
 v:c.vs.length<=8
 vs:∀(j:Nat) x,c.vs[j]?=some x->x.zs.length<=8001
 x:c.xs.length<=8
 p:c.ps.length<=8
 ps:∀(j:Nat) x,c.ps[j]?=some x->x.zs.length<=8001
theorem bV.sm {c:Cl} (h:bV c):Sm c:=by
 obtain⟨_,⟨⟨h1,h2,_⟩,⟨h3,_⟩,⟨h4,h5,_⟩,⟨h6,_⟩,⟨h7,h8,_⟩⟩,_⟩:=h;refine⟨by omega,fun j x hj=>?_,by omega,by omega,fun j x hj=>?_,by omega,by omega,fun j x hj=>?_⟩
 ·have:=(h2 j x hj).2.2.2.2.2.1;omega
 ·have:=(gg (h5 j x hj).2.2.2.2.2.2).1;omega
 ·have:=(h8 j x hj).2.2.2.1.1;omega

def cg (r:List Fv):List Value:=r.map fun f=>f.val.getD undef
def dk (r:List Fv):Prop:=∀(i:Nat) f,r[i]?=some f->∃v,f.val=some v
theorem Fv.Is.val {w:World} {f:Fv} {v u:Value} (h:f.Is w v) (hu:f.val=some u):v=u/\f.Fr w 0 (fun _=>False) v:=by
 cases f with
 | s t=>cases hu;exact⟨h.1,h⟩
 | i n=>cases hu;exact⟨h,h⟩
 | b x=>cases hu;exact⟨h,h⟩
 | l zs=>cases hu
theorem Fv.Fr.any {w w':World} {f:Fv} {v u:Value} {h h':Nat} {S S':Nat->Prop} (k:f.Fr w h S v) (hu:f.val=some u):f.Fr w' h' S' v:=by
 cases f with
 | l zs=>cases hu
 | _=>exact k
theorem oF {r:List Fv} (hf:dk r) {i:Nat} {f:Fv} (hi:r[i]?=some f):∃u,f.val=some u/\(cg r)[i]?=some u:=by
 obtain⟨u,hu⟩:=hf i f hi;exact⟨u,hu,by rw[cg,sK,hi];simp[hu]⟩
theorem me {r:List Fv} (hf:dk r) {i:Nat} {u:Value} (hi:(cg r)[i]?=some u):∃f,r[i]?=some f/\f.val=some u:=by
 rw[cg,sK] at hi;obtain⟨f,h1,h2⟩:=sF.1 hi;obtain⟨v,hv⟩:=hf i f h1;rw[hv] at h2;exact⟨f,h1,by rw[hv];simpa using h2⟩
section
variable {w:World} {a:Option Addr} {len cap m:Nat} {rs:List (List Fv)}
theorem ey (hm:∀(j:Nat) r,rs[j]?=some r->r.length=m):∀(j:Nat) vs,(rs.map cg)[j]?=some vs->vs.length=m:=by
 intro j vs hj;rw[sK] at hj;obtain⟨r,h1,rfl⟩:=sF.1 hj;rw[cg,td];exact hm j r h1
theorem gn {b o:Nat} (h:aA w (some ⟨b,o,none⟩) len cap m rs) (hm:∀(j:Nat) r,rs[j]?=some r->r.length=m/\dk r):∀(k:Nat) u,(rs.map cg).flatten[k]?=some u->w.cell? ((⟨b,o,none⟩:Addr).add k)=some u:=by
 intro k u hk;obtain⟨j,i,vs,h1,h2,rfl⟩:=ew (ey fun j r hj=>(hm j r hj).1) hk;rw[sK] at h1;obtain⟨r,h3,rfl⟩:=sF.1 h1;obtain⟨f,h4,h5⟩:=me (hm j r h3).2 h2;rcases h.2.2.2 with rfl|⟨b',o',e,_,hc⟩
 ·simp at h3
 ·cases e;obtain⟨v,h6,h7⟩:=hc j r h3 i f h4;rw[tB,<-Nat.add_assoc,h6,(h7.val h5).1]
theorem dy (h:aA w a len cap m rs) (hm:∀(j:Nat) r,rs[j]?=some r->r.length=m/\dk r) (w':World) (S:Nat->Prop):aH w' S m rs (rs.map cg) (fun _ _=>0):=by
 refine⟨by simp,ey fun j r hj=>(hm j r hj).1,fun j r hj=>(hm j r hj).1,fun j r vs hj hv i f hi=>?_,fun j r i zs j' r' i' zs' hj hi=>?_⟩
 ·rw[sK,hj] at hv;cases hv;obtain⟨u,h1,h2⟩:=oF (hm j r hj).2 hi;rcases h.2.2.2 with rfl|⟨b',o',e,_,hc⟩
  ·simp at hj
  ·obtain⟨v,h6,h7⟩:=hc j r hj i f hi;obtain⟨rfl,h8⟩:=h7.val h1;exact⟨v,h2,h8.any h1⟩
 ·obtain⟨v,hv⟩:=(hm j r hj).2 i _ hi;cases hv
end
theorem kI {o:Oper} {a:Act} {w:World} {K:Act->World->Prop} {Q:Exit->Act->World->Prop} (s x:Operand) (t T:TypeId) (ho:o.op=.call { callee:=.builtin .append,args:=#[s,x],argTypes:=#[t,t] }) (i:TypeInfo) (z:Value) (m bytes:Nat) (ht:Tryz.prog.underlying t=some (.slice T)) (hi:Tryz.prog.info? T=some i) (hz:i.zero=some z)
  (hsize:i.size=m) (hby:i.bytes=bytes) (hzs:z.cells.size=m) (hsz:0<m) (hT:¬T=9) (base:Nat) (v0:Value) (hs:a.eval s=v0) (hown:w.ownsRow base T m v0 0 []) (hbw:base<=w.heap.size) {ad:Addr} {len cap:Nat} {rs:List (List Fv)} (hx:a.eval x=.slice (some ad) len cap) (hr:aA w (some ad) len cap m rs) (hm:∀(j:Nat) r,rs[j]?=some r->r.length=m/\dk r) (hl:len<=8) (hb8:bytes<=1000)
  (h:∀a' c' w',ax w' a' len c' m T rs (fun k=>base<=k/\k<w'.heap.size)->w.grownBy w' v0.ownBlock->K (a.put o.dst (.slice a' len c')) w'):o.wp Tryz.prog a w K Q:=by
 have hlen:((rs.map cg).flatten).length=len*m:=by rw[di (ey fun j r hj=>(hm j r hj).1),td,hr.1]
 have hne:rs=[]\/∃b o,ad=(⟨b,o,none⟩:Addr):=by
  rcases hr.2.2.2 with h1|⟨b,o,e,_⟩
  ·exact .inl h1
  ·cases e;exact .inr ⟨b,o,rfl⟩
 have hnews:∀(j:Nat) u,((rs.map cg).flatten)[j]?=some u->w.cell? (ad.add j)=some u:=by
  rcases hne with rfl|⟨b,o,rfl⟩
  ·intro j u hu;simp at hu
  ·exact gn hr hm
 refine wp_append_own w s x t ho base T i z m bytes ht hi hz hsize hby hzs hsz v0 0 [] hs hown ad len cap (rs.map cg).flatten hx hlen hnews (dy hr hm w (fun _=>True)).one fc (by have:(0+len)*bytes<=8*1000:=Nat.mul_le_mul af hb8;omega) hbw ?_;intro v' w' ho' hg' _;rw[th,List.nil_append] at ho';obtain⟨a',c',rfl,hR⟩:=(dy hr hm w' (fun k=>base<=k/\k<w'.heap.size)).own ho' hr.1.symm hT (fun g hg=>ho'.lt g hg);rw[hr.1] at hR ⊢;exact h a' c' w' hR hg'
theorem lp (x:Kd):(kdF x).length=4/\dk (kdF x):=⟨rfl,fun i f h=>by
 rcases i with _|_|_|_|i <;> first|(cases h;exact⟨_,rfl⟩)|(simp[kdF] at h)⟩
theorem kH (x:Xd):(xdF x).length=5/\dk (xdF x):=⟨rfl,fun i f h=>by
 rcases i with _|_|_|_|_|i <;> first|(cases h;exact⟨_,rfl⟩)|(simp[xdF] at h)⟩
theorem eo {α:Type} {F:α->List Fv} {m:Nat} (hF:∀x,(F x).length=m/\dk (F x)) (xs:List α):∀(j:Nat) r,(xs.map F)[j]?=some r->r.length=m/\dk r:=by
 intro j r hj;rw[sK] at hj;obtain⟨x,_,rfl⟩:=sF.1 hj;exact hF x
def ff (B:Nat) (len m:Nat) (T:TypeId) (rs:List (List Fv)):Gi.Fact:=fun v w l h=> ∃a c,v=.slice a len c/\ax w a len c m T rs (fun k=>l<=k/\k<h)/\B<=l
theorem ff.mono (ex:Gi.Ex) (s:Option Tmp) (B len m:Nat) (T:TypeId) (rs:List (List Fv)):Gi.Fact.bP (fun _=>Gi.Bel) ex s (ff B len m T rs):=by
 rintro s' _ _ _ v w w' l h ⟨a,c,h1,h2,h3⟩ hb;exact⟨a,c,h1,h2.below hb,h3⟩
def ClF (B:Nat) (c:Cl):Gi.Fact:=fun v w _ _=> ∃d:Ad,v=.agg #[.slice d.a1 d.l1 d.c1,.slice d.a2 d.l2 d.c2,.slice d.a3 d.l3 d.c3,.slice d.a4 d.l4 d.c4,.slice d.a5 d.l5 d.c5,.int .i64 c.now]/\bs w d c.raw (fun k=>B<=k)
theorem ClF.mono (ex:Gi.Ex) (s:Option Tmp) (B:Nat) (c:Cl):Gi.Fact.bP (fun _=>Gi.Bel) ex s (ClF B c):=by
 rintro s' _ _ _ v w w' l h ⟨d,h1,h2⟩ hb;exact⟨d,h1,h2.below hb⟩

theorem lY (d:Ad) (c:Cl) (w:World) (hr:aL w d c.raw) (hs:Sm c):
  Calls Tryz.prog 74 #[.agg #[.slice d.a1 d.l1 d.c1,.slice d.a2 d.l2 d.c2,.slice d.a3 d.l3 d.c3,.slice d.a4 d.l4 d.c4,.slice d.a5 d.l5 d.c5,.int .i64 c.now]] w fun e w'=> ∃d',e=.returned (.agg #[.slice d'.a1 d'.l1 d'.c1,.slice d'.a2 d'.l2 d'.c2,.slice d'.a3 d'.l3 d'.c3,.slice d'.a4 d'.l4 d'.c4,.slice d'.a5 d'.l5 d'.c5,.int .i64 c.now])/\bs w' d' c.raw (fun k=>w.heap.size<=k)/\Below w.heap.size w w':=by
 have HR:=aa hr;have HS:=aa hs;have hl1:c.ns.length=d.l1:=by simpa using (show (c.ns.map ndF).length=d.l1 from hr.n.1)
 have hl2:c.ks.length=d.l2:=by simpa using (show (c.ks.map kdF).length=d.l2 from hr.k.1)
 have hl3:c.vs.length=d.l3:=by simpa using (show (c.vs.map vdF).length=d.l3 from hr.v.1)
 have hl4:c.xs.length=d.l4:=by simpa using (show (c.xs.map xdF).length=d.l4 from hr.x.1)
 have hl5:c.ps.length=d.l5:=by simpa using (show (c.ps.map pdF).length=d.l5 from hr.p.1)
 clear hr hs;obtain⟨i2,hi2⟩:=sF.1 kf;obtain⟨i4,hi4⟩:=sF.1 kb;have HI2:=aa hi2;have HI4:=aa hi4;clear hi2 hi4;obtain⟨W,hW0⟩:∃W,W=(w.alloc (.cells (clv d c.now) 36)).alloc (.cells (clo6 none 0 0 none 0 0 none 0 0 none 0 0 none 0 0 0) 36):=⟨_,rfl⟩;have HB:Hid (Below w.heap.size w W):=by rw[hW0];exact aB _ _ _
 have Bk:Hid (W.heap[w.heap.size]?=some (.cells (clv d c.now) 36 (0,0))):=by rw[hW0];exact cY _ _ _
 obtain⟨Br,hWs⟩:=pE;go_enter Tryz.func74,Tryz.ntmps74;go_wp2_with fail;rw[<-hW0];clear hW0;rename_i K0 hK0;refine Gi.bw (ex:=fun _=>none) (Gi.Bel.rel 0) an rfl rfl an an ?_;refine' Gi.Grow.aV _ rfl ?_ ?_;rotate_left 1
 ·exact gf
 refine' Gi.Grow.aV _ rfl ?_ ?_;rotate_left 1
 ·refine Gi.Obl.plain rfl ?_;intro ac wg K lo hi hsz hW hpr hf hap hK;clear hsz hap hpr;have e3:=hf 3 ak;simp[Gi.slotFact,sM] at e3;exact eJ
 refine Gi.Grow.step (ff W.heap.size d.l1 7 56 (c.ns.map ndF)) rfl (ff.mono _ _ _ _ _ _ _) ?_ ?_
 ·refine Gi.Obl.plain rfl ?_;intro ac wg K lo hi hsz hW hpr hf hap hK;clear hsz hpr hap;have e4:=hf 4 ak;simp[Gi.slotFact,sM] at e4;clear hf;go_simp;refine (gO d.a1 d.l1 d.c1 c.ns _ (HR.n.below (HB.trans (Below.mono hW HB.size))) (by have:=HS.n;omega) HS.ns).mono ?_;exact nd
 refine' Gi.Grow.aV _ rfl ?_ ?_;rotate_left 1
 ·exact gf
 refine' Gi.Grow.aV _ rfl ?_ ?_;rotate_left 1
 ·refine Gi.Obl.plain rfl ?_;intro ac wg K lo hi hsz hW hpr hf hap hK;clear hsz hap hpr;have e6:=hf 6 ak;simp[Gi.slotFact,sM] at e6;exact eJ
 refine Gi.Grow.step (ff W.heap.size d.l2 4 106 (c.ks.map kdF)) rfl (ff.mono _ _ _ _ _ _ _) ?_ ?_
 ·refine Gi.Obl.plain rfl ?_;intro ac wg K lo hi hsz hW hpr hf hap hK;clear hsz hpr hap;have e7:=hf 7 ak;simp[Gi.slotFact,sM] at e7;clear hf;cases hq:d.a2 with
  | none=>
   have h0:c.ks=[]:=by
    rcases HR.k.2.2.2 with h|⟨b,o,e,_⟩
    ·have h9:c.ks.map kdF=[]:=h
     simpa using h9
    ·rw[hq] at e;cases e
   have hl0:d.l2=0:=by rw[<-hl2,h0];rfl
   rw[hq,hl0] at e7;go_simp;refine hK _ _ (sB _ _) ⟨none,0,by rw[hl0],?_,Below.size hW⟩;rw[hl0,h0];exact ax.nil _ _ _ _ _ af
  | some ad=>
   rw[hq] at e7;have hin:=HR.k.below (HB.trans (Below.mono hW HB.size));have hin2:aA wg d.a2 d.l2 d.c2 4 (c.ks.map kdF):=hin;rw[hq] at hin2
   have hz:i2.zero=some (.agg #[.string ⟨#[]⟩,.bool false,.bool false,.string ⟨#[]⟩])/\i2.size=4/\i2.bytes=40:=by have:=HI2.2;simp only[uf] at this;exact this
   refine kI _ (.tmp 7) 31 106 rfl i2 (.agg #[.string ⟨#[]⟩,.bool false,.bool false,.string ⟨#[]⟩]) 4 40 Tryz.underlying31 HI2.1 hz.1 hz.2.1 hz.2.2 rfl ak ak wg.heap.size (.slice none 0 0) rfl (tr _ _ _ _) (sy _) (by simpa[Act.eval] using e7) hin2 (eo lp _) (by have:=HS.k;omega) ak ?_;intro a' c' w' hR hg;exact hK _ _ ((sB _ _).grown hg (sy _) (fun k hk=>by cases hk)) ⟨a',c',rfl,hR,Below.size hW⟩
 refine' Gi.Grow.aV _ rfl ?_ ?_;rotate_left 1
 ·exact gf
 refine' Gi.Grow.aV _ rfl ?_ ?_;rotate_left 1
 ·refine Gi.Obl.plain rfl ?_;intro ac wg K lo hi hsz hW hpr hf hap hK;clear hsz hap hpr;have e9:=hf 9 ak;simp[Gi.slotFact,sM] at e9;exact eJ
 refine Gi.Grow.step (ff W.heap.size d.l3 8 101 (c.vs.map vdF)) rfl (ff.mono _ _ _ _ _ _ _) ?_ ?_
 ·refine Gi.Obl.plain rfl ?_;intro ac wg K lo hi hsz hW hpr hf hap hK;clear hsz hpr hap;have e10:=hf 10 ak;simp[Gi.slotFact,sM] at e10;clear hf;go_simp;refine (gM d.a3 d.l3 d.c3 c.vs _ (HR.v.below (HB.trans (Below.mono hW HB.size))) (by have:=HS.v;omega) HS.vs).mono ?_;exact nd
 refine' Gi.Grow.aV _ rfl ?_ ?_;rotate_left 1
 ·exact gf
 refine' Gi.Grow.aV _ rfl ?_ ?_;rotate_left 1
 ·refine Gi.Obl.plain rfl ?_;intro ac wg K lo hi hsz hW hpr hf hap hK;clear hsz hap hpr;have e12:=hf 12 ak;simp[Gi.slotFact,sM] at e12;exact eJ
 refine Gi.Grow.step (ff W.heap.size d.l4 5 109 (c.xs.map xdF)) rfl (ff.mono _ _ _ _ _ _ _) ?_ ?_
 ·refine Gi.Obl.plain rfl ?_;intro ac wg K lo hi hsz hW hpr hf hap hK;clear hsz hpr hap;have e13:=hf 13 ak;simp[Gi.slotFact,sM] at e13;clear hf;cases hq:d.a4 with
  | none=>
   have h0:c.xs=[]:=by
    rcases HR.x.2.2.2 with h|⟨b,o,e,_⟩
    ·have h9:c.xs.map xdF=[]:=h
     simpa using h9
    ·rw[hq] at e;cases e
   have hl0:d.l4=0:=by rw[<-hl4,h0];rfl
   rw[hq,hl0] at e13;go_simp;refine hK _ _ (sB _ _) ⟨none,0,by rw[hl0],?_,Below.size hW⟩;rw[hl0,h0];exact ax.nil _ _ _ _ _ af
  | some ad=>
   rw[hq] at e13;have hin:=HR.x.below (HB.trans (Below.mono hW HB.size));have hin2:aA wg d.a4 d.l4 d.c4 5 (c.xs.map xdF):=hin;rw[hq] at hin2
   have hz:i4.zero=some (.agg #[.string ⟨#[]⟩,.int .i64 0,.string ⟨#[]⟩,.bool false,.string ⟨#[]⟩])/\i4.size=5/\i4.bytes=64:=by have:=HI4.2;simp only[uf] at this;exact this
   refine kI _ (.tmp 13) 33 109 rfl i4 (.agg #[.string ⟨#[]⟩,.int .i64 0,.string ⟨#[]⟩,.bool false,.string ⟨#[]⟩]) 5 64 Tryz.underlying33 HI4.1 hz.1 hz.2.1 hz.2.2 rfl ak ak wg.heap.size (.slice none 0 0) rfl (tr _ _ _ _) (sy _) (by simpa[Act.eval] using e13) hin2 (eo kH _) (by have:=HS.x;omega) ak ?_;intro a' c' w' hR hg;exact hK _ _ ((sB _ _).grown hg (sy _) (fun k hk=>by cases hk)) ⟨a',c',rfl,hR,Below.size hW⟩
 refine' Gi.Grow.aV _ rfl ?_ ?_;rotate_left 1
 ·exact gf
 refine' Gi.Grow.aV _ rfl ?_ ?_;rotate_left 1
 ·refine Gi.Obl.plain rfl ?_;intro ac wg K lo hi hsz hW hpr hf hap hK;clear hsz hap hpr;have e15:=hf 15 ak;simp[Gi.slotFact,sM] at e15;exact eJ
 refine Gi.Grow.step (ff W.heap.size d.l5 6 103 (c.ps.map pdF)) rfl (ff.mono _ _ _ _ _ _ _) ?_ ?_
 ·refine Gi.Obl.plain rfl ?_;intro ac wg K lo hi hsz hW hpr hf hap hK;clear hsz hpr hap;have e16:=hf 16 ak;simp[Gi.slotFact,sM] at e16;clear hf;go_simp;refine (gN d.a5 d.l5 d.c5 c.ps _ (HR.p.below (HB.trans (Below.mono hW HB.size))) (by have:=HS.p;omega) HS.ps).mono ?_;exact nd
 refine' Gi.Grow.aV _ rfl ?_ ?_;rotate_left 1
 ·exact gf
 refine' Gi.Grow.aV _ rfl ?_ ?_;rotate_left 1
 ·refine Gi.Obl.plain rfl ?_;intro ac wg K lo hi hsz hW hpr hf hap hK;clear hsz hap hpr;have e18:=hf 18 ak;simp[Gi.slotFact,sM] at e18;exact eJ
 refine Gi.Grow.step (ClF W.heap.size c) rfl (ClF.mono _ _ _ _) ?_ ?_
 ·refine Gi.Obl.plain rfl ?_;intro ac wg K lo hi hsz hW hpr hf hap hK;clear hsz hpr;have e5:=hf 5 ak;simp[Gi.slotFact,sM] at e5;have e8:=hf 8 ak;simp[Gi.slotFact,sM] at e8;have e11:=hf 11 ak;simp[Gi.slotFact,sM] at e11;have e14:=hf 14 ak;simp[Gi.slotFact,sM] at e14;have e17:=hf 17 ak;simp[Gi.slotFact,sM] at e17;have e19:=hf 19 ak;simp[Gi.slotFact,sM] at e19;clear hf;obtain⟨a1,c1,e5,ho1,hB1⟩:=e5;obtain⟨a2,c2,e8,ho2,hB2⟩:=e8;obtain⟨a3,c3,e11,ho3,hB3⟩:=e11;obtain⟨a4,c4,e14,ho4,hB4⟩:=e14;obtain⟨a5,c5,e17,ho5,hB5⟩:=e17;have hap2:∀t∈[5,8,11,14,17],∀t'∈[5,8,11,14,17],¬t=t'->hi t<=lo t'\/hi t'<=lo t:=by
   intro t ht t' ht' hne;refine hap t ?_ t' ?_ ?_ ?_ hne
   ·simp only[tz,tx,or_false] at ht;rcases ht with rfl|rfl|rfl|rfl|rfl <;> decide
   ·simp only[tz,tx,or_false] at ht';rcases ht' with rfl|rfl|rfl|rfl|rfl <;> decide
   ·simp only[tz,tx,or_false] at ht;rcases ht with rfl|rfl|rfl|rfl|rfl <;> rfl
   ·simp only[tz,tx,or_false] at ht';rcases ht' with rfl|rfl|rfl|rfl|rfl <;> rfl
  clear hap;have q01:=hap2 5 ak 8 ak ak;have q02:=hap2 5 ak 11 ak ak;have q03:=hap2 5 ak 14 ak ak;have q04:=hap2 5 ak 17 ak ak;have q12:=hap2 8 ak 11 ak ak;have q13:=hap2 8 ak 14 ak ak;have q14:=hap2 8 ak 17 ak ak;have q23:=hap2 11 ak 14 ak ak;have q24:=hap2 11 ak 17 ak ak;have q34:=hap2 14 ak 17 ak ak;clear hap2;have hC:bs wg ⟨a1,d.l1,c1,a2,d.l2,c2,a3,d.l3,c3,a4,d.l4,c4,a5,d.l5,c5⟩ c.raw (fun k=>W.heap.size<=k):=by
   refine⟨fun k=>if lo 5<=k/\k<hi 5 then 1 else if lo 8<=k/\k<hi 8 then 2 else if lo 11<=k/\k<hi 11 then 3 else if lo 14<=k/\k<hi 14 then 4 else 5,?_,?_,?_,?_,?_⟩
   ·exact ho1.da (fun k _ s=>⟨by have s1:lo 5<=k:=s.1;show W.heap.size<=k;omega,by have s1:lo 5<=k:=s.1;have s2:k<hi 5:=s.2;show (if lo 5<=k/\k<hi 5 then 1 else if lo 8<=k/\k<hi 8 then 2 else if lo 11<=k/\k<hi 11 then 3 else if lo 14<=k/\k<hi 14 then 4 else 5)=1;rw[if_pos ⟨s1,s2⟩]⟩)
   ·exact ho2.da (fun k _ s=>⟨by have s1:lo 8<=k:=s.1;show W.heap.size<=k;omega,by have s1:lo 8<=k:=s.1;have s2:k<hi 8:=s.2;show (if lo 5<=k/\k<hi 5 then 1 else if lo 8<=k/\k<hi 8 then 2 else if lo 11<=k/\k<hi 11 then 3 else if lo 14<=k/\k<hi 14 then 4 else 5)=2;rw[if_neg af];rw[if_pos ⟨s1,s2⟩]⟩)
   ·exact ho3.da (fun k _ s=>⟨by have s1:lo 11<=k:=s.1;show W.heap.size<=k;omega,by have s1:lo 11<=k:=s.1;have s2:k<hi 11:=s.2;show (if lo 5<=k/\k<hi 5 then 1 else if lo 8<=k/\k<hi 8 then 2 else if lo 11<=k/\k<hi 11 then 3 else if lo 14<=k/\k<hi 14 then 4 else 5)=3;rw[if_neg af];rw[if_neg af];rw[if_pos ⟨s1,s2⟩]⟩)
   ·exact ho4.da (fun k _ s=>⟨by have s1:lo 14<=k:=s.1;show W.heap.size<=k;omega,by have s1:lo 14<=k:=s.1;have s2:k<hi 14:=s.2;show (if lo 5<=k/\k<hi 5 then 1 else if lo 8<=k/\k<hi 8 then 2 else if lo 11<=k/\k<hi 11 then 3 else if lo 14<=k/\k<hi 14 then 4 else 5)=4;rw[if_neg af];rw[if_neg af];rw[if_neg af];rw[if_pos ⟨s1,s2⟩]⟩)
   ·exact ho5.da (fun k _ s=>⟨by have s1:lo 17<=k:=s.1;show W.heap.size<=k;omega,by have s1:lo 17<=k:=s.1;have s2:k<hi 17:=s.2;show (if lo 5<=k/\k<hi 5 then 1 else if lo 8<=k/\k<hi 8 then 2 else if lo 11<=k/\k<hi 11 then 3 else if lo 14<=k/\k<hi 14 then 4 else 5)=5;rw[if_neg af];rw[if_neg af];rw[if_neg af];rw[if_neg af]⟩)
  have HC:=aa hC;clear hC ho1 ho2 ho3 ho4 ho5 q01 q02 q03 q04 q12 q13 q14 q23 q24 q34 hB1 hB2 hB3 hB4 hB5;go_simp;exact hK _ _ (sB _ _) ⟨_,rfl,HC.out⟩
 refine Gi.Grow.done ?_;intro q wz lo hi hW hf hap;clear hap;simp only[tL] at hf;obtain⟨hf20,-⟩:=hf;obtain⟨d',h20,ho⟩:=hf20 bA;have HO:=aa ho;have HBz:=aa (HB.trans (Below.mono hW HB.size));have gr:=(Below.block hW _ (ae Br.out)).trans Br.out;obtain⟨r0,r1,r2,r3,r4,r5⟩:=cs6 gr;have f0:=aq gr 0;have f1:=aq gr 1;have f2:=aq gr 2;have f3:=aq gr 3;have f4:=aq gr 4;have f5:=aq gr 5;clear gr ho hW;intro K hK;rw[if_pos (by rfl)];simp only[Gi.aR,List.foldr,Act.put,tm,tF,tQ,h20];simp only[List.getLast];go_simp;refine hK _ _ ?_;refine hK0 _ _ ?_;clear hK hK0 K K0;go_wp2_with fail;refine bodyPost_ret (v:=.agg #[.slice d'.a1 d'.l1 d'.c1,.slice d'.a2 d'.l2 d'.c2,.slice d'.a3 d'.l3 d'.c3,.slice d'.a4 d'.l4 d'.c4,.slice d'.a5 d'.l5 d'.c5,.int .i64 c.now]) (by simp[results,Tryz.results74,go_sem, *]) rfl ⟨d',rfl,?_,sb1 (sb1 (sb1 (sb1 (sb1 (sb1 (HBz.out))))))⟩;obtain⟨P,hP⟩:=HO.out;exact⟨P,hP.aI (fun k _ s=>by have s1:W.heap.size<=k:=s;rw[sz _ _ _ _ (show k≠w.heap.size+1 by omega),sz _ _ _ _ (show k≠w.heap.size+1 by omega),sz _ _ _ _ (show k≠w.heap.size+1 by omega),sz _ _ _ _ (show k≠w.heap.size+1 by omega),sz _ _ _ _ (show k≠w.heap.size+1 by omega),sz _ _ _ _ (show k≠w.heap.size+1 by omega)]) (fun k _ s=>by have s1:W.heap.size<=k:=s;show w.heap.size<=k;omega)⟩

theorem il {w:World} {g:Nat} {cs:Array Value} {T:TypeId} {f:Nat×Nat} (h:w.heap[g]?=some (.cells cs T f)):Below w.heap.size w (w.setRow g cs):=by
 refine⟨rfl,rfl,rfl,by simp,fun k hk=>?_⟩;by_cases e:k=g
 ·subst e;rw[setRow_heap w k cs cs T f h,h]
 ·exact setRow_other w g k cs e

theorem bQ {w:World} (t ty e:TypeId) (i:TypeInfo) (ht:Tryz.prog.underlying t=some (.slice e)) (hi:Tryz.prog.info? e=some i) (g cap:Nat):
  (tM #[t,t] ty #[.slice (some ⟨g,0,none⟩) 0 0,.slice none 0 cap]).run Tryz.prog w=.ok (.slice (some ⟨g,0,none⟩) 0 0) w:=by
 simp[tM,run_underlying ht,sizeOf,typeInfo,hi,Builtin.lenOf,Builtin.firstCells,storeCells]

theorem bO.here {w:World} {g l c:Nat} {zs:List ByteArray} {S S':Nat->Prop} (h:bO w (some ⟨g,0,none⟩) l c zs S) (hS:S' g):bO w (some ⟨g,0,none⟩) l c zs S':=
 ⟨h.1,h.2.imp id fun ⟨g',cur,e,_,hg⟩=>by cases e;exact⟨g,cur,rfl,hS,hg⟩⟩

theorem eI {w:World} {g0:Nat} {va:Option Addr} {len cap:Nat} {zs:List ByteArray} (ty:TypeId) (hg:w.heap[g0]?=some (.cells #[] 9 (0,0))) (hr:ar w va len cap zs) (hl:len<=8001):
  ∃a l c w',(tM #[54,54] ty #[.slice (some ⟨g0,0,none⟩) 0 0,.slice va len cap]).run Tryz.prog w=.ok (.slice a l c) w'/\bO w' a l c zs (fun k=>k=g0\/w.heap.size<=k)/\Below w.heap.size w w':=by
 obtain⟨i0,hi,hz0,hz1,hz2⟩:=info_parts fh;have hzl:=hr.1;rcases Nat.eq_zero_or_pos len with h0|h0
 ·subst h0;obtain rfl:zs=[]:=tt hzl;cases va with
  | none=>exact⟨_,_,_,_,bQ 54 ty 9 i0 Tryz.underlying54 hi g0 cap,⟨⟨rfl,sy _,by omega,fun j x hx=>by simp at hx,.inl rfl⟩,.inl rfl⟩,sB _ _⟩
  | some ad=>
   have h:=run_append_room (P:=Tryz.prog) w 54 ty 9 i0 Tryz.underlying54 hi g0 0 0 #[] hg ad 0 cap [] aT (fun j u hu=>by simp at hu) (fun u hu=>by simp at hu) af aT;exact⟨_,_,_,_,h,⟨⟨rfl,sy _,by omega,fun j x hx=>by simp at hx,.inl rfl⟩,.inl rfl⟩,by simpa using il hg⟩
 ·cases va with
  | none=>
   rcases hr.2.2.2.2 with h|⟨b,o,e,_⟩
   ·subst h;simp at hzl;omega
   ·cases e
  | some ad=>
   have h:=run_append_grow (P:=Tryz.prog) w 54 ty 9 i0 (.string ⟨#[]⟩) Tryz.underlying54 hi hz0 ⟨g0,0,none⟩ 0 0 [] aT (fun j u hu=>by simp at hu) ad len cap (zs.map sP) (by rw[hz1];simpa using hzl) (Ap.lh hr) af af (growslice_fits af fq);obtain⟨v',w',hr2,h2,h3,h4⟩:=run_append_own (P:=Tryz.prog) w (base:=0) 54 ty 9 i0 (.string ⟨#[]⟩) 1 16 Tryz.underlying54 hi hz0 hz1 hz2 rfl ak (.slice (some ⟨g0,0,none⟩) 0 0) 0 [] ⟨rfl,.inr ⟨g0,0,#[],rfl,Nat.zero_le _,hg,sy _,by unfold maxLen;omega,rfl,rfl⟩⟩ ad len cap (zs.map sP) (by simpa using hzl) (Ap.lh hr) (fun u hu=>by obtain⟨x,_,rfl⟩:=List.mem_map.1 hu;rfl) fc af (Nat.zero_le _);rw[h] at hr2
   cases hr2
   rw[th,List.nil_append] at h2;obtain⟨a',c',e,hT⟩:=bO.qZ h2 hr.2.2.2.1;have hbel:Below w.heap.size w (w.drew.alloc (.cells (([]:List Value).toArray++(zs.map sP).toArray++Builtin.zeroCells (sP ⟨#[]⟩).cells (grownCap w (0+len) 0 9 - (0+len))) 9)):=⟨rfl,rfl,rfl,by simp,fun k hk=>heap_alloc_old w.drew _ (by simpa using hk)⟩;simp only[th] at e h hbel ⊢
   cases e
   exact⟨_,_,_,_,h,hT.here (.inr (sy _)),hbel⟩
theorem dR {ops:Array Oper} {rest:List Oper} {o:Oper} {a:Act} {w:World} {Q:Exit->Act->World->Prop} (hgd:o.guard=none) (s x:Operand) (ho:o.op=.call { callee:=.builtin .append,args:=#[s,x],argTypes:=#[54,54] }) (g0:Nat) (hs:a.eval s=.slice (some ⟨g0,0,none⟩) 0 0) (hg:w.heap[g0]?=some (.cells #[] 9 (0,0)))
  (va:Option Addr) (len cap:Nat) (hx:a.eval x=.slice va len cap) (zs:List ByteArray) (hr:ar w va len cap zs) (hl:len<=8001)
  (h:∀a' l c w',bO w' a' l c zs (fun k=>k=g0\/w.heap.size<=k)->Below w.heap.size w w'->wpList Tryz.prog ops Q rest (a.put o.dst (.slice a' l c)) w'):wpList Tryz.prog ops Q (o ::rest) a w:=by
 refine wpList_plain hgd fun K hK=>?_;obtain⟨a',l,c,w',hrun,h1,h2⟩:=eI o.type hg hr hl;unfold Oper.wp execOp;simp only[ho,resolve,invoke,builtin,Sem.run_bind,Sem.run_pure,Result.andThen_ok,List.map_toArray,List.map_cons,List.map_nil,hs,hx,hrun];exact hK _ _ (h a' l c w' h1 h2)

theorem fb {w:World} {g0:Nat} {va:Option Addr} {len cap m bytes:Nat} {rs:List (List Fv)} (t ty T:TypeId) (i:TypeInfo) (z:Value) (ht:Tryz.prog.underlying t=some (.slice T)) (hi:Tryz.prog.info? T=some i) (hz:i.zero=some z) (hsize:i.size=m) (hby:i.bytes=bytes) (hzs:z.cells.size=m) (hsz:0<m) (hT:¬T=9) (hg:w.heap[g0]?=some (.cells #[] T (0,0)))
  (hr:aA w va len cap m rs) (hm:∀(j:Nat) r,rs[j]?=some r->r.length=m/\dk r) (hl:len<=8) (hb8:bytes<=1000):
  ∃a c w',(tM #[t,t] ty #[.slice (some ⟨g0,0,none⟩) 0 0,.slice va len cap]).run Tryz.prog w=.ok (.slice a len c) w'/\ax w' a len c m T rs (fun k=>k=g0\/w.heap.size<=k)/\Below w.heap.size w w':=by
 rcases Nat.eq_zero_or_pos len with h0|h0
 ·subst h0;obtain rfl:rs=[]:=tt hr.1;cases va with
  | none=>exact⟨_,_,_,bQ t ty T i ht hi g0 cap,ax.nil _ _ _ _ _ af,sB _ _⟩
  | some ad=>
   have h:=run_append_room (P:=Tryz.prog) w t ty T i ht hi g0 0 0 #[] hg ad 0 cap [] aT (fun j u hu=>by simp at hu) (fun u hu=>by simp at hu) af aT;exact⟨_,_,_,h,ax.nil _ _ _ _ _ af,by simpa using il hg⟩
 ·have hlen:((rs.map cg).flatten).length=len*m:=by rw[di (ey fun j r hj=>(hm j r hj).1),td,hr.1]
  obtain⟨ad,rfl,hnews⟩:∃ad,va=some ad/\∀(j:Nat) u,((rs.map cg).flatten)[j]?=some u->w.cell? (ad.add j)=some u:=by
   rcases hr.2.2.2 with h|⟨b,o,rfl,_⟩
   ·subst h;have:=hr.1;simp at this;omega
   ·exact⟨_,rfl,gn hr hm⟩
  have h:=run_append_grow (P:=Tryz.prog) w t ty T i z ht hi hz ⟨g0,0,none⟩ 0 0 [] aT (fun j u hu=>by simp at hu) ad len cap (rs.map cg).flatten (by rw[hsize];exact hlen) hnews af af (growslice_fits af (by rw[hby];have:(0+len)*bytes<=8*1000:=Nat.mul_le_mul af hb8;omega));obtain⟨v',w',hr2,h2,h3,h4⟩:=run_append_own (P:=Tryz.prog) w (base:=0) t ty T i z m bytes ht hi hz hsize hby hzs hsz (.slice (some ⟨g0,0,none⟩) 0 0) 0 [] ⟨by simp,.inr ⟨g0,0,#[],rfl,Nat.zero_le _,hg,sy _,by unfold maxLen;omega,by simp,by simp⟩⟩ ad len cap (rs.map cg).flatten hlen hnews (dy hr hm w (fun _=>True)).one fc (by have:(0+len)*bytes<=8*1000:=Nat.mul_le_mul af hb8;omega) (Nat.zero_le _);rw[h] at hr2;cases hr2;rw[th,List.nil_append] at h2;obtain⟨a',c',e,hR⟩:=(dy hr hm _ (fun k=>k=g0\/w.heap.size<=k)).own h2 hr.1.symm hT (fun g hg=>by simp[Value.ownBlock] at hg;exact .inr af);have hbel:Below w.heap.size w (w.drew.alloc (.cells (([]:List Value).toArray++((rs.map cg).flatten).toArray++Builtin.zeroCells z.cells (grownCap w (0+len) 0 T - (0+len))) T)):=⟨rfl,rfl,rfl,by simp,fun k hk=>heap_alloc_old w.drew _ (by simpa using hk)⟩;rw[hr.1] at e hR;simp only[th] at e h hbel hR ⊢;cases e;exact⟨_,_,_,h,hR,hbel⟩
theorem gZ {o:Oper} {a:Act} {w:World} {K:Act->World->Prop} {Q:Exit->Act->World->Prop} {g0:Nat} {va:Option Addr} {len cap m bytes:Nat} {rs:List (List Fv)} (s x:Operand) (t T:TypeId) (ho:o.op=.call { callee:=.builtin .append,args:=#[s,x],argTypes:=#[t,t] }) (i:TypeInfo) (z:Value) (ht:Tryz.prog.underlying t=some (.slice T)) (hi:Tryz.prog.info? T=some i) (hz:i.zero=some z) (hsize:i.size=m) (hby:i.bytes=bytes) (hzs:z.cells.size=m) (hsz:0<m) (hT:¬T=9) (hs:a.eval s=.slice (some ⟨g0,0,none⟩) 0 0) (hg:w.heap[g0]?=some (.cells #[] T (0,0)))
  (hx:a.eval x=.slice va len cap) (hr:aA w va len cap m rs) (hm:∀(j:Nat) r,rs[j]?=some r->r.length=m/\dk r) (hl:len<=8) (hb8:bytes<=1000)
  (h:∀a' c' w',ax w' a' len c' m T rs (fun k=>k=g0\/w.heap.size<=k)->Below w.heap.size w w'->K (a.put o.dst (.slice a' len c')) w'):o.wp Tryz.prog a w K Q:=by
 obtain⟨a',c',w',hrun,h1,h2⟩:=fb t o.type T i z ht hi hz hsize hby hzs hsz hT hg hr hm hl hb8;unfold Oper.wp execOp;simp only[ho,resolve,invoke,builtin,Sem.run_bind,Sem.run_pure,Result.andThen_ok,List.map_toArray,List.map_cons,List.map_nil,hs,hx,hrun];exact h a' c' w' h1 h2

theorem kK {w w':World} {o p:Obj} (h:Below (w.heap.size+1+1) ((w.alloc o).alloc p) w'):w'.heap[w.heap.size]?=some o/\w'.heap[w.heap.size+1]?=some p/\Below w.heap.size w w':=bS (by rw[cF,cF];exact h)
theorem dG (w:World) (n:Nat) (hn:w.heap.size=n) (vs:List Value) (T:TypeId):∀(j:Nat) u,vs[j]?=some u->(w.alloc (.cells vs.toArray T)).cell? ((⟨n,0,none⟩:Addr).add j)=some u:=by
 subst hn;exact cv w vs T
theorem sd {w:World} {b:Nat} {T:TypeId} {u0 u1 u2 u3 u4 u5 v0 v1 v2 v3 v4 v5:Value} (h:w.heap[b]?=some (.cells #[u0,u1,u2,u3,u4,u5] T (0,0))):
  ((((((w.setCell ⟨b,0,none⟩ v0).setCell ⟨b,1,none⟩ v1).setCell ⟨b,2,none⟩ v2).setCell ⟨b,3,none⟩ v3).setCell ⟨b,4,none⟩ v4).setCell ⟨b,5,none⟩ v5).heap[b]?=some (.cells #[v0,v1,v2,v3,v4,v5] T (0,0)):=
 aD (aD (aD (aD (aD (aD h v0) v1) v2) v3) v4) v5
theorem cV {w:World} {b k:Nat} {v0 v1 v2 v3 v4 v5:Value} (hk:¬k=b):
  ((((((w.setCell ⟨b,0,none⟩ v0).setCell ⟨b,1,none⟩ v1).setCell ⟨b,2,none⟩ v2).setCell ⟨b,3,none⟩ v3).setCell ⟨b,4,none⟩ v4).setCell ⟨b,5,none⟩ v5).heap[k]?=w.heap[k]?:=by
 rw[sz _ _ _ _ hk,sz _ _ _ _ hk,sz _ _ _ _ hk,sz _ _ _ _ hk,sz _ _ _ _ hk,sz _ _ _ _ hk]
theorem ax.mh {w:World} {a:Option Addr} {len cap m:Nat} {T T':TypeId} {rs:List (List Fv)} {S:Nat->Prop} (h:ax w a len cap m T rs S) {b:Nat} {cs:Array Value} (hb:w.heap[b]?=some (.cells cs T' (0,0))) (h1:¬T'=T) (h2:¬T'=9):ax w a len cap m T rs (fun k=>S k/\¬k=b):=by
 obtain⟨a1,a2,a3,a4⟩:=h;refine⟨a1,a2,a3,a4.imp id ?_⟩;rintro⟨g,cur,H,e,h5⟩;refine⟨g,cur,H,e,h5.blk,⟨h5.inS,fun q=>?_⟩,h5.len,fun j r hj i f hi=>?_,h5.inj⟩
 ·subst q;have:=h5.blk;rw[hb] at this;cases this;exact h1 rfl
 ·obtain⟨v,q1,q2⟩:=h5.cell j r hj i f hi;refine⟨v,q1,?_⟩;cases f with
  | l zs=>
   obtain⟨a',l',c',k1,k2,k3,k4,k5,k6⟩:=q2;refine⟨a',l',c',k1,k2,k3,k4,k5,k6.imp id ?_⟩;rintro⟨z1,z2,z3,cu,z4,z5⟩;refine⟨z1,⟨z2,fun q=>?_⟩,z3,cu,z4,z5⟩;rw[q] at z4;rw[hb] at z4
   cases z4
   exact h2 rfl
  | _=>exact q2
theorem jf {w:World} {base n m:Nat} {T T':TypeId} {v u:Value} {xs:List Value} {b i:Nat} {cs:Array Value} (h:w.ownsRow base T m v n xs) (hb:w.heap[b]?=some (.cells cs T' (0,0))) (hT:¬T'=T):(w.setCell ⟨b,i,none⟩ u).ownsRow base T m v n xs:=by
 refine⟨h.1,h.2.imp id ?_⟩;rintro⟨g,cap,cur,h1,h2,h3,h4⟩;refine⟨g,cap,cur,h1,h2,(sz _ _ _ _ (fun e=>?_)).trans h3,h4⟩;subst e;rw[hb] at h3;cases h3;exact hT rfl
theorem aH.set {w:World} {S:Nat->Prop} {m:Nat} {rs:List (List Fv)} {vss:List (List Value)} {H:Nat->Nat->Nat} (h:aH w S m rs vss H) {b i:Nat} {cs:Array Value} {T':TypeId} {u:Value} (hb:w.heap[b]?=some (.cells cs T' (0,0))) (hT:¬T'=9):aH (w.setCell ⟨b,i,none⟩ u) S m rs vss H:=
 h.aI (fun k cu _ q=>sz _ _ _ _ (fun e=>by subst e;rw[hb] at q;cases q;exact hT rfl)) (fun _ _ s=>s)
theorem az.jh {S:Nat->Prop} {W w:World} {vb:Option Nat} (hg:W.grownBy w vb) (h:∀g,vb=some g->S g):az S W w:=⟨hg.os,hg.tape,hg.output,hg.size,fun k hk hn=>hg.block k hk (fun e=>hn (h k e.symm))⟩
theorem dM {w:World} {base n m:Nat} {T:TypeId} {v:Value} {xs:List Value} (h:w.ownsRow base T m v n xs):∃a l c,v=.slice a l c:=by
 rcases h.2 with ⟨rfl,_⟩|⟨g,cap,cur,rfl,_⟩
 ·exact⟨_,_,_,rfl⟩
 ·exact⟨_,_,_,rfl⟩
abbrev Cps (b:Nat) (X:World):Nat->Prop:=fun k=>k=b\/X.heap.size<=k
theorem kC {X wr W w5:World} {b3 k m:Nat} {T TC:TypeId} {v:Value} {xs:List Value} {cs:Array Value} (hO:wr.ownsRow X.heap.size T m v k xs) (hBo:wr.heap[b3]?=some (.cells cs TC (0,0))) (hb3:b3<X.heap.size) (hb:Below wr.heap.size wr W) (hg:W.grownBy w5 v.ownBlock):w5.heap[b3]?=some (.cells cs TC (0,0)):=
 (hg.block b3 (sG (ae hBo) hb.size) (fun e=>by have:=(hO.lt b3 e.symm).1;omega)).trans ((hb.block _ (ae hBo)).trans hBo)
theorem ly {X wr W w5:World} {b3 k m f:Nat} {T TC:TypeId} {v v':Value} {rs:List (List Fv)} {vss:List (List Value)} {H:Nat->Nat->Nat} {cs:Array Value} {r:List Fv} {vs:List Value} {hh:Nat} (hK:az (Cps b3 X) X wr) (hO:wr.ownsRow X.heap.size T m v k vss.flatten) (hV:aH wr (fun k=>X.heap.size<=k) m rs vss H) (hBo:wr.heap[b3]?=some (.cells cs TC (0,0))) (hb3:b3<X.heap.size)
  (hb:Below wr.heap.size wr W) (hown:w5.ownsRow X.heap.size T m v' (k+1) (vss.flatten++vs)) (hg:W.grownBy w5 v.ownBlock) (hT:¬T=9) (hTC:¬TC=T) (hTS:¬TC=9) (hr:r.length=m) (hvs:vs.length=m) (hc:∀(i:Nat) f,r[i]?=some f->∃v,vs[i]?=some v/\f.Fr W hh (fun k=>X.heap.size<=k) v) (hfr:∀(i:Nat) zs,r[i]?=some (.l zs)->zs≠[]->wr.heap.size<=hh)
  (h1:∀(i i':Nat) zs zs',r[i]?=some (.l zs)->zs≠[]->r[i']?=some (.l zs')->zs'≠[]->i=i'):
  az (Cps b3 X) X (w5.setCell ⟨b3,f,none⟩ v')/\(w5.setCell ⟨b3,f,none⟩ v').ownsRow X.heap.size T m v' (k+1) (vss++[vs]).flatten/\(∃H',aH (w5.setCell ⟨b3,f,none⟩ v') (fun k=>X.heap.size<=k) m (rs++[r]) (vss++[vs]) H')/\(w5.setCell ⟨b3,f,none⟩ v').heap[b3]?=some (.cells (cs.setIfInBounds f v') TC (0,0)):=by
 have hb5:=kC hO hBo hb3 hb hg;refine⟨?_,?_,⟨_,(hV.app hb (bD hO hb) hT hg hr hvs hc hfr h1).set hb5 hTS⟩,aD hb5 v'⟩
 ·exact ((hK.trans (az.ct hb)).trans (az.jh hg (fun g e=>.inr (hO.lt g e).1))).set (.inl rfl)
 ·rw[List.flatten_append];refine jf ?_ hb5 hTC;simpa using hown
structure sn (w:World) (d:Ad) (c:Cr) (S:Nat->Prop):Prop where
 n:ax w d.a1 d.l1 d.c1 7 56 c.n S
 k:ax w d.a2 d.l2 d.c2 4 106 c.k S
 v:ax w d.a3 d.l3 d.c3 8 101 c.v S
 x:ax w d.a4 d.l4 d.c4 5 109 c.x S
 p:ax w d.a5 d.l5 d.c5 6 103 c.p S
def EmF (B:Nat) (T:TypeId):Fact:=fun v w=> ∃b,v=.slice (some ⟨b,0,none⟩) 0 0/\B<=b/\w.heap[b]?=some (.cells #[] T (0,0))
theorem EmF.mono (B:Nat) (T:TypeId):Fact.bP (EmF B T):=by
 rintro v w w' ⟨b,h1,h2,h3⟩ hb;exact⟨b,h1,h2,(hb.block _ (ae h3)).trans h3⟩
def RwF (B len m:Nat) (T:TypeId) (rs:List (List Fv)):Fact:=fun v w=> ∃a c,v=.slice a len c/\ax w a len c m T rs (fun k=>B<=k)
theorem RwF.mono (B len m:Nat) (T:TypeId) (rs:List (List Fv)):Fact.bP (RwF B len m T rs):=by
 rintro v w w' ⟨a,c,h1,h2⟩ hb;exact⟨a,c,h1,h2.below hb⟩
def CpF (B l2 l4:Nat) (c:Cl):Fact:=fun v w=> ∃a2 c2 a4 c4,v=.agg #[.slice none 0 0,.slice a2 l2 c2,.slice none 0 0,.slice a4 l4 c4,.slice none 0 0,.int .i64 c.now]/\ax w a2 l2 c2 4 106 (c.ks.map kdF) (fun k=>B<=k)/\ax w a4 l4 c4 5 109 (c.xs.map xdF) (fun k=>B<=k)
theorem CpF.mono (B l2 l4:Nat) (c:Cl):Fact.bP (CpF B l2 l4 c):=by
 rintro v w w' ⟨a2,c2,a4,c4,h1,h2,h3⟩ hb;exact⟨a2,c2,a4,c4,h1,h2.below hb,h3.below hb⟩
def FrF (B:Nat):Fact:=fun v w=> ∃b,v=.pointer (some ⟨b,0,none⟩)/\B<=b/\w.heap[b]?=some (.cells #[.slice none 0 0,.slice none 0 0,.slice none 0 0,.slice none 0 0,.slice none 0 0,.int .i64 0] 36 (0,0))
theorem FrF.mono (B:Nat):Fact.bP (FrF B):=by
 rintro v w w' ⟨b,h1,h2,h3⟩ hb;exact⟨b,h1,h2,(hb.block _ (ae h3)).trans h3⟩

def Rv (vb:Option Nat) (sp:Tmp):Gi.Rs:=fun s w w'=>match s with
 | none=>w.grownBy w' vb
 | some t=>if t=sp then w.grownBy w' vb else Below w.heap.size w w'
theorem cy {w w':World} (vb:Option Nat) (h:Below w.heap.size w w'):w.grownBy w' vb:=⟨h.os,h.tape,h.output,h.size,fun k hk _=>h.block k hk⟩
theorem Rv.below {vb:Option Nat} {sp:Tmp} {s:Option Tmp} {w w':World} (h:Rv vb sp s w w') (h1:¬s=none) (h2:¬s=some sp):Below w.heap.size w w':=by
 cases s with
 | none=>exact absurd rfl h1
 | some t=>
  simp only[Rv] at h;rw[if_neg (fun e=>h2 (by rw[e]))] at h;exact h
theorem Rv.rel (vb:Option Nat) (sp:Tmp):Gi.Rel (Rv vb sp) sp:=by
 refine⟨fun w=>cy vb (sB _ _),fun {a b c} h k=>?_,fun h=>World.grownBy.size h,fun w=>cy vb (sB _ _).drew,fun s {a b} h=>?_,fun s {a b} h1 h2 h=>Rv.below h h1 h2⟩
 ·have h:World.grownBy a b vb:=h;have k:World.grownBy b c vb:=k;exact⟨k.os.trans h.os,k.tape.trans h.tape,k.output.trans h.output,sC h.size k.size,fun i hi hn=>(k.block i (sG hi h.size) hn).trans (h.block i hi hn)⟩
 ·cases s with
  | none=>exact h
  | some t=>
   show World.grownBy a b vb
   simp only[Rv] at h
   split at h
   ·exact h
   ·exact cy vb h
theorem Rv.other {vb:Option Nat} {sp t:Tmp} {w w':World} (ht:¬t=sp) (h:Below w.heap.size w w'):Rv vb sp (some t) w w':=by
 show (if t=sp then w.grownBy w' vb else Below w.heap.size w w');rw[if_neg ht];exact h
theorem Rv.this {vb:Option Nat} {sp:Tmp} {w w':World} (h:w.grownBy w' vb):Rv vb sp (some sp) w w':=by
 show (if sp=sp then w.grownBy w' vb else Below w.heap.size w w');rw[if_pos rfl];exact h
theorem n_ {w:World} {b:Nat} {vs:List Value} {T:TypeId} (h:w.heap[b]?=some (.cells vs.toArray T (0,0))):∀(j:Nat) u,vs[j]?=some u->w.cell? ((⟨b,0,none⟩:Addr).add j)=some u:=by
 intro j u hu;rw[tB,ay h,th];simpa using hu
def TvF (B:Nat) (x:Vd):Gi.Fact:=fun u w _ _=> ∃a l c,u=.agg #[.string x.n,.int .i64 x.c,.string x.z,.string x.k,.bool x.x,.string x.m,.bool x.y,.slice a l c]/\bO w a l c x.zs (fun k=>B<=k)
def BsF (B:Nat) (x:Vd):Gi.Fact:=fun u w _ _=> ∃b a l c,u=.slice (some ⟨b,0,none⟩) 1 1/\B<=b/\w.heap[b]?=some (.cells #[.string x.n,.int .i64 x.c,.string x.z,.string x.k,.bool x.x,.string x.m,.bool x.y,.slice a l c] 101 (0,0))/\bO w a l c x.zs (fun k=>B<=k)
def ApF (B k:Nat) (rs:List (List Fv)) (vss:List (List Value)):Gi.Fact:=fun u w _ _=> ∃H' vs,w.ownsRow B 101 8 u (k+1) (vss++[vs]).flatten/\aH w (fun k=>B<=k) 8 rs (vss++[vs]) H'
theorem TvF.mono {vb:Option Nat} {sp:Tmp} {ex:Gi.Ex} {d:Option Tmp} {B:Nat} {x:Vd} (hv:∀g,vb=some g->g<B):Gi.Fact.bP (Rv vb sp) ex d (TvF B x):=by
 rintro s _ _ _ v w w' l h ⟨a,l,c,h1,h2⟩ hb;have hb:w.grownBy w' vb:=(Rv.rel vb sp).sub s hb;exact⟨a,l,c,h1,h2.aI (fun k hk s=>hb.block k hk (fun e=>by have s1:B<=k:=s;have:=hv k e.symm;omega)) (fun _ _ s=>s)⟩
theorem BsF.mono {vb:Option Nat} {sp:Tmp} {ex:Gi.Ex} {d:Option Tmp} {B:Nat} {x:Vd} (hv:∀g,vb=some g->g<B):Gi.Fact.bP (Rv vb sp) ex d (BsF B x):=by
 rintro s _ _ _ v w w' l h ⟨b,a,l,c,h1,h2,h3,h4⟩ hb;have hb:w.grownBy w' vb:=(Rv.rel vb sp).sub s hb;exact⟨b,a,l,c,h1,h2,(hb.block _ (ae h3) (fun e=>by have:=hv b e.symm;omega)).trans h3,h4.aI (fun k hk s=>hb.block k hk (fun e=>by have s1:B<=k:=s;have:=hv k e.symm;omega)) (fun _ _ s=>s)⟩
theorem ApF.mono {vb:Option Nat} {sp:Tmp} {ex:Gi.Ex} {B k:Nat} {rs:List (List Fv)} {vss:List (List Value)} :Gi.Fact.bP (Rv vb sp) ex (some sp) (ApF B k rs vss):=by
 rintro s h1 h2 _ v w w' l h ⟨H',vs,h3,h4⟩ hb;have hb:=Rv.below hb h1 h2;exact⟨H',vs,bD h3 hb,h4.below hb⟩

theorem jD (d:Ad) (c:Cl) (w:World) (hr:aL w d c.raw) (hs:Sm c):
  Calls Tryz.prog 23 #[.agg #[.slice d.a1 d.l1 d.c1,.slice d.a2 d.l2 d.c2,.slice d.a3 d.l3 d.c3,.slice d.a4 d.l4 d.c4,.slice d.a5 d.l5 d.c5,.int .i64 c.now]] w fun e w'=> ∃d',e=.returned (.agg #[.slice d'.a1 d'.l1 d'.c1,.slice d'.a2 d'.l2 d'.c2,.slice d'.a3 d'.l3 d'.c3,.slice d'.a4 d'.l4 d'.c4,.slice d'.a5 d'.l5 d'.c5,.int .i64 c.now])/\sn w' d' c.raw (fun k=>w.heap.size<=k)/\Below w.heap.size w w':=by
 obtain⟨a1,l1,y1,a2,l2,y2,a3,l3,y3,a4,l4,y4,a5,l5,y5⟩:=d;dsimp only;obtain⟨HR,hl1,hm1,hl2,hm2,hl3,hm3,hl4,hm4,hl5,hm5⟩:=o7;clear hr;have HS:=aa hs;clear hs;obtain⟨i2,hi2⟩:=sF.1 kf;obtain⟨i4,hi4⟩:=sF.1 kb;obtain⟨i1,hi1⟩:=sF.1 eN;obtain⟨i3,hi3⟩:=sF.1 kd;obtain⟨i5,hi5⟩:=sF.1 ke;have HI1:=aa hi1;have HI2:=aa hi2;have HI3:=aa hi3;have HI4:=aa hi4;have HI5:=aa hi5;clear hi1 hi2 hi3 hi4 hi5;obtain⟨W,hW0⟩:∃W,W=(w.alloc (.cells (clo6 a1 l1 y1 a2 l2 y2 a3 l3 y3 a4 l4 y4 a5 l5 y5 c.now) 36)).alloc (.cells (clo6 none 0 0 none 0 0 none 0 0 none 0 0 none 0 0 0) 36):=⟨_,rfl⟩;have HB:Hid (Below w.heap.size w W):=by rw[hW0];exact aB _ _ _
 have Bk:Hid (W.heap[w.heap.size]?=some (.cells (clo6 a1 l1 y1 a2 l2 y2 a3 l3 y3 a4 l4 y4 a5 l5 y5 c.now) 36 (0,0))):=by rw[hW0];exact cY _ _ _
 obtain⟨Br,hWs⟩:=pE;go_enter Tryz.func23,Tryz.ntmps23;go_wp2_with fail;rw[<-hW0];clear hW0;rename_i K0 hK0;refine bw an rfl rfl an ?_;refine Grow.step (EmF W.heap.size 106) rfl (EmF.mono _ _) ?_ ?_
 ·exact k_
 refine Grow.fX ?_;refine Grow.fW Bk.out ?_;refine Grow.step (RwF W.heap.size l2 4 106 (c.ks.map kdF)) rfl (RwF.mono _ _ _ _ _) ?_ ?_
 ·refine Obl.plain rfl ?_;intro ac wg K hsz hW hf hK;clear hsz;have e9:=hf 9 ak;simp[slotFact,sM] at e9;have e11:=hf 11 ak;simp[slotFact,sM] at e11;clear hf;obtain⟨b0,e9,hB0,hg0⟩:=e9;have hz:i2.zero=some (.agg #[.string ⟨#[]⟩,.bool false,.bool false,.string ⟨#[]⟩])/\i2.size=4/\i2.bytes=40:=by have:=HI2.2;simp only[uf] at this;exact this
  refine gZ (.tmp 9) (.tmp 11) 31 106 rfl i2 (.agg #[.string ⟨#[]⟩,.bool false,.bool false,.string ⟨#[]⟩]) Tryz.underlying31 HI2.1 hz.1 hz.2.1 hz.2.2 rfl ak ak (by simpa[Act.eval] using e9) hg0 (by simpa[Act.eval] using e11) (HR.k.below (HB.trans (hW.mono HB.size))) (eo lp _) (show l2<=8 by have:=HS.k;omega) ak ?_;exact pZ
 refine Grow.step (EmF W.heap.size 109) rfl (EmF.mono _ _) ?_ ?_
 ·exact k_
 refine Grow.fX ?_;refine Grow.fW Bk.out ?_;refine Grow.step (RwF W.heap.size l4 5 109 (c.xs.map xdF)) rfl (RwF.mono _ _ _ _ _) ?_ ?_
 ·refine Obl.plain rfl ?_;intro ac wg K hsz hW hf hK;clear hsz;have e13:=hf 13 ak;simp[slotFact,sM] at e13;have e15:=hf 15 ak;simp[slotFact,sM] at e15;clear hf;obtain⟨b0,e13,hB0,hg0⟩:=e13;have hz:i4.zero=some (.agg #[.string ⟨#[]⟩,.int .i64 0,.string ⟨#[]⟩,.bool false,.string ⟨#[]⟩])/\i4.size=5/\i4.bytes=64:=by have:=HI4.2;simp only[uf] at this;exact this
  refine gZ (.tmp 13) (.tmp 15) 33 109 rfl i4 (.agg #[.string ⟨#[]⟩,.int .i64 0,.string ⟨#[]⟩,.bool false,.string ⟨#[]⟩]) Tryz.underlying33 HI4.1 hz.1 hz.2.1 hz.2.2 rfl ak ak (by simpa[Act.eval] using e13) hg0 (by simpa[Act.eval] using e15) (HR.x.below (HB.trans (hW.mono HB.size))) (eo kH _) (show l4<=8 by have:=HS.x;omega) ak ?_;exact pZ
 refine Grow.fX ?_;refine Grow.fW Bk.out ?_;refine Grow.step (CpF W.heap.size l2 l4 c) rfl (CpF.mono _ _ _ _) ?_ ?_
 ·refine Obl.plain rfl ?_;intro ac wg K hsz hW hf hK;clear hsz;have e12:=hf 12 ak;simp[slotFact,sM] at e12;have e16:=hf 16 ak;simp[slotFact,sM] at e16;have e18:=hf 18 ak;simp[slotFact,sM] at e18;clear hf;obtain⟨p2,q2,e12,h12⟩:=e12;obtain⟨p4,q4,e16,h16⟩:=e16;have H12:=aa h12;have H16:=aa h16;clear h12 h16;go_simp;exact hK _ _ (sB _ _) ⟨p2,q2,p4,q4,rfl,H12.out,H16.out⟩
 refine Grow.step (FrF W.heap.size) rfl (FrF.mono _) ?_ ?_
 ·exact k_
 refine Grow.done ?_;intro q wz hW hf;simp only[tL] at hf;obtain⟨⟨b3,h3,hb3,hg3⟩,⟨p2,q2,p4,q4,h19,hR2,hR4⟩,-⟩:=hf;obtain⟨t0,t1,t2,t3,t4,t5⟩:=cs6 hg3;have f0:=aq hg3 0;have f1:=aq hg3 1;have f2:=aq hg3 2;have f3:=aq hg3 3;have f4:=aq hg3 4;have f5:=aq hg3 5;have BoX:=aa (sd (v0:=.slice none 0 0) (v1:=.slice p2 l2 q2) (v2:=.slice none 0 0) (v3:=.slice p4 l4 q4) (v4:=.slice none 0 0) (v5:=.int .i64 c.now) hg3);have HWX:Hid (Below W.heap.size W ((((((wz.setCell ⟨b3,0,none⟩ (.slice none 0 0)).setCell ⟨b3,1,none⟩ (.slice p2 l2 q2)).setCell ⟨b3,2,none⟩ (.slice none 0 0)).setCell ⟨b3,3,none⟩ (.slice p4 l4 q4)).setCell ⟨b3,4,none⟩ (.slice none 0 0)).setCell ⟨b3,5,none⟩ (.int .i64 c.now))):=ag hb3 (ag hb3 (ag hb3 (ag hb3 (ag hb3 (ag hb3 hW)))));have R2:Hid (ax ((((((wz.setCell ⟨b3,0,none⟩ (.slice none 0 0)).setCell ⟨b3,1,none⟩ (.slice p2 l2 q2)).setCell ⟨b3,2,none⟩ (.slice none 0 0)).setCell ⟨b3,3,none⟩ (.slice p4 l4 q4)).setCell ⟨b3,4,none⟩ (.slice none 0 0)).setCell ⟨b3,5,none⟩ (.int .i64 c.now)) p2 l2 q2 4 106 (c.ks.map kdF) (fun k=>W.heap.size<=k/\¬k=b3)):=(hR2.mh hg3 ak ak).aI (fun k hk s=>cV s.2) (fun k _ s=>s);have R4:Hid (ax ((((((wz.setCell ⟨b3,0,none⟩ (.slice none 0 0)).setCell ⟨b3,1,none⟩ (.slice p2 l2 q2)).setCell ⟨b3,2,none⟩ (.slice none 0 0)).setCell ⟨b3,3,none⟩ (.slice p4 l4 q4)).setCell ⟨b3,4,none⟩ (.slice none 0 0)).setCell ⟨b3,5,none⟩ (.int .i64 c.now)) p4 l4 q4 5 109 (c.xs.map xdF) (fun k=>W.heap.size<=k/\¬k=b3)):=(hR4.mh hg3 ak ak).aI (fun k hk s=>cV s.2) (fun k _ s=>s);clear hg3 hR2 hR4 hW;intro K hK;rw[if_pos (by rfl)];simp only[aR,List.foldr,Act.put,tm,tF,tQ,h3,h19];simp only[List.getLast];go_simp;refine hK _ _ ?_;refine hK0 _ _ ?_;clear hK hK0 K K0;generalize ((((((wz.setCell ⟨b3,0,none⟩ (.slice none 0 0)).setCell ⟨b3,1,none⟩ (.slice p2 l2 q2)).setCell ⟨b3,2,none⟩ (.slice none 0 0)).setCell ⟨b3,3,none⟩ (.slice p4 l4 q4)).setCell ⟨b3,4,none⟩ (.slice none 0 0)).setCell ⟨b3,5,none⟩ (.int .i64 c.now))=X at BoX HWX R2 R4 ⊢;clear t0 t1 t2 t3 t4 t5 f0 f1 f2 f3 f4 f5;have HBX:=aa (HB.trans (HWX.mono HB.size));replace Bk:=aa ((HWX.block _ (ae Bk.out)).trans Bk.out);replace Br:=aa ((HWX.block _ (ae Br.out)).trans Br.out);have hb3X:=ae BoX.out;clear HB;go_wp2;go_loopw [4] (fun vi wr=> ∃(k:Nat) (vss:List (List Value)) (H:Nat->Nat->Nat) (v:Value),k<=l1/\vi=.int .i64 k/\Hid (az (Cps b3 X) X wr)/\Hid (wr.ownsRow X.heap.size 56 7 v k vss.flatten)/\Hid (aH wr (fun k=>X.heap.size<=k) 7 ((c.ns.take k).map ndF) vss H)/\Hid (wr.heap[b3]?=some (.cells #[v,.slice p2 l2 q2,.slice none 0 0,.slice p4 l4 q4,.slice none 0 0,.int .i64 c.now] 36 (0,0)))) (fun vi _=>l1 - (intOf vi).toNat);case atStart=>exact⟨0,[],fun _ _=>0,.slice none 0 0,by omega,rfl,az.refl _ _,tr _ _ _ _,aH.nil _ _ _ _,BoX⟩
 case round=>
  obtain⟨k,vss,H,v,hk,rfl,HK,HO,HV,Bo⟩:=hrel;obtain⟨hXs,HBW,BkR,hKs⟩:=mT;by_cases hlt:k<l1
  ·obtain⟨b,o,x,rfl,hb0,hx,hat⟩:=bq HR.n hlt;obtain⟨va,vl,vc,hvr,z0,z1,c0,c1,c2,c3,c4,c5,c6⟩:=aK hat;have hz8:vl<=8001:=by have h1:=hvr.1;have h2:=HS.ns k x hx;omega
   have HX:=aa hx;have HT:=aa hvr;have HZz0:=aa z0;have HZz1:=aa z1;clear hat hx hvr z0 z1;replace c0:=(ai HBW.out hb0).trans c0;replace c1:=(ai HBW.out hb0).trans c1;replace c2:=(ai HBW.out hb0).trans c2;replace c3:=(ai HBW.out hb0).trans c3;replace c4:=(ai HBW.out hb0).trans c4;replace c5:=(ai HBW.out hb0).trans c5;replace c6:=(ai HBW.out hb0).trans c6;have hbr:=sG hb0 HBW.size;have hkr:=ae BkR.out;have hor:=ae Bo.out;have hz:i1.zero=some (.agg #[.string ⟨#[]⟩,.string ⟨#[]⟩,.int .i64 0,.int .i64 0,.int .i64 0,.bool false,.slice none 0 0])/\i1.size=7/\i1.bytes=88:=by have:=HI1.2;simp only[uf] at this;exact this
   obtain⟨k0,k1,k2,k3,k4,k5⟩:=cs6 BkR;go_wp2_with (first|(at_builtin;refine dR rfl _ _ rfl (wr.heap.size+1) rfl (bB _ _ _) va vl vc rfl x.zs (HT.below (HBW.trans ((aB _ _ _).mono HBW.size))) hz8 ?_));intro a' l' c' w2 hT2 hb2;obtain⟨hn2,-,hbx⟩:=kK hb2;obtain⟨g,hg⟩:=hT2.fr;obtain⟨hs2,hsl⟩:=py;have hb4:Below wr.heap.size wr ((w2.setCell ⟨wr.heap.size,6,none⟩ (.slice a' l' c')).alloc (.cells (nov x a' l' c') 56)):=(ag (sy _) hbx).alloc ft _;have HF4:Hid (LFr ((w2.setCell ⟨wr.heap.size,6,none⟩ (.slice a' l' c')).alloc (.cells (nov x a' l' c') 56)) g (fun k=>X.heap.size<=k) x.zs (.slice a' l' c')):=hg.aI (fun cu _ q=>(sR _ _ _ (by simp[sZ];exact ae q)).trans (sz _ _ _ _ (fun e=>by subst e;rw[hn2] at q;cases q))) (fun _ s=>by have:=hsl _ s;show X.heap.size<=g;omega);obtain⟨HG,HB4,HO4⟩:=pw;obtain⟨n0,n1,n2,n3,n4,n5,n6⟩:=cs7 hn2;have fn3:=aq hn2 3;have fn6:=aq hn2 6;have bo2:=(hbx.block _ hor).trans Bo.out;obtain⟨o0,o1,o2,o3,o4,o5⟩:=cs6 bo2;clear hn2 hbx hT2 hg hb2 hsl hb4 bo2 k0 k1 k2 k3 k4 k5 c0 c1 c2 c3 c4 c5 c6;go_wp2_with (first|(at_builtin;refine wpList_append_own _ rfl _ _ 30 rfl X.heap.size 56 i1 (.agg #[.string ⟨#[]⟩,.string ⟨#[]⟩,.int .i64 0,.int .i64 0,.int .i64 0,.bool false,.slice none 0 0]) 7 88 Tryz.underlying30 HI1.1 hz.1 hz.2.1 hz.2.2 rfl ak _ _ _ rfl HO4.out ⟨w2.heap.size,0,none⟩ 1 1 [.string x.n,.string x.z,.int .i64 x.c,.int .i64 x.s,.int .i64 x.u,.bool x.d,.slice a' l' c'] rfl rfl ?c1 ?c2 ?c3 ?c4 ?c5 ?_));case c1=>exact dG _ _ (by simp[sZ]) _ _
   case c2=>intro u hu;simp only[tz,tx,or_false] at hu;rcases hu with rfl|rfl|rfl|rfl|rfl|rfl|rfl <;> rfl
   case c3=>unfold maxLen;have:=HS.n;omega
   case c4=>have:=HS.n;omega
   case c5=>simp[sZ];omega
   rintro v' w5 hown5 hgrow -;obtain⟨v1',v2',v3',rfl⟩:=dM hown5;clear n0 n1 n2 n3 fn3 n4 n5 n6 fn6 o0 o1 o2 o3 o4 o5;have bo5:=kC HO.out Bo.out hb3X HB4.out hgrow;obtain⟨hs1,hs2',⟨H',hs3⟩,hs4⟩:=ly (f:=0) (r:=ndF x) (vs:=[.string x.n,.string x.z,.int .i64 x.c,.int .i64 x.s,.int .i64 x.u,.bool x.d,.slice a' l' c']) (hh:=g) HK.out HO.out HV.out Bo.out hb3X HB4.out hown5 hgrow ak ak ak rfl rfl (qP HZz0.out HZz1.out HF4.out) (fun i zs hi hz=>HG.out zs (lS hi).2.symm hz) (fun i i' zs zs' h1 _ h2 _=>(lS h1).1.trans (lS h2).1.symm);have e1:(c.ns.take (k+1)).map ndF=(c.ns.take k).map ndF++[ndF x]:=by rw[tc,HX.out];simp
   exact qA
  ·have hkl:k=l1:=af
   have h5:=HV.out;rw[sE af] at h5;obtain⟨p1,q1,hv,hR⟩:=h5.own HO.out cC ak (fun g hg=>(HO.lt g hg).1);have hl5:(c.ns.map ndF).length=l1:=by simpa using hl1
   rw[hl5] at hv hR;subst hv;have R1:=aa (hR.mh Bo.out ak ak);replace R2:=aa (R2.aI (fun k hk s=>HK.block k hk (fun q9=>by rcases q9 with q9|q9;exact s.2 q9;omega)) (fun _ _ s=>s));replace R4:=aa (R4.aI (fun k hk s=>HK.block k hk (fun q9=>by rcases q9 with q9|q9;exact s.2 q9;omega)) (fun _ _ s=>s));replace Br:=aa ((HK.block (w.heap.size+1) af (fun s=>by rcases s with s|s <;> omega)).trans Br.out);replace Bk:=BkR;replace BoX:=Bo;replace HBX:=HBW;have hb3X1:=ae BoX.out;clear BkR Bo HBW h5 hR HV HO HK hl5 hkl hk hKs hXs;generalize wr=X1 at*;obtain⟨k0,k1,k2,k3,k4,k5⟩:=cs6 Bk;go_wp2;clear k0 k1 k2 k3 k4 k5 hlt;go_loopw [6] (fun vi wr=> ∃(k:Nat) (vss:List (List Value)) (H:Nat->Nat->Nat) (v:Value),k<=l3/\vi=.int .i64 k/\Hid (az (Cps b3 X1) X1 wr)/\Hid (wr.ownsRow X1.heap.size 101 8 v k vss.flatten)/\Hid (aH wr (fun k=>X1.heap.size<=k) 8 ((c.vs.take k).map vdF) vss H)/\Hid (wr.heap[b3]?=some (.cells #[.slice p1 l1 q1,.slice p2 l2 q2,v,.slice p4 l4 q4,.slice none 0 0,.int .i64 c.now] 36 (0,0)))) (fun vi _=>l3 - (intOf vi).toNat);case atStart=>exact⟨0,[],fun _ _=>0,.slice none 0 0,by omega,rfl,az.refl _ _,tr _ _ _ _,aH.nil _ _ _ _,BoX⟩
   case round=>
    obtain⟨k,vss,H,v,hk,rfl,HK,HO,HV,Bo⟩:=hrel;obtain⟨hXs,HBW,BkR,hKs⟩:=mT;by_cases hlt:k<l3
    ·obtain⟨b,o,x,rfl,hb0,hx,hat⟩:=bk HR.v hlt;obtain⟨va,vl,vc,hvr,z0,z2,z3,z5,c0,c1,c2,c3,c4,c5,c6,c7⟩:=aE hat;have hz8:vl<=8001:=by have h1:=hvr.1;have h2:=HS.vs k x hx;omega
     have HX:=aa hx;have HT:=aa hvr;have HZz0:=aa z0;have HZz2:=aa z2;have HZz3:=aa z3;have HZz5:=aa z5;clear hat hx hvr z0 z2 z3 z5;replace c0:=(ai HBW.out hb0).trans c0;replace c1:=(ai HBW.out hb0).trans c1;replace c2:=(ai HBW.out hb0).trans c2;replace c3:=(ai HBW.out hb0).trans c3;replace c4:=(ai HBW.out hb0).trans c4;replace c5:=(ai HBW.out hb0).trans c5;replace c6:=(ai HBW.out hb0).trans c6;replace c7:=(ai HBW.out hb0).trans c7;have hbr:=sG hb0 HBW.size;have hkr:=ae BkR.out;have hor:=ae Bo.out;have hz:i3.zero=some (.agg #[.string ⟨#[]⟩,.int .i64 0,.string ⟨#[]⟩,.string ⟨#[]⟩,.bool false,.string ⟨#[]⟩,.bool false,.slice none 0 0])/\i3.size=8/\i3.bytes=112:=by have:=HI3.2;simp only[uf] at this;exact this
     obtain⟨k0,k1,k2,k3,k4,k5⟩:=cs6 BkR;have hvb:=fun g hg=>(HO.lt g hg).2;go_wp2_with fail;clear k0 k1 k2 k3 k4 k5;rename_i K0 hK0;refine Gi.bw (R:=Rv v.ownBlock 59) (ex:=fun _=>none) (Rv.rel _ _) an rfl rfl an an ?_;refine' Gi.Grow.aV _ rfl ?_ ?_;rotate_left 1
     ·exact nH
     refine' Gi.Grow.aV _ rfl ?_ ?_;rotate_left 1
     ·refine Gi.Obl.plain rfl ?_;intro ac wg K lo hi hsz hW hpr hf hap hK;clear hsz hap hpr;have hW:wr.grownBy wg v.ownBlock:=hW;have e50:=hf 50 ak;simp[Gi.slotFact,sM] at e50;clear hf;obtain⟨o0,o1,o2,o3,o4,o5⟩:=cs6 ((hW.block b3 hor (fun e=>by have:=(HO.lt _ e.symm).1;omega)).trans Bo.out);exact fx
     refine' Gi.Grow.aV _ rfl ?_ ?_;rotate_left 1
     ·refine Gi.Obl.plain rfl ?_;intro ac wg K lo hi hsz hW hpr hf hap hK;clear hsz hap hpr;have hW:wr.grownBy wg v.ownBlock:=hW;have e1:=hf 1 ak;simp[Gi.slotFact,sM] at e1;clear hf;exact fx
     refine' Gi.Grow.aV _ rfl ?_ ?_;rotate_left 1
     ·refine Gi.Obl.plain rfl ?_;intro ac wg K lo hi hsz hW hpr hf hap hK;clear hsz hap hpr;have hW:wr.grownBy wg v.ownBlock:=hW;have e52:=hf 52 ak;simp[Gi.slotFact,sM] at e52;clear hf;obtain⟨k0,k1,k2,k3,k4,k5⟩:=cs6 ((hW.block w.heap.size hkr (fun e=>by have:=(HO.lt _ e.symm).1;omega)).trans BkR.out);exact fx
     refine' Gi.Grow.aV _ rfl ?_ ?_;rotate_left 1
     ·refine Gi.Obl.plain rfl ?_;intro ac wg K lo hi hsz hW hpr hf hap hK;clear hsz hap hpr;have hW:wr.grownBy wg v.ownBlock:=hW;have e6:=hf 6 ak;simp[Gi.slotFact,sM] at e6;clear hf;exact fx
     refine' Gi.Grow.aV _ rfl ?_ ?_;rotate_left 1
     ·refine Gi.Obl.plain rfl ?_;intro ac wg K lo hi hsz hW hpr hf hap hK;clear hsz hap hpr;have hW:wr.grownBy wg v.ownBlock:=hW;have e53:=hf 53 ak;simp[Gi.slotFact,sM] at e53;have e54:=hf 54 ak;simp[Gi.slotFact,sM] at e54;clear hf;exact fx
     refine' Gi.Grow.aV _ rfl ?_ ?_;rotate_left 1
     ·refine Gi.Obl.plain rfl ?_;intro ac wg K lo hi hsz hW hpr hf hap hK;clear hsz hap hpr;have hW:wr.grownBy wg v.ownBlock:=hW;have e55:=hf 55 ak;simp[Gi.slotFact,sM] at e55;clear hf;have c0g:=(tj (hW.block b hbr (fun e=>by have:=(HO.lt _ e.symm).1;omega))).trans c0;have c1g:=(tj (hW.block b hbr (fun e=>by have:=(HO.lt _ e.symm).1;omega))).trans c1;have c2g:=(tj (hW.block b hbr (fun e=>by have:=(HO.lt _ e.symm).1;omega))).trans c2;have c3g:=(tj (hW.block b hbr (fun e=>by have:=(HO.lt _ e.symm).1;omega))).trans c3;have c4g:=(tj (hW.block b hbr (fun e=>by have:=(HO.lt _ e.symm).1;omega))).trans c4;have c5g:=(tj (hW.block b hbr (fun e=>by have:=(HO.lt _ e.symm).1;omega))).trans c5;have c6g:=(tj (hW.block b hbr (fun e=>by have:=(HO.lt _ e.symm).1;omega))).trans c6;have c7g:=(tj (hW.block b hbr (fun e=>by have:=(HO.lt _ e.symm).1;omega))).trans c7;exact fx
     refine Gi.Grow.step (TvF wr.heap.size x) rfl (TvF.mono hvb) ?_ ?_
     ·refine Gi.Obl.plain rfl ?_;intro ac wg K lo hi hsz hW hpr hf hap hK;clear hsz hap hpr;have hW:wr.grownBy wg v.ownBlock:=hW;have e56:=hf 56 ak;simp[Gi.slotFact,sM] at e56;clear hf;have hBg:=HBW.grown hW HBW.size (fun g hg=>by have:=(HO.lt g hg).1;omega);go_simp;refine (Ap.rq x.n x.c x.z x.k x.x x.m x.y va vl vc x.zs _ (HT.below hBg) hz8).mono ?_;rintro e w6 ⟨a',l',c',rfl,ho1,ho2,hb6⟩;have hws:=hW.size;exact hK _ _ (Rv.other ak hb6) ⟨a',l',c',rfl,bO.da ⟨ho1,ho2⟩ (fun k _ s=>sC hws s)⟩
     refine Gi.Grow.step (BsF wr.heap.size x) rfl (BsF.mono hvb) ?_ ?_
     ·refine Gi.Obl.plain rfl ?_;intro ac wg K lo hi hsz hW hpr hf hap hK;clear hsz hap hpr;have hW:wr.grownBy wg v.ownBlock:=hW;have e57:=hf 57 ak;simp[Gi.slotFact,sM] at e57;clear hf;obtain⟨a',l',c',e57,ho⟩:=e57;have HO7:=aa ho;clear ho;go_simp;exact hK _ _ (Rv.other ak (aj _ _)) ⟨_,a',l',c',rfl,hW.size,sH,HO7.below (aj _ _)⟩
     refine Gi.Grow.step (ApF X1.heap.size k ((c.vs.take (k+1)).map vdF) vss) rfl (ApF.mono) ?_ ?_
     ·refine Gi.Obl.plain rfl ?_;intro ac wg K lo hi hsz hW hpr hf hap hK;clear hsz hap;have hW:wr.grownBy wg v.ownBlock:=hW;have e51:=hf 51 ak;simp[Gi.slotFact,sM] at e51;have e58:=hf 58 ak;simp[Gi.slotFact,sM] at e58;clear hf;have hbW:=hpr rfl;clear hpr;obtain⟨b5,a',l',c',e58,hb5,hg5,ho5⟩:=e58;obtain⟨g,hg⟩:=ho5.fr;have hws:=hW.size;refine wp_append_own wg (.tmp 51) (.tmp 58) 32 rfl X1.heap.size 101 i3 (.agg #[.string ⟨#[]⟩,.int .i64 0,.string ⟨#[]⟩,.string ⟨#[]⟩,.bool false,.string ⟨#[]⟩,.bool false,.slice none 0 0]) 8 112 Tryz.underlying32 HI3.1 hz.1 hz.2.1 hz.2.2 rfl ak v k vss.flatten (by simpa[Act.eval] using e51) (bD HO.out hbW) ⟨b5,0,none⟩ 1 1 [.string x.n,.int .i64 x.c,.string x.z,.string x.k,.bool x.x,.string x.m,.bool x.y,.slice a' l' c'] (by simpa[Act.eval] using e58) rfl (n_ hg5) (by intro u hu;simp only[tz,tx,or_false] at hu;rcases hu with rfl|rfl|rfl|rfl|rfl|rfl|rfl|rfl <;> rfl) (by unfold maxLen;have:=HS.v;omega) (by have:=HS.v;omega) af ?_;intro v' w' hown hgr _;have hV:=HV.app (r:=vdF x) (vs:=[.string x.n,.int .i64 x.c,.string x.z,.string x.k,.bool x.x,.string x.m,.bool x.y,.slice a' l' c']) (hh:=g) hbW (bD HO.out hbW) ak hgr rfl rfl (pn HZz0.out HZz2.out HZz3.out HZz5.out (hg.aI (S':=fun k=>X1.heap.size<=k) (fun cu _ q=>rfl) (fun _ s=>by have s1:wr.heap.size<=g:=s;show X1.heap.size<=g;omega))) (fun i zs hi hz=>by obtain⟨_,rfl⟩:=lG hi;exact (hg.lt hz).1) (fun i i' zs zs' h1 _ h2 _=>(lG h1).1.trans (lG h2).1.symm);have e1:(c.vs.take (k+1)).map vdF=(c.vs.take k).map vdF++[vdF x]:=by rw[tc,HX.out];simp
      rw[<-e1] at hV;exact hK _ _ (Rv.this hgr) ⟨_,[.string x.n,.int .i64 x.c,.string x.z,.string x.k,.bool x.x,.string x.m,.bool x.y,.slice a' l' c'],by rw[List.flatten_append];simpa using hown,hV⟩
     refine' Gi.Grow.aV _ rfl ?_ ?_;rotate_left 1
     ·exact nH
     refine Gi.Grow.done ?_;intro q wz lo hi hW hf hap;clear hap;have hW:wr.grownBy wz v.ownBlock:=hW;simp only[tL] at hf;obtain⟨h60,h59,-⟩:=hf;have h60:=h60 bA;obtain⟨H',vs',hs2,hs3⟩:=h59 bA;obtain⟨v',hv'⟩:∃v',q 59=v':=⟨_,rfl⟩;rw[hv'] at hs2;obtain⟨v1',v2',v3',rfl⟩:=dM hs2;have bo5:=(hW.block b3 hor (fun e=>by have:=(HO.lt _ e.symm).1;omega)).trans Bo.out;have HS1:=aa (((HK.trans (az.jh hW (fun g e=>.inr (HO.lt g e).1))).set (i:=2) (v:=.slice v1' v2' v3') (.inl rfl)));have HS2:=aa (jf (i:=2) (u:=.slice v1' v2' v3') hs2 bo5 ak);have HS3:=aa (hs3.set (i:=2) (u:=.slice v1' v2' v3') bo5 ak);have HS4:=aa (aD (i:=2) bo5 (.slice v1' v2' v3'));obtain⟨o0,o1,o2,o3,o4,o5⟩:=cs6 bo5;have fo0:=aq bo5 0;have fo2:=aq bo5 2;have fo4:=aq bo5 4;clear bo5 hs2 hs3 hW c0 c1 c2 c3 c4 c5 c6 c7;intro K hK;rw[if_pos (by rfl)];simp only[Gi.aR,List.foldr,Act.put,tm,tF,tQ,h60,hv'];simp only[List.getLast];go_simp;refine hK _ _ ?_;refine hK0 _ _ ?_;clear hK hK0 K K0;go_wp2;exact⟨⟨k+1,_,H',_,by omega,by go_num,HS1,HS2,HS3,HS4⟩,by simp[intOf];omega⟩
    ·have hkl:k=l3:=af
     have h5:=HV.out;rw[sE af] at h5;obtain⟨p3,q3,hv,hR⟩:=h5.own HO.out cC ak (fun g hg=>(HO.lt g hg).1);have hl5:(c.vs.map vdF).length=l3:=by simpa using hl3
     rw[hl5] at hv hR;subst hv;have R3:=aa (hR.mh Bo.out ak ak);replace R2:=aa (R2.aI (fun k hk s=>HK.block k hk (fun q9=>by rcases q9 with q9|q9;exact s.2 q9;omega)) (fun _ _ s=>s));replace R4:=aa (R4.aI (fun k hk s=>HK.block k hk (fun q9=>by rcases q9 with q9|q9;exact s.2 q9;omega)) (fun _ _ s=>s));replace R1:=aa (R1.aI (fun k hk s=>HK.block k hk (fun q9=>by rcases q9 with q9|q9;exact s.2 q9;omega)) (fun _ _ s=>s));replace Br:=aa ((HK.block (w.heap.size+1) af (fun s=>by rcases s with s|s <;> omega)).trans Br.out);replace Bk:=BkR;replace BoX:=Bo;replace HBX:=HBW;have hb3X2:=ae BoX.out;clear BkR Bo HBW h5 hR HV HO HK hl5 hkl hk hKs hXs;generalize wr=X2 at*;obtain⟨k0,k1,k2,k3,k4,k5⟩:=cs6 Bk;go_wp2;clear k0 k1 k2 k3 k4 k5 hlt;go_loopw [7] (fun vi wr=> ∃(k:Nat) (vss:List (List Value)) (H:Nat->Nat->Nat) (v:Value),k<=l5/\vi=.int .i64 k/\Hid (az (Cps b3 X2) X2 wr)/\Hid (wr.ownsRow X2.heap.size 103 6 v k vss.flatten)/\Hid (aH wr (fun k=>X2.heap.size<=k) 6 ((c.ps.take k).map pdF) vss H)/\Hid (wr.heap[b3]?=some (.cells #[.slice p1 l1 q1,.slice p2 l2 q2,.slice p3 l3 q3,.slice p4 l4 q4,v,.int .i64 c.now] 36 (0,0)))) (fun vi _=>l5 - (intOf vi).toNat);case atStart=>exact⟨0,[],fun _ _=>0,.slice none 0 0,by omega,rfl,az.refl _ _,tr _ _ _ _,aH.nil _ _ _ _,BoX⟩
     case round=>
      obtain⟨k,vss,H,v,hk,rfl,HK,HO,HV,Bo⟩:=hrel;obtain⟨hXs,HBW,BkR,hKs⟩:=mT;by_cases hlt:k<l5
      ·obtain⟨b,o,x,rfl,hb0,hx,hat⟩:=bR HR.p hlt;obtain⟨va,vl,vc,hvr,z0,z2,z4,c0,c1,c2,c3,c4,c5⟩:=aO hat;have hz8:vl<=8001:=by have h1:=hvr.1;have h2:=HS.ps k x hx;omega
       have HX:=aa hx;have HT:=aa hvr;have HZz0:=aa z0;have HZz2:=aa z2;have HZz4:=aa z4;clear hat hx hvr z0 z2 z4;replace c0:=(ai HBW.out hb0).trans c0;replace c1:=(ai HBW.out hb0).trans c1;replace c2:=(ai HBW.out hb0).trans c2;replace c3:=(ai HBW.out hb0).trans c3;replace c4:=(ai HBW.out hb0).trans c4;replace c5:=(ai HBW.out hb0).trans c5;have hbr:=sG hb0 HBW.size;have hkr:=ae BkR.out;have hor:=ae Bo.out;have hz:i5.zero=some (.agg #[.string ⟨#[]⟩,.int .i64 0,.string ⟨#[]⟩,.slice none 0 0,.string ⟨#[]⟩,.int .i64 0])/\i5.size=6/\i5.bytes=88:=by have:=HI5.2;simp only[uf] at this;exact this
       obtain⟨k0,k1,k2,k3,k4,k5⟩:=cs6 BkR;go_wp2_with (first|(at_builtin;refine dR rfl _ _ rfl (wr.heap.size+1) rfl (bB _ _ _) va vl vc rfl x.zs (HT.below (HBW.trans ((aB _ _ _).mono HBW.size))) hz8 ?_));intro a' l' c' w2 hT2 hb2;obtain⟨hn2,-,hbx⟩:=kK hb2;obtain⟨g,hg⟩:=hT2.fr;obtain⟨hs2,hsl⟩:=py;have hb4:Below wr.heap.size wr ((w2.setCell ⟨wr.heap.size,3,none⟩ (.slice a' l' c')).alloc (.cells (pov x a' l' c') 103)):=(ag (sy _) hbx).alloc ft _;have HF4:Hid (LFr ((w2.setCell ⟨wr.heap.size,3,none⟩ (.slice a' l' c')).alloc (.cells (pov x a' l' c') 103)) g (fun k=>X2.heap.size<=k) x.zs (.slice a' l' c')):=hg.aI (fun cu _ q=>(sR _ _ _ (by simp[sZ];exact ae q)).trans (sz _ _ _ _ (fun e=>by subst e;rw[hn2] at q;cases q))) (fun _ s=>by have:=hsl _ s;show X2.heap.size<=g;omega);obtain⟨HG,HB4,HO4⟩:=pw;obtain⟨n0,n1,n2,n3,n4,n5⟩:=cs6 hn2;have fn3:=aq hn2 3;have bo2:=(hbx.block _ hor).trans Bo.out;obtain⟨o0,o1,o2,o3,o4,o5⟩:=cs6 bo2;clear hn2 hbx hT2 hg hb2 hsl hb4 bo2 k0 k1 k2 k3 k4 k5 c0 c1 c2 c3 c4 c5;go_wp2_with (first|(at_builtin;refine wpList_append_own _ rfl _ _ 34 rfl X2.heap.size 103 i5 (.agg #[.string ⟨#[]⟩,.int .i64 0,.string ⟨#[]⟩,.slice none 0 0,.string ⟨#[]⟩,.int .i64 0]) 6 88 Tryz.underlying34 HI5.1 hz.1 hz.2.1 hz.2.2 rfl ak _ _ _ rfl HO4.out ⟨w2.heap.size,0,none⟩ 1 1 [.string x.n,.int .i64 x.c,.string x.z,.slice a' l' c',.string x.d,.int .i64 x.p] rfl rfl ?c1 ?c2 ?c3 ?c4 ?c5 ?_));case c1=>exact dG _ _ (by simp[sZ]) _ _
       case c2=>intro u hu;simp only[tz,tx,or_false] at hu;rcases hu with rfl|rfl|rfl|rfl|rfl|rfl <;> rfl
       case c3=>unfold maxLen;have:=HS.p;omega
       case c4=>have:=HS.p;omega
       case c5=>simp[sZ];omega
       rintro v' w5 hown5 hgrow -;obtain⟨v1',v2',v3',rfl⟩:=dM hown5;clear n0 n1 n2 n3 fn3 n4 n5 o0 o1 o2 o3 o4 o5;have bo5:=kC HO.out Bo.out hb3X2 HB4.out hgrow;obtain⟨hs1,hs2',⟨H',hs3⟩,hs4⟩:=ly (f:=4) (r:=pdF x) (vs:=[.string x.n,.int .i64 x.c,.string x.z,.slice a' l' c',.string x.d,.int .i64 x.p]) (hh:=g) HK.out HO.out HV.out Bo.out hb3X2 HB4.out hown5 hgrow ak ak ak rfl rfl (qO HZz0.out HZz2.out HZz4.out HF4.out) (fun i zs hi hz=>HG.out zs (lP hi).2.symm hz) (fun i i' zs zs' h1 _ h2 _=>(lP h1).1.trans (lP h2).1.symm);have e1:(c.ps.take (k+1)).map pdF=(c.ps.take k).map pdF++[pdF x]:=by rw[tc,HX.out];simp
       exact qA
      ·have hkl:k=l5:=af
       have h5:=HV.out;rw[sE af] at h5;obtain⟨p5,q5,hv,hR⟩:=h5.own HO.out cC ak (fun g hg=>(HO.lt g hg).1);have hl5:(c.ps.map pdF).length=l5:=by simpa using hl5
       rw[hl5] at hv hR;subst hv;have R5:=aa (hR.mh Bo.out ak ak);replace R2:=aa (R2.aI (fun k hk s=>HK.block k hk (fun q9=>by rcases q9 with q9|q9;exact s.2 q9;omega)) (fun _ _ s=>s));replace R4:=aa (R4.aI (fun k hk s=>HK.block k hk (fun q9=>by rcases q9 with q9|q9;exact s.2 q9;omega)) (fun _ _ s=>s));replace R1:=aa (R1.aI (fun k hk s=>HK.block k hk (fun q9=>by rcases q9 with q9|q9;exact s.2 q9;omega)) (fun _ _ s=>s));replace R3:=aa (R3.aI (fun k hk s=>HK.block k hk (fun q9=>by rcases q9 with q9|q9;exact s.2 q9;omega)) (fun _ _ s=>s));replace Br:=aa ((HK.block (w.heap.size+1) af (fun s=>by rcases s with s|s <;> omega)).trans Br.out);replace Bk:=BkR;replace BoX:=Bo;replace HBX:=HBW;clear BkR Bo HBW h5 hR HV HO HK hl5 hkl hk hKs hXs;generalize wr=X3 at*;obtain⟨k0,k1,k2,k3,k4,k5⟩:=cs6 Bk;obtain⟨o0,o1,o2,o3,o4,o5⟩:=cs6 BoX;obtain⟨r0,r1,r2,r3,r4,r5⟩:=cs6 Br;have hXs:=HBX.size;obtain⟨fr0,fr1,fr2,fr3,fr4,fr5⟩:=eb;go_wp2;refine bodyPost_ret (v:=.agg #[.slice p1 l1 q1,.slice p2 l2 q2,.slice p3 l3 q3,.slice p4 l4 q4,.slice p5 l5 q5,.int .i64 c.now]) (by simp[results,Tryz.results23,go_sem, *]) rfl ⟨⟨p1,l1,q1,p2,l2,q2,p3,l3,q3,p4,l4,q4,p5,l5,q5⟩,rfl,⟨?_,?_,?_,?_,?_⟩,sb1 (sb1 (sb1 (sb1 (sb1 (sb1 (HBX.out))))))⟩
       ·exact (R1.aI (S':=fun k=>w.heap.size<=k) (fun k hk s=>cV (by have s1:X.heap.size<=k:=s.1;omega)) (fun k _ s=>by have s1:X.heap.size<=k:=s.1;show w.heap.size<=k;omega))
       ·exact (R2.aI (S':=fun k=>w.heap.size<=k) (fun k hk s=>cV (by have s1:W.heap.size<=k:=s.1;omega)) (fun k _ s=>by have s1:W.heap.size<=k:=s.1;show w.heap.size<=k;omega))
       ·exact (R3.aI (S':=fun k=>w.heap.size<=k) (fun k hk s=>cV (by have s1:X1.heap.size<=k:=s.1;omega)) (fun k _ s=>by have s1:X1.heap.size<=k:=s.1;show w.heap.size<=k;omega))
       ·exact (R4.aI (S':=fun k=>w.heap.size<=k) (fun k hk s=>cV (by have s1:W.heap.size<=k:=s.1;omega)) (fun k _ s=>by have s1:W.heap.size<=k:=s.1;show w.heap.size<=k;omega))
       ·exact (R5.aI (S':=fun k=>w.heap.size<=k) (fun k hk s=>cV (by have s1:X2.heap.size<=k:=s.1;omega)) (fun k _ s=>by have s1:X2.heap.size<=k:=s.1;show w.heap.size<=k;omega))

structure Co where
 c:Cl
 n:ByteArray
 p:Int
def cl0:Cl:=⟨[],[],[],[],[],0⟩
def co0 (p:Int):Co:=⟨cl0,⟨#[]⟩,p⟩
def ad0:Ad:=⟨none,0,0,none,0,0,none,0,0,none,0,0,none,0,0⟩
theorem rA (w:World) (S:Nat->Prop):bs w ad0 cl0.raw S:=⟨fun _=>1,ax.nil _ _ _ _ _ (by decide),ax.nil _ _ _ _ _ (by decide),ax.nil _ _ _ _ _ (by decide),ax.nil _ _ _ _ _ (by decide),ax.nil _ _ _ _ _ (by decide)⟩
def sl (Is:Co->Prop) (w:World) (e:Ending) (w':World):Prop:=∃g o,e=.returned (.agg #[.slice g.a1 g.l1 g.c1,.slice g.a2 g.l2 g.c2,.slice g.a3 g.l3 g.c3,.slice g.a4 g.l4 g.c4,.slice g.a5 g.l5 g.c5,.int .i64 o.c.now,.string o.n,.int .i64 o.p])/\Is o/\bs w' g o.c.raw (fun k=>w.heap.size<=k)/\Below w.heap.size w w'
def rL (Is:Co->Prop) (w:World) (e:Ending) (w':World):Prop:=∃g o,e=.returned (.agg #[.slice g.a1 g.l1 g.c1,.slice g.a2 g.l2 g.c2,.slice g.a3 g.l3 g.c3,.slice g.a4 g.l4 g.c4,.slice g.a5 g.l5 g.c5,.int .i64 o.c.now,.string o.n,.int .i64 o.p])/\Is o/\aL w' g o.c.raw/\Below w.heap.size w w'

theorem dP (g g':Ad) (o:Co) (w:World) (hr:aL w g o.c.raw) (hr':aL w g' o.c.raw):
  Calls Tryz.prog 9 #[.agg #[.slice g.a1 g.l1 g.c1,.slice g.a2 g.l2 g.c2,.slice g.a3 g.l3 g.c3,.slice g.a4 g.l4 g.c4,.slice g.a5 g.l5 g.c5,.int .i64 o.c.now,.string o.n,.int .i64 o.p],.agg #[.slice g'.a1 g'.l1 g'.c1,.slice g'.a2 g'.l2 g'.c2,.slice g'.a3 g'.l3 g'.c3,.slice g'.a4 g'.l4 g'.c4,.slice g'.a5 g'.l5 g'.c5,.int .i64 o.c.now,.string o.n,.int .i64 o.p]] w fun e w'=>e=.returned (.bool true)/\Below w.heap.size w w':=by
 have HR:=aa hr;have HR':=aa hr';have HB:=aa (sB w.heap.size w);clear hr hr';go_enter Tryz.func9,Tryz.ntmps9;go_wp2_with fail;refine (dJ g g' o.c _ (HR.below (HB.trans ((aB _ _ _).mono HB.size))) (HR'.below (HB.trans ((aB _ _ _).mono HB.size)))).mono ?_;rintro e w1 ⟨rfl,hb⟩;obtain⟨HA0,HA1,hbx⟩:=bS hb;have Ba:=aa HA0;have Bb:=aa HA1;replace HB:=upB HB hbx;clear hb hbx HA0 HA1;obtain⟨a0,a1,a2,a3,a4,a5,a6,a7⟩:=cs8 Ba;obtain⟨b0,b1,b2,b3,b4,b5,b6,b7⟩:=cs8 Bb;go_wp2;go_ret;exact⟨rfl,HB.out⟩

theorem gH (g:Ad) (o:Co) (N:Int) (S:Nat->Prop) (w:World) (ho:bs w g o.c.raw S) (hS:∀k,S k->k<w.heap.size) (hN:0<N) (hb:cj N o.c.raw<=1152921504606846976):
  Calls Tryz.prog 12 #[.agg #[.slice g.a1 g.l1 g.c1,.slice g.a2 g.l2 g.c2,.slice g.a3 g.l3 g.c3,.slice g.a4 g.l4 g.c4,.slice g.a5 g.l5 g.c5,.int .i64 o.c.now,.string o.n,.int .i64 o.p],.int .i64 N] w fun e w'=>e=.returned (.int .i64 (cj N o.c.raw))/\bs w' g (mkC N o.c.raw) S/\az S w w':=by
 have HO:=aa (ho.below (aj w (.cells #[.slice g.a1 g.l1 g.c1,.slice g.a2 g.l2 g.c2,.slice g.a3 g.l3 g.c3,.slice g.a4 g.l4 g.c4,.slice g.a5 g.l5 g.c5,.int .i64 o.c.now,.string o.n,.int .i64 o.p] 38)));have HS:=aa hS;clear ho hS;go_enter Tryz.func12,Tryz.ntmps12;go_wp2_with fail;refine (c_ g o.c N S _ HO.out (fun k s=>by have:=HS.out k s;simp;omega) hN hb).mono ?_;rintro e w1 ⟨rfl,ho,hk⟩;have HO1:=aa ho;have HK:=aa ((az.ct (S:=S) (aj w (.cells #[.slice g.a1 g.l1 g.c1,.slice g.a2 g.l2 g.c2,.slice g.a3 g.l3 g.c3,.slice g.a4 g.l4 g.c4,.slice g.a5 g.l5 g.c5,.int .i64 o.c.now,.string o.n,.int .i64 o.p] 38))).trans hk);clear ho hk;go_wp2;go_ret;exact⟨rfl,HO1.out,HK.out⟩

theorem gQ (g:Ad) (o:Co) (N:Int) (w:World) (hr:aL w g (mkC N o.c.raw)) (hN:0<N) (hb:cj N o.c.raw<=1152921504606846976):
  Calls Tryz.prog 13 #[.agg #[.slice g.a1 g.l1 g.c1,.slice g.a2 g.l2 g.c2,.slice g.a3 g.l3 g.c3,.slice g.a4 g.l4 g.c4,.slice g.a5 g.l5 g.c5,.int .i64 o.c.now,.string o.n,.int .i64 o.p],.int .i64 N] w fun e w'=>e=.returned (.int .i64 (cj N o.c.raw))/\Below w.heap.size w w':=by
 have HR:=aa (hr.below (aj w (.cells #[.slice g.a1 g.l1 g.c1,.slice g.a2 g.l2 g.c2,.slice g.a3 g.l3 g.c3,.slice g.a4 g.l4 g.c4,.slice g.a5 g.l5 g.c5,.int .i64 o.c.now,.string o.n,.int .i64 o.p] 38)));clear hr;obtain⟨M,hM⟩:∃M,M=cj N o.c.raw:=⟨_,rfl⟩;have hM0:¬M<0:=by rw[hM];have:=gG N o.c.raw;omega
 have HM:=aa hM;clear hM;go_enter Tryz.func13,Tryz.ntmps13;go_wp2_with fail;refine (fe g o.c o.c.now N _ HR.out hN hb).mono ?_;rintro e w1 ⟨rfl,hb1⟩;rw[<-HM.out];have HB:=aa (aJ hb1).2;clear hb1;go_wp2;go_ret;exact⟨by rw[<-HM.out];rfl,HB.out⟩

theorem ig (p:Int) (w:World):
  Calls Tryz.prog 22 #[.int .i64 p] w fun e w'=>e=.returned (.agg #[.slice none 0 0,.slice none 0 0,.slice none 0 0,.slice none 0 0,.slice none 0 0,.int .i64 0,.string ⟨#[]⟩,.int .i64 p])/\Below w.heap.size w w':=by
 go_enter Tryz.func22,Tryz.ntmps22;go_wp2;exact bodyPost_ret (v:=.agg #[.slice none 0 0,.slice none 0 0,.slice none 0 0,.slice none 0 0,.slice none 0 0,.int .i64 0,.string ⟨#[]⟩,.int .i64 p]) (by simp[results,Tryz.results22,go_sem]) rfl ⟨rfl,aj _ _⟩

def wo {α:Type} (nm:α->ByteArray) (t:ByteArray) (xs:List α):List α:=xs.filter fun x=> !((nm x).toList==t.toList)
theorem mm {α:Type} {nm:α->ByteArray} {t:ByteArray} {xs:List α} {k:Nat} {x:α} (h:xs[k]?=some x) (hn:((nm x).toList==t.toList)=false):wo nm t (xs.take (k+1))=wo nm t (xs.take k)++[x]:=by
 unfold wo;rw[tc,h,List.filter_append];simp[hn]
theorem rr {α:Type} {nm:α->ByteArray} {t:ByteArray} {xs:List α} {k:Nat} {x:α} (h:xs[k]?=some x) (hn:((nm x).toList==t.toList)=true):wo nm t (xs.take (k+1))=wo nm t (xs.take k):=by
 unfold wo;rw[tc,h,List.filter_append];simp[hn]
theorem pj {α:Type} (nm:α->ByteArray) (t:ByteArray) (xs:List α):(wo nm t xs).length<=xs.length:=List.length_filter_le _ _
structure Sel {α β:Type} (xs ys:List α) (vss ws:List β) (k:Nat) (f:Nat->Nat):Prop where
 len:ws.length=ys.length
 y:∀j,j<ys.length->ys[j]?=xs[f j]?
 v:∀j,j<ys.length->ws[j]?=vss[f j]?
 lt:∀j,j<ys.length->f j<k
 inj:∀i j,i<ys.length->j<ys.length->f i=f j->i=j
theorem Sel.nil {α β:Type} (xs:List α) (vss:List β) (k:Nat) (f:Nat->Nat):Sel xs [] vss [] k f:=⟨rfl,fun j h=>by simp at h,fun j h=>by simp at h,fun j h=>by simp at h,fun i j h=>by simp at h⟩
theorem Sel.up {α β:Type} {xs ys:List α} {vss ws:List β} {k:Nat} {f:Nat->Nat} (h:Sel xs ys vss ws k f):Sel xs ys vss ws (k+1) f:=⟨h.len,h.y,h.v,fun j hj=>Nat.lt_succ_of_lt (h.lt j hj),h.inj⟩
theorem Sel.push {α β:Type} {xs ys:List α} {vss ws:List β} {k:Nat} {f:Nat->Nat} (h:Sel xs ys vss ws k f) {x:α} {u:β} (hx:xs[k]?=some x) (hu:vss[k]?=some u):Sel xs (ys++[x]) vss (ws++[u]) (k+1) (fun j=>if j=ys.length then k else f j):=by
 have hl:=h.len;refine⟨by simp[hl],fun j hj=>?_,fun j hj=>?_,fun j hj=>?_,fun i j hi hj e=>?_⟩
 ·by_cases e:j=ys.length
  ·subst e;simp[hx]
  ·have hj':j<ys.length:=by simp at hj;omega
   rw[sX hj',if_neg e];exact h.y j hj'
 ·by_cases e:j=ys.length
  ·subst e;rw[if_pos rfl,hu,tf af,hl,Nat.sub_self];rfl
  ·have hj':j<ys.length:=by simp at hj;omega
   rw[sX af,if_neg e];exact h.v j hj'
 ·by_cases e:j=ys.length
  ·simp only[if_pos e];omega
  ·have hj':j<ys.length:=by simp at hj;omega
   simp only[if_neg e];have:=h.lt j hj';omega
 ·by_cases e1:i=ys.length <;> by_cases e2:j=ys.length
  ·omega
  ·have hj':j<ys.length:=by simp at hj;omega
   simp only[if_pos e1,if_neg e2] at e;have:=h.lt j hj';omega
  ·have hi':i<ys.length:=by simp at hi;omega
   simp only[if_pos e2,if_neg e1] at e;have:=h.lt i hi';omega
  ·simp only[if_neg e1,if_neg e2] at e;exact h.inj i j (by simp at hi;omega) (by simp at hj;omega) e
theorem Sel.oX {w:World} {S:Nat->Prop} {m k:Nat} {α:Type} {F:α->List Fv} {xs ys:List α} {vss ws:List (List Value)} {H:Nat->Nat->Nat} {f:Nat->Nat} (h:Sel xs ys vss ws k f) (hv:aH w S m (xs.map F) vss H):aH w S m (ys.map F) ws (fun j=>H (f j)):=
 hv.sr f (by rw[h.len,td]) (fun j hj=>by rw[td] at hj;rw[sK,sK,h.y j hj]) (fun j hj=>by rw[td] at hj;exact h.v j hj) (fun i j hi hj e=>h.inj i j (by simpa using hi) (by simpa using hj) e)
theorem mn {vs:List Value} {a0 a1 a2 a3 a4 a5 a6:Value} (hl:vs.length=7) (h0:vs[0]?=some a0) (h1:vs[1]?=some a1) (h2:vs[2]?=some a2) (h3:vs[3]?=some a3) (h4:vs[4]?=some a4) (h5:vs[5]?=some a5) (h6:vs[6]?=some a6):vs=[a0,a1,a2,a3,a4,a5,a6]:=by
 apply List.ext_getElem?;intro i;rcases i with _|_|_|_|_|_|_|i
 ·exact h0
 ·exact h1
 ·exact h2
 ·exact h3
 ·exact h4
 ·exact h5
 ·exact h6
 ·rw[s9 af,s9 aT]
theorem cU {w:World} {S:Nat->Prop} {m g:Nat} {rs:List (List Fv)} {vss:List (List Value)} {H:Nat->Nat->Nat} (hV:aH w S m rs vss H) (hc:∀(k:Nat) u,vss.flatten[k]?=some u->w.cell? ⟨g,k,none⟩=some u) {k:Nat} {vs:List Value} (hk:vss[k]?=some vs) {i:Nat} {u:Value} (hi:i<m) (hu:w.cell? ⟨g,k*m+i,none⟩=some u):vs[i]?=some u:=by
 have hl:=hV.all k vs hk;have h1:vs[i]?=some (vs[i]'(by omega)):=sA _;have h2:=hc _ _ (fj hV.all hk h1);rw[hu] at h2;rw[h1];exact h2.symm

theorem dm.se {w2 w3 w4:World} {d:Ad} {c:Cr} {B:Nat} {P:Nat->Nat} (h:dm w2 d c (fun k=>B<=k) P) (hB:B<=w2.heap.size) {a:Option Addr} {l cp:Nat} {rs:List (List Fv)} (hN:ax w3 a l cp 7 56 rs (fun k=>((B<=k/\P k=1)/\k<w2.heap.size)\/w2.heap.size+1<=k)) (hb:Below w2.heap.size w2 w3) (hk:∀k,B<=k->¬k=w2.heap.size->w4.heap[k]?=w3.heap[k]?):bs w4 ⟨a,l,cp,d.a2,d.l2,d.c2,d.a3,d.l3,d.c3,d.a4,d.l4,d.c4,d.a5,d.l5,d.c5⟩ ⟨rs,c.k,c.v,c.x,c.p⟩ (fun k=>B<=k):=by
 refine⟨fun k=>if w2.heap.size+1<=k then 1 else P k,?_,?_,?_,?_,?_⟩
 ·refine hN.aI (fun k _ s=>hk k (by rcases s with s|s;exact s.1.1;omega) (by rcases s with s|s <;> omega)) (fun k _ s=>?_);rcases s with s|s
  ·exact⟨s.1.1,by show (if w2.heap.size+1<=k then 1 else P k)=1;rw[if_neg af];exact s.1.2⟩
  ·exact⟨by show B<=k;omega,if_pos s⟩
 ·exact h.k.aI (fun k hl s=>(hk k s.1 af).trans (hb.block k hl)) (fun k hl s=>⟨s.1,by show (if w2.heap.size+1<=k then 1 else P k)=2;rw[if_neg af];exact s.2⟩)
 ·exact h.v.aI (fun k hl s=>(hk k s.1 af).trans (hb.block k hl)) (fun k hl s=>⟨s.1,by show (if w2.heap.size+1<=k then 1 else P k)=3;rw[if_neg af];exact s.2⟩)
 ·exact h.x.aI (fun k hl s=>(hk k s.1 af).trans (hb.block k hl)) (fun k hl s=>⟨s.1,by show (if w2.heap.size+1<=k then 1 else P k)=4;rw[if_neg af];exact s.2⟩)
 ·exact h.p.aI (fun k hl s=>(hk k s.1 af).trans (hb.block k hl)) (fun k hl s=>⟨s.1,by show (if w2.heap.size+1<=k then 1 else P k)=5;rw[if_neg af];exact s.2⟩)
theorem gp (p:Int):cj 1 (co0 p).c.raw<=1152921504606846976:=by simp[co0,cl0,Cl.raw,cj,aw]

def bY (c:Cl) (t:ByteArray):Nat->Prop
 | 0=>8000<t.size
 | 1=>¬8000<t.size/\¬bV c
 | 2=>¬8000<t.size/\bV c/\hit Nd.n c.ns t=false
 | _=>False
def cB (c:Cl) (t:ByteArray) (n:Nd):Prop:=¬8000<t.size/\bV c/\c.ns[pl Nd.n c.ns t]?=some n/\n.n=t
theorem bY.uniq {c:Cl} {t:ByteArray} {i j:Nat} (h:bY c t i) (h':bY c t j):i=j:=by
 rcases i with _|_|_|i <;> rcases j with _|_|_|j <;> first
  | rfl
  | exact absurd h h'.1
  | exact absurd h' h.1
  | exact absurd h.2.1 h'.2
  | exact absurd h'.2.1 h.2
  | exact h.elim
  | exact h'.elim
theorem cB.no {c:Cl} {t:ByteArray} {n:Nd} {i:Nat} (h:cB c t n) (h':bY c t i):False:=by
 rcases i with _|_|_|i
 ·exact h.1 h'
 ·exact h'.2 h.2.1
 ·have h9:=h'.2.2;rw[(cx h.2.1.2.1.1.2.2 h.2.2.1 h.2.2.2).2] at h9;cases h9
 ·exact h'
theorem cB.uniq {c:Cl} {t:ByteArray} {n m:Nd} (h:cB c t n) (h':cB c t m):n=m:=by
 have h1:=h.2.2.1;rw[h'.2.2.1] at h1;exact (sx h1).symm

def rO (c:Cl) (t:ByteArray) (E:Nat->Addr) (w0 w:World) (e:Ending) (w':World):Prop:=
 Below w.heap.size w w'/\((∃i,i<9/\bY c t i/\e=.returned (.tuple #[.agg #[.string ⟨#[]⟩,.string ⟨#[]⟩,.int .i64 0,.int .i64 0,.int .i64 0,.bool false,.slice none 0 0],.iface 195 (.pointer (some (E i)))]))\/
  (∃(x:Nd) (va:Option Addr) (vl vc:Nat),cB c t x/\e=.returned (.tuple #[.agg #[.string x.n,.string x.z,.int .i64 x.c,.int .i64 x.s,.int .i64 x.u,.bool x.d,.slice va vl vc],.nilIface])/\ar w0 va vl vc x.zs))

theorem kl (d:Ad) (c:Cl) (t:ByteArray) (E:Nat->Addr) (w0:World) (w:World) (hr0:aL w0 d c.raw) (hb0:Below w0.heap.size w0 w) (hG:Ers w E):
  Calls Tryz.prog 83 #[.agg #[.slice d.a1 d.l1 d.c1,.slice d.a2 d.l2 d.c2,.slice d.a3 d.l3 d.c3,.slice d.a4 d.l4 d.c4,.slice d.a5 d.l5 d.c5,.int .i64 c.now],.string t] w (rO c t E w0 w):=by
 have HR0:=aa hr0;have HB0:=aa hb0;have HR:=aa (hr0.below hb0);obtain⟨HE,HB⟩:=fu;clear hr0 hb0 hG;by_cases hl:8000<t.size
 ·have ev:=(HE.below (aB w (.cells (clv d c.now) 36) (.cells #[.string ⟨#[]⟩,.string ⟨#[]⟩,.int .i64 0,.int .i64 0,.int .i64 0,.bool false,.slice none 0 0] 56))).v0;go_enter Tryz.func83,Tryz.ntmps83;go_wp2_with fail;refine (om t _ hl).mono ?_;rintro e w1 ⟨rfl,rfl⟩;go_wp2;go_region;go_wp2;exact bodyPost_ret (v:=.tuple #[.agg #[.string ⟨#[]⟩,.string ⟨#[]⟩,.int .i64 0,.int .i64 0,.int .i64 0,.bool false,.slice none 0 0],.iface 195 (.pointer (some (E 0)))]) kM rfl ⟨Below.jq (aB _ _ _),.inl ⟨0,by decide,hl,rfl⟩⟩
 go_enter Tryz.func83,Tryz.ntmps83;go_wp2_with fail;refine (o_ t _ hl).mono ?_;rintro e w1 ⟨rfl,rfl⟩;go_wp2_with fail;refine (j9 d c _ (HR.below (HB.trans ((aB _ _ _).mono HB.size))) (HE.below (HB.trans ((aB _ _ _).mono HB.size))).ens).mono ?_;rintro e w1 ⟨r,rfl,hi,hb⟩;obtain⟨HA0,HA1,hbx⟩:=bS hb;have Bk:=aa HA0;have Br:=aa HA1;replace HB:=upB HB hbx;clear hb hbx HA0 HA1;have HI:=aa hi;clear hi;cases r
 ·obtain⟨k0,k1,k2,k3,k4,k5⟩:=cs6 Bk;have ltk_1:=ae Bk.out;obtain⟨r0,r1,r2,r3,r4,r5,r6⟩:=cs7 Br;have ltr_1:=ae Br.out;obtain⟨fr0,fr1,fr2,fr3,fr4,fr5⟩:=eb;have fr6:=aq Br.out 6;have ev:=(HE.below HB.out).v1;have evl:=bg HE.v1;have evn:¬9=w.heap.size+1:=af
  go_wp2;go_region;go_wp2;exact bodyPost_ret (v:=.tuple #[.agg #[.string ⟨#[]⟩,.string ⟨#[]⟩,.int .i64 0,.int .i64 0,.int .i64 0,.bool false,.slice none 0 0],.iface 195 (.pointer (some (E 1)))]) kM rfl ⟨Below.jq (sb1 (sb1 (sb1 (sb1 (sb1 (sb1 (sb1 (HB.out)))))))),.inl ⟨1,by decide,⟨hl,fun h=>(by have:=HI.2 h;cases this)⟩,rfl⟩⟩
 have HT:=aa (HI.1 bA);clear HI;obtain⟨k0,k1,k2,k3,k4,k5⟩:=cs6 Bk;have ltk_1:=ae Bk.out;go_wp2_with fail;refine (dn d c.now c.ns t w0 _ HR0.n (HB0.trans (HB.mono HB0.size))).mono ?_;rintro e w2 ⟨hb,hf⟩;clear k0 k1 k2 k3 k4 k5 ltk_1;replace Bk:=upK Bk hb;replace Br:=upK Br hb;replace HB:=upB HB hb;clear hb;rcases hf with ⟨hh,x,va,vl,vc,hx,hn,rfl,z0,z1,hvr⟩|⟨hh,rfl⟩
 ·have HX:=aa (sw hx (sw hn hvr));clear hx hn z0 z1 hh hvr;obtain⟨k0,k1,k2,k3,k4,k5⟩:=cs6 Bk;have ltk_2:=ae Bk.out;obtain⟨r0,r1,r2,r3,r4,r5,r6⟩:=cs7 Br;have ltr_2:=ae Br.out;obtain⟨fr0,fr1,fr2,fr3,fr4,fr5⟩:=eb;have fr6:=aq Br.out 6;have hrl:w.heap.size+1<w2.heap.size:=ae Br.out;go_wp2;exact bodyPost_ret (v:=.tuple #[.agg #[.string x.n,.string x.z,.int .i64 x.c,.int .i64 x.s,.int .i64 x.u,.bool x.d,.slice va vl vc],.nilIface]) kM rfl ⟨tN (sb1 (sb1 (sb1 (sb1 (sb1 (sb1 (sb1 (HB.out)))))))) fZ _,.inr ⟨x,va,vl,vc,⟨hl,HT.out,HX.1,HX.2.1⟩,rfl,HX.2.2⟩⟩
 ·have HH:=aa hh;clear hh;obtain⟨k0,k1,k2,k3,k4,k5⟩:=cs6 Bk;have ltk_2:=ae Bk.out;obtain⟨r0,r1,r2,r3,r4,r5,r6⟩:=cs7 Br;have ltr_2:=ae Br.out;obtain⟨fr0,fr1,fr2,fr3,fr4,fr5⟩:=eb;have fr6:=aq Br.out 6;have ev:=(HE.below HB.out).v2;have evl:=bg HE.v2;have evn:¬3=w.heap.size+1:=af
  have evl2:3<w2.heap.size:=bg ev;have hrl:w.heap.size+1<w2.heap.size:=ae Br.out;go_wp2;go_region;go_wp2;exact bodyPost_ret (v:=.tuple #[.agg #[.string ⟨#[]⟩,.string ⟨#[]⟩,.int .i64 0,.int .i64 0,.int .i64 0,.bool false,.slice none 0 0],.iface 195 (.pointer (some (E 2)))]) kM rfl ⟨Below.jq (tN (sb1 (sb1 (sb1 (sb1 (sb1 (sb1 (sb1 (HB.out)))))))) fZ _),.inl ⟨2,by decide,⟨hl,HT.out,HH.out⟩,rfl⟩⟩

theorem lV (a:Option Addr) (len cap:Nat) (xs:List Nd) (t:ByteArray) (Q:Nat->Prop) (w:World) (ho:ax w a len cap 7 56 (xs.map ndF) Q) (hl:len<=8):
  Calls Tryz.prog 75 #[.slice a len cap,.string t] w fun e w'=> ∃a' l' c',e=.returned (.slice a' l' c')/\ax w' a' l' c' 7 56 ((wo Nd.n t xs).map ndF) (fun k=>Q k\/w.heap.size<=k)/\Below w.heap.size w w':=by
 have HR:=aa ho.row;have hxl:xs.length=len:=by simpa using ho.1
 obtain⟨vss,H,hV,hcell⟩:=ho.oX;have HV:=aa hV;have HC:=aa hcell;have hvl:vss.length=xs.length:=by rw[hV.len,td]
 clear ho hV hcell;obtain⟨i0,hi,hz0,hz1,hz2⟩:=info_parts eN;have HI0:=aa (sw hi (sw hz0 (sw hz1 hz2)));clear hi hz0 hz1 hz2;have hmcalled:∀(v:Value) (w:World),(method 343 56 v "loop.example/g00571/impl.called").run Tryz.prog w=.ok (179,v) w:=fun _ _=>by kernel_rfl
 go_enter Tryz.func75,Tryz.ntmps75;go_wp2;go_loopw [5,10] (fun vo vi wr=> ∃(k:Nat) (ws:List (List Value)) (f:Nat->Nat),k<=len/\vi=.int .i64 k/\Hid (wr.ownsRow w.heap.size 56 7 vo (wo Nd.n t (xs.take k)).length ws.flatten)/\Hid (Sel xs (wo Nd.n t (xs.take k)) vss ws k f)/\Hid (Below w.heap.size w wr)) (fun _ vi _=>len - (intOf vi).toNat);case atStart=>exact⟨0,[],fun _=>0,by omega,rfl,tr _ _ _ _,Sel.nil _ _ _ _,sB _ _⟩
 case round=>
  obtain⟨k,ws,f,hk,rfl,HO,HF,HB⟩:=hrel;have hBs:=HB.size;by_cases hlt:k<len
  ·obtain⟨b,o,x,rfl,hb,hx,hat⟩:=bq HR.out hlt;obtain⟨va,vl,vc,hvr,z0,z1,c0,c1,c2,c3,c4,c5,c6⟩:=aK hat;have hvk:vss[k]?=some [.string x.n,.string x.z,.int .i64 x.c,.int .i64 x.s,.int .i64 x.u,.bool x.d,.slice va vl vc]:=by
    have hkv:k<vss.length:=af
    have h1:=sA hkv;have hoz:o=0:=by
     have h2:0<(vss[k]).length:=by rw[HV.all k _ h1];decide
     obtain⟨g,e,_,_⟩:=HC.out _ _ (fj HV.all h1 (sA h2));cases e;rfl
    subst hoz;have hc2:∀(j:Nat) u,vss.flatten[j]?=some u->w.cell? ⟨b,j,none⟩=some u:=fun j u hj=>by
     obtain⟨g,e,_,h3⟩:=HC.out j u hj;cases e;exact h3
    rw[h1];refine congrArg some (mn (HV.all k _ h1) (cU HV.out hc2 h1 ak (by simpa using c0)) (cU HV.out hc2 h1 ak (by simpa using c1)) (cU HV.out hc2 h1 ak (by simpa using c2)) (cU HV.out hc2 h1 ak (by simpa using c3)) (cU HV.out hc2 h1 ak (by simpa using c4)) (cU HV.out hc2 h1 ak (by simpa using c5)) (cU HV.out hc2 h1 ak (by simpa using c6)))
   have HX:=aa hx;have HVK:=aa hvk;replace c0:=(ai HB.out hb).trans c0;replace c1:=(ai HB.out hb).trans c1;replace c2:=(ai HB.out hb).trans c2;replace c3:=(ai HB.out hb).trans c3;replace c4:=(ai HB.out hb).trans c4;replace c5:=(ai HB.out hb).trans c5;replace c6:=(ai HB.out hb).trans c6;have hbr:b<wr.heap.size:=sG hb hBs;clear hat hx hvk hvr z0 z1;have hn8:=pj Nd.n t (xs.take k);have hn9:(wo Nd.n t (xs.take k)).length<=k:=by rw[sU] at hn8;omega
   go_wp2_with fail;refine (ck x va vl vc _).mono ?_;rintro e w1 ⟨rfl,hb1⟩;obtain⟨hn1,hbx⟩:=aJ hb1;obtain⟨n0,n1,n2,n3,n4,n5,n6⟩:=cs7 hn1;have hs1:=ae hn1;have HO1:=aa (bD HO.out hbx);have HB1:=aa (HB.trans (hbx.mono hBs));clear hb1 hbx hn1 c0 c1 c2 c3 c4 c5 c6;cases hq:(x.n.toList==t.toList)
   ·have hq2:(x.n.toList !=t.toList)=true:=by simp[bne,hq]
    go_wp2_with (first|(at_builtin;refine wpList_append_own _ rfl _ _ 122 rfl w.heap.size 56 i0 (.agg #[.string ⟨#[]⟩,.string ⟨#[]⟩,.int .i64 0,.int .i64 0,.int .i64 0,.bool false,.slice none 0 0]) 7 88 Tryz.underlying122 HI0.1 HI0.2.1 HI0.2.2.1 HI0.2.2.2 rfl ak _ _ _ rfl (HO1.alloc _) ⟨w1.heap.size,0,none⟩ 1 1 [.string x.n,.string x.z,.int .i64 x.c,.int .i64 x.s,.int .i64 x.u,.bool x.d,.slice va vl vc] rfl rfl ?c1 ?c2 ?c3 ?c4 ?c5 ?_));case c1=>exact cv _ _ _
    case c2=>intro u hu;simp only[tz,tx,or_false] at hu;rcases hu with rfl|rfl|rfl|rfl|rfl|rfl|rfl <;> rfl
    case c3=>unfold maxLen;omega
    case c4=>omega
    case c5=>simp;omega
    rintro v' w3 hown3 hgrow -;have HO3:Hid (w3.ownsRow w.heap.size 56 7 v' (wo Nd.n t (xs.take (k+1))).length (ws++([[.string x.n,.string x.z,.int .i64 x.c,.int .i64 x.s,.int .i64 x.u,.bool x.d,.slice va vl vc]]:List (List Value))).flatten):=by
     show World.ownsRow _ _ _ _ _ _ _;rw[mm HX.out hq,sY,List.flatten_append];simpa using hown3
    have hF:=HF.push HX.out HVK.out;rw[<-mm HX.out hq] at hF;have HF3:=aa hF;have HB3:=aa ((HB1.trans ((aj _ _).mono HB1.size)).grown hgrow cC (fun g hg=>(HO1.lt g hg).1));clear hown3 hgrow hF;go_wp2;exact⟨⟨k+1,_,_,by omega,by go_num,HO3,HF3,HB3⟩,by simp[intOf];omega⟩
   ·have hq2:(x.n.toList !=t.toList)=false:=by simp[bne,hq]
    have HF3:=aa HF.up;rw[<-rr HX.out hq] at HF3 HO1;go_wp2;exact⟨⟨k+1,ws,f,by omega,by go_num,HO1,HF3,HB1⟩,by simp[intOf];omega⟩
  ·obtain rfl:len=k:=af
   have h5:=HF.out;have HO5:=HO;rw[sE af] at h5 HO5;have h6:=(h5.oX (HV.below HB.out)).aI (w':=wr) (S':=fun k=>Q k\/w.heap.size<=k) (fun _ _ _ _=>rfl) (fun _ _ s=>.inl s);obtain⟨a',c',e,hR⟩:=h6.own HO5.out aT ak (fun g hg=>.inr (HO5.lt g hg).1);subst e;have HR5:=aa hR;clear h5 h6 hR HF HO HO5;go_wp2;go_ret;exact⟨a',_,c',rfl,by simpa using HR5.out,HB.out⟩

theorem eH (w:World) (t t' ty e e':TypeId) (i:TypeInfo) (ht:Tryz.prog.underlying t=some (.slice e)) (ht':Tryz.prog.underlying t'=some (.slice e')) (hi:Tryz.prog.info? e=some i) (a:Option Addr) (l c:Nat) (b:Value):(tM #[t,t'] ty #[.slice a l c,b]).run Tryz.prog w=(tM #[t,t] ty #[.slice a l c,b]).run Tryz.prog w:=by
 simp[tM,run_underlying ht,run_underlying ht',sizeOf,typeInfo,hi]
theorem cE {w:World} {ops:Array Oper} {rest:List Oper} {o:Oper} {a:Act} {Q:Exit->Act->World->Prop} (hgd:o.guard=none) (s x:Operand) (t t':TypeId)
  (ho:o.op=.call { callee:=.builtin .append,args:=#[s,x],argTypes:=#[t,t'] })
  (base:Nat) (e e':TypeId) (i:TypeInfo) (z:Value) (size bytes:Nat) (ht:Tryz.prog.underlying t=some (.slice e)) (ht':Tryz.prog.underlying t'=some (.slice e')) (hi:Tryz.prog.info? e=some i) (hz:i.zero=some z)
  (hsize:i.size=size) (hby:i.bytes=bytes) (hzs:z.cells.size=size) (hsz:0<size)
  (v:Value) (n:Nat) (xs:List Value) (hs:a.eval s=v) (hown:w.ownsRow base e size v n xs)
  (ad:Addr) (m c:Nat) (news:List Value) (hx:a.eval x=.slice (some ad) m c) (hl:news.length=m*size) (hnews:∀j u,news[j]?=some u->w.cell? (ad.add j)=some u) (h1:∀u∈news,u.oneCell'=true)
  (h63:n+m<=maxLen) (hbytes:(n+m)*bytes<=140737488355328) (hbase:base<=w.heap.size)
  (h:∀v' w',w'.ownsRow base e size v' (n+m) (xs++news)->w.grownBy w' v.ownBlock->wpList Tryz.prog ops Q rest (a.put o.dst v') w'):wpList Tryz.prog ops Q (o ::rest) a w:=by
 refine wpList_plain hgd fun K hK=>?_;obtain⟨v',w',hr,h2,h3,h4⟩:=run_append_own (P:=Tryz.prog) w base t o.type e i z size bytes ht hi hz hsize hby hzs hsz v n xs hown ad m c news hl hnews h1 h63 hbytes hbase;obtain⟨va,vl,vc,rfl⟩:∃a l c,v=.slice a l c:=by
  rcases hown.2 with ⟨rfl,_⟩|⟨g,cap,cur,rfl,_⟩
  ·exact⟨_,_,_,rfl⟩
  ·exact⟨_,_,_,rfl⟩
 rw[<-eH w t t' o.type e e' i ht ht' hi] at hr;unfold Oper.wp execOp;simp only[ho,resolve,invoke,builtin,Sem.run_bind,Sem.run_pure,Result.andThen_ok,List.map_toArray,List.map_cons,List.map_nil,hs,hx,hr];exact hK _ _ (h v' w' h2 h3)
theorem ch (w:World) (dT sT ty elem:TypeId) (g o dLen dCap:Nat) (a:Addr) (sLen sCap m:Nat) (cur:Array Value) (t:TypeId) (cs:List Value) (i:TypeInfo)
  (hu:Tryz.prog.underlying dT=some (.slice elem)) (hi:Tryz.prog.info? elem=some i) (hs:i.size=m)
  (hg:w.heap[g]?=some (.cells cur t (0,0))) (hn:cs.length=Nat.min sLen dLen*m)
  (hsrc:∀j v,cs[j]?=some v->w.cell? (a.add j)=some v) (hfit:o+cs.length<=cur.size) (h1:∀v∈cs,v.oneCell'=true):
  (ug #[dT,sT] ty #[.slice (some ⟨g,o,none⟩) dLen dCap,.slice (some a) sLen sCap]).run Tryz.prog w=
   .ok (goInt (Nat.min sLen dLen)) (w.setRow g (cur.toList.take o++cs++cur.toList.drop (o+cs.length)).toArray):=by
 have hl:=run_loadCells_list (P:=Tryz.prog) w a cs hsrc;have hst:=run_storeCells_at Tryz.prog g o t cs 0 cur w hg (by simpa using hfit) h1;rw[hn] at hl;simp[ug,run_underlying hu,Builtin.lenOf,Builtin.firstCells,sizeOf,typeInfo,hi,hs,hl,hst]
theorem oB {a b c m:Nat} {X ys cur c1:List Value} (hX:cur.take b=X) (hc:cur.length=c) (h1:a+m<=b) (h2:b+m<=c) (hy:ys.length=m) (h:c1=cur.take (a+m)++X.drop a++cur.drop (a+m+(X.drop a).length)):(c1.take a++(ys++c1.drop (a+m))).take (b+m)=X.take a++ys++X.drop a:=by
 have hXl:X.length=b:=by rw[<-hX,sU];omega
 have e1:c1.take a=X.take a:=by
  rw[h,tD,List.take_append_of_le_length iy,List.take_take,<-hX,List.take_take];congr 1;omega
 have e2:c1.drop (a+m)=X.drop a++cur.drop (a+m+(X.drop a).length):=by
  rw[h,tD];exact List.drop_left' iy
 rw[e1,e2,<-tD,<-tD];exact ud pt
theorem l_ {a b m:Nat} {X ys R R2 S:List Value} (hX:R.take a=X.take a) (hXl:X.length=b) (h1:a<=b) (hy:ys.length=m) (h:R2=R.take a++ys++S) (T:List Value):(R2.take (a+m)++X.drop a++T).take (b+m)=X.take a++ys++X.drop a:=by
 have e1:R2.take (a+m)=X.take a++ys:=by
  rw[h,hX];exact ud (by simp only[sY,sU];omega)
 rw[e1];exact ud pt
theorem et (w:World) (g:Nat) (cs:Array Value):w.grownBy (w.setRow g cs) (some g):=⟨rfl,rfl,rfl,by simp[World.setRow],fun k _ h=>setRow_other w g k cs (fun e=>h (by rw[e]))⟩
theorem dB {ops:Array Oper} {o:Oper} {a:Act} {w:World} {K:Act->World->Prop} {Q:Exit->Act->World->Prop} {E:Prop}
  (hg:o.guard=none) (d x:Operand) (dT sT:TypeId) (hop:o.op=Op.call { callee:=Callee.builtin Builtin.copy,args:=#[d,x],argTypes:=#[dT,sT] })
  (v u:Value) (hd:a.eval d=v) (hx:a.eval x=u) {v':Value} {w':World} (hr:(ug #[dT,sT] o.type #[v,u]).run Tryz.prog w=.ok v' w') (hK:K (a.put o.dst v') w'):
  if tA o (yielded ops a.tmps)=true then Oper.wp Tryz.prog o a w K Q else E:=by
 have hw:tA o (yielded ops a.tmps)=true:=by simp[tA,hg]
 rw[if_pos hw];unfold Oper.wp;simp[execOp,hop,resolve,invoke,builtin,hd,hx,hr,Result.andThen];exact hK

def cw {α:Type} (p:Nat) (x:α) (xs:List α):List α:=xs.take p++[x]++xs.drop p
theorem fM {α:Type} {p:Nat} {x:α} {xs:List α} (h:p<=xs.length):(cw p x xs).length=xs.length+1:=by
 simp only[cw,sY,sU,tv,tX,List.length_nil];omega
theorem oC {α β:Type} (f:α->β) (p:Nat) (x:α) (xs:List α):(cw p x xs).map f=cw p (f x) (xs.map f):=by simp[cw,List.map_take,List.map_drop]
theorem lr {α:Type} {p:Nat} {x:α} {xs:List α} (h:p<=xs.length) (j:Nat) (hj:j<xs.length+1):(cw p x xs)[j]?=(xs++[x])[if j<p then j else if j=p then xs.length else j - 1]?:=by
 unfold cw;by_cases h1:j<p
 ·rw[if_pos h1,tD,sX iy,sX af,sW,if_pos h1]
 ·rw[if_neg h1];by_cases h2:j=p
  ·subst h2;have hl:(xs.take j).length=j:=by rw[sU,Nat.min_eq_left h]
   have e1:(xs.take j++[x]++xs.drop j)[j]?=some x:=by
    rw[tD,tf af,hl,Nat.sub_self];rfl
   rw[e1,if_pos rfl];simp
  ·rw[if_neg h2,tf (by simp only[sY,sU,tX,List.length_nil];omega),sX af,tO];congr 1;simp only[sY,sU,tX,List.length_nil];omega
theorem l8 {α:Type} {m p:Nat} {vss:List (List α)} (h:∀(j:Nat) vs,vss[j]?=some vs->vs.length=m) (hp:p<=vss.length) (vs:List α):(cw p vs vss).flatten=vss.flatten.take (p*m)++vs++vss.flatten.drop (p*m):=by
 have hl:((vss.take p).flatten).length=p*m:=by
  rw[di (m:=m) (fun j v hv=>by
   rw[sW] at hv
   split at hv
   ·exact h j v hv
   ·cases hv),sU,Nat.min_eq_left hp]
 have e:vss.flatten=(vss.take p).flatten++(vss.drop p).flatten:=by rw[<-List.flatten_append,List.take_append_drop]
 have e1:vss.flatten.take (p*m)=(vss.take p).flatten:=by rw[e];exact ud hl
 have e2:vss.flatten.drop (p*m)=(vss.drop p).flatten:=by rw[e];exact List.drop_left' hl
 rw[e1,e2];simp[cw]
theorem aH.ins {w:World} {S:Nat->Prop} {m:Nat} {rs:List (List Fv)} {vss:List (List Value)} {H:Nat->Nat->Nat} (h:aH w S m rs vss H) {r:List Fv} {vs:List Value} {hh:Nat->Nat} (hr:r.length=m) (hvs:vs.length=m) (hc:∀(i:Nat) f,r[i]?=some f->∃v,vs[i]?=some v/\f.Fr w (hh i) S v)
  (hn:∀(i:Nat) zs,r[i]?=some (.l zs)->zs≠[]->∀(j:Nat) r' (i':Nat) zs',rs[j]?=some r'->r'[i']?=some (.l zs')->zs'≠[]->¬H j i'=hh i)
  (h1:∀(i i':Nat) zs zs',r[i]?=some (.l zs)->zs≠[]->r[i']?=some (.l zs')->zs'≠[]->i=i') {p:Nat} (hp:p<=rs.length):∃H',aH w S m (cw p r rs) (cw p vs vss) H':=by
 have hl:=h.len;have e1:(cw p r rs).length=rs.length+1:=fM hp;have e2:(cw p vs vss).length=vss.length+1:=fM af;refine⟨_,(h.push hr hvs hc hn h1).sr (fun j=>if j<p then j else if j=p then rs.length else j - 1) af (fun j hj=>lr hp j af) (fun j hj=>?_) (fun j j' hj hj' e=>?_)⟩
 ·have:=lr (x:=vs) (xs:=vss) (p:=p) af j af;rw[hl] at this;exact this
 ·split at e <;> split at e
  ·exact e
  all_goals (try split at e) <;> (try split at e) <;> omega

theorem gk (a:Option Addr) (n cap i base vb:Nat) (X ys:List Value) (w:World) (ho:w.ownsRow base 56 7 (.slice a n cap) n X) (hn:n<=8) (hin:i<=n) (hbs:base<=w.heap.size) (hy:w.heap[vb]?=some (.cells ys.toArray 56 (0,0))) (hyl:ys.length=7) (hy1:∀u∈ys,u.oneCell'=true) (hX1:∀u∈X,u.oneCell'=true) (hne:∀g,a=some ⟨g,0,none⟩->¬vb=g):
  Calls Tryz.prog 96 #[.slice a n cap,.int .i64 i,.slice (some ⟨vb,0,none⟩) 1 1] w fun e w'=> ∃v',e=.returned v'/\w'.ownsRow base 56 7 v' (n+1) (X.take (i*7)++ys++X.drop (i*7))/\w.grownBy w' ((.slice a n cap:Value).ownBlock):=by
 obtain⟨i0,hi,hz0,hz1,hz2⟩:=info_parts eN;have HI0:=aa (sw hi (sw hz0 (sw hz1 hz2)));clear hi hz0 hz1 hz2;have hXl:X.length=n*7:=ho.1;have hnc:n<=cap/\cap<=9223372036854775807:=by
  rcases ho.2 with ⟨h1,h2⟩|⟨g,cp,cur,h1,_,_,h4,h5,_⟩
  ·cases h1;omega
  ·cases h1;unfold maxLen at h5;omega
 have hyn:∀(j:Nat) u,ys[j]?=some u->w.cell? ((⟨vb,0,none⟩:Addr).add j)=some u:=fun j u hu=>by
  rw[tB,ay hy,th];simpa using hu
 have HYN:=aa hyn;have HO:=aa ho;have HY:=aa hy;have hvl:vb<w.heap.size:=ae hy;have HX1:=aa hX1;have HY1:=aa hy1;clear hyn ho hy hX1 hy1;by_cases hie:i=n
 ·subst hie;have e1:X.take (i*7)++ys++X.drop (i*7)=X++ys:=by rw[sE af,List.drop_of_length_le af,List.append_nil]
  rw[e1];clear e1;have hc0:i<=cap:=hnc.1;have hq:cap=i\/¬cap=i:=Classical.em _;rcases hq with rfl|hcap
  ·exact qI
  ·exact qI
 have hil:i<n:=af
 obtain⟨g,cur,rfl,hbg,hg,hcs,htk⟩:∃g cur,a=some ⟨g,0,none⟩/\base<=g/\w.heap[g]?=some (.cells cur 56 (0,0))/\cur.size=cap*7/\cur.toList.take (n*7)=X:=by
  rcases HO.2 with ⟨h1,h2⟩|⟨g,cp,cur,h1,h2,h3,h4,h5,h6,h7⟩
  ·cases h1;omega
  ·cases h1;exact⟨g,cur,rfl,h2,h3,h6,h7⟩
 have hvg:¬vb=g:=hne g rfl;clear hne;have hcell:∀(j:Nat) u,X[j]?=some u->w.cell? ⟨g,j,none⟩=some u:=fun j u hj=>by
  rw[ay hg];rw[<-htk,sW] at hj;split at hj
  ·simpa using hj
  ·cases hj
 have hdl:(X.drop (i*7)).length=(n - i)*7:=by rw[tv,hXl,Nat.sub_mul]
 have hgl:g<w.heap.size:=ae hg;by_cases hroom:n+1<=cap
 ·have hcp1:∀ty dc sc,(ug #[122,122] ty #[.slice (some ⟨g,(i+1)*7,none⟩) (n - i) dc,.slice (some ⟨g,i*7,none⟩) (n+1 - i) sc]).run Tryz.prog w.drew=.ok (goInt (Nat.min (n+1 - i) (n - i))) (w.drew.setRow g (cur.toList.take ((i+1)*7)++X.drop (i*7)++cur.toList.drop ((i+1)*7+(X.drop (i*7)).length)).toArray):=fun ty dc sc=>
   ch w.drew 122 122 ty 56 g ((i+1)*7) (n - i) dc ⟨g,i*7,none⟩ (n+1 - i) sc 7 cur 56 (X.drop (i*7)) i0 Tryz.underlying122 HI0.1 HI0.2.2.1 hg (by rw[hdl];simp only[Nat.min_def];split <;> omega) (fun j u hj=>by
    rw[tO] at hj;rw[tB]
    exact hcell _ u hj) (by rw[hdl,hcs];omega) (fun u hu=>HX1.out u (List.mem_of_mem_drop hu))
  obtain⟨cur1,hcur1⟩:∃c1:List Value,c1=cur.toList.take ((i+1)*7)++X.drop (i*7)++cur.toList.drop ((i+1)*7+(X.drop (i*7)).length):=⟨_,rfl⟩;rw[<-hcur1] at hcp1;have hc1l:cur1.length=cap*7:=by rw[hcur1];simp only[sY,sU,tv,hXl,tW,hcs];omega
  obtain⟨W1,hW1⟩:∃W1,W1=w.drew.setRow g cur1.toArray:=⟨_,rfl⟩;rw[<-hW1] at hcp1;have hg1:W1.heap[g]?=some (.cells cur1.toArray 56 (0,0)):=by rw[hW1];exact setRow_heap w.drew g _ _ 56 _ hg
  have hv1:W1.heap[vb]?=w.heap[vb]?:=by rw[hW1];exact setRow_other w.drew g vb _ hvg
  have hcp2:∀ty dc,(ug #[122,30] ty #[.slice (some ⟨g,i*7,none⟩) (n+1 - i) dc,.slice (some ⟨vb,0,none⟩) 1 1]).run Tryz.prog W1=.ok (goInt (Nat.min 1 (n+1 - i))) (W1.setRow g (cur1.take (i*7)++ys++cur1.drop (i*7+ys.length)).toArray):=fun ty dc=>by
   have:=ch W1 122 30 ty 56 g (i*7) (n+1 - i) dc ⟨vb,0,none⟩ 1 1 7 cur1.toArray 56 ys i0 Tryz.underlying122 HI0.1 HI0.2.2.1 hg1 (by rw[hyl];simp only[Nat.min_def];split <;> omega) (fun j u hj=>by
    rw[tB,ay (hv1.trans HY.out),th]
    simpa using hj) (by simp only[uh];rw[hc1l,hyl];omega) HY1.out
   simpa using this
  have hov:∀lb cb,(callFunc 113 #[.slice (some ⟨vb,0,none⟩) 1 1,.slice (some ⟨g,(i+1)*7,none⟩) lb cb]).run Tryz.prog w=.ok (.value (.bool false)) w:=fun lb cb=>by
   rw[run_callFunc_extern Tryz.func113 an an an (e:=Extern.SlicesOverlaps.overlaps #[30,30] #[4]) an,
    Lib.run_overlaps_apart w 30 4 56 Tryz.underlying30 7 (fun w=>by kernel_rfl) ⟨vb,0,none⟩ ⟨g,(i+1)*7,none⟩ 1 1 lb cb hvg 56 56 ys.toArray.size cur.size (by simp[World.shape?,HY.out]) (by simp[World.shape?,hg]) (Nat.ne_of_gt (by rw[hcs];omega)) (aq HY.out _) (aq HY.out _)]
   rfl
  have hb2:¬cap=i+1:=af
  have hb4:¬cap=i:=af
  have hb5:¬((i:Int)=(n:Int)):=af
  have hb6:¬((cap:Int)<(n:Int)+1):=af
  have mixed:Tryz.prog.follows .mixedOrders=true:=an
  have hw1:IntKind.i64.wrap ((i:Int)+1)=(i:Int)+1:=by rw[IntKind.wrap_i64];omega
  have hb1:(0:Int)<=(i:Int)+1:=af
  have hin:i<=n:=af
  have htn:((i:Int)+1).toNat=i+1:=af
  have hb3:(i:Int)<=(n:Int)+1:=af
  have u0:=run_underlying Tryz.underlying122;have HG:=aa hg;have HG1:=aa hg1;have HW1:=aa hW1;have HC1:=aa hcur1;have HTK:=aa htk;clear hg hg1 hW1 hcur1 htk hv1 hcell hdl hie;go_enter Tryz.func96,Tryz.ntmps96;go_wp2_with (simp only[hov]);go_region_law_o (refine dB rfl _ _ 122 122 rfl _ _ kL kL (hcp1 (3) (cap - (i+1)) (cap - i)) ?_);go_wp2_with (at_builtin;refine wpList_copy_run _ rfl _ _ 122 30 rfl _ _ rfl rfl (hcp2 _ _) ?_);go_ret;refine⟨_,rfl,⟨?_,Or.inr ⟨g,cap,(cur1.take (i*7)++(ys++cur1.drop (i*7+7))).toArray,rfl,hbg,setRow_heap W1 g _ _ _ _ HG1.out,hroom,by unfold maxLen;omega,?_,?_⟩⟩,?_⟩
  ·simp only[sY,sU,tv];omega
  ·simp only[uh,sY,sU,tv,hc1l];omega
  ·have e:=oB (a:=i*7) (b:=n*7) (c:=cap*7) (m:=7) (c1:=cur1) HTK.out (by rw[tW,hcs]) af af hyl (by rw[HC1.out,show (i+1)*7=i*7+7 by omega]);rw[show (n+1)*7=n*7+7 by omega];simpa using e
  ·have h1:w.grownBy w.drew (some g):=⟨rfl,rfl,rfl,sy _,fun _ _ _=>rfl⟩;have h2:w.drew.grownBy W1 (some g):=by rw[HW1.out];exact et w.drew g _
   exact (h1.trans h2).trans (et W1 g _)
 have hcn:cap=n:=af
 subst hcn;obtain⟨N,hN⟩:∃N,N=w.heap.size:=⟨_,rfl⟩;obtain⟨G,hG⟩:∃G,G=grownCap w (cap+1) cap 56:=⟨_,rfl⟩;obtain⟨ROW,hROW⟩:∃R:Array Value,R=(X.take (i*7)).toArray++Builtin.zeroCells (.agg #[.string ⟨#[]⟩,.string ⟨#[]⟩,.int .i64 0,.int .i64 0,.int .i64 0,.bool false,.slice none 0 0]:Value).cells (cap+1 - i)++Builtin.zeroCells (.agg #[.string ⟨#[]⟩,.string ⟨#[]⟩,.int .i64 0,.int .i64 0,.int .i64 0,.bool false,.slice none 0 0]:Value).cells (G - (cap+1)):=⟨_,rfl⟩;obtain⟨W1,hW1⟩:∃W1,W1=w.drew.alloc (.cells ROW 56):=⟨_,rfl⟩;have hGn:cap+1<=G:=by rw[hG];exact grownCap_ge w _ _ _
 have hG63:G<=9223372036854775807:=by
  have:=grownCap_le_maxLen w (cap+1) cap 56 fc;rw[<-hG] at this;unfold maxLen at this;omega
 have hRs:ROW.size=G*7:=by
  rw[hROW];simp only[Array.size_append,uh,sU,size_zeroCells,hXl];rw[show (.agg #[.string ⟨#[]⟩,.string ⟨#[]⟩,.int .i64 0,.int .i64 0,.int .i64 0,.bool false,.slice none 0 0]:Value).cells.size=7 from rfl];omega
 have hRt:ROW.toList.take (i*7)=X.take (i*7):=by
  rw[hROW,Array.toList_append,Array.toList_append,tD];exact ud iy
 have hrz:∀ty,(tM #[122,3] ty #[.slice (some ⟨g,0,none⟩) i cap,.int .i64 ((cap:Int)+1 - (i:Int))]).run Tryz.prog w=.ok (.slice (some ⟨N,0,none⟩) (cap+1) G) W1:=fun ty=>by
  have hold:(Builtin.firstCells i0.size i (.slice (some ⟨g,0,none⟩) i cap)).run Tryz.prog w.drew=.ok (X.take (i*7)).toArray w.drew:=by
   rw[HI0.2.2.1];exact run_firstCells_some w.drew 7 i ⟨g,0,none⟩ i cap (X.take (i*7)) iy (fun j v hj=>by
    rw[tB,th];rw[sW] at hj
    split at hj
    ·exact hcell j v hj
    ·cases hj)
  have h:=Lib.run_append_grow_zeros w 122 3 ty 56 i0 _ .i64 .i64 Tryz.underlying122 Tryz.underlying3 HI0.1 HI0.2.1 (some ⟨g,0,none⟩) i cap (X.take (i*7)) hold (cap+1 - i) af (by rw[HI0.2.2.1];decide) af af (by rw[HI0.2.2.2];omega) (by rw[HI0.2.2.2];exact growslice_fits af af);rw[show i+(cap+1 - i)=cap+1 by omega,<-hG,<-hROW,<-hW1,<-hN] at h;rw[show (cap:Int)+1 - (i:Int)=((cap+1 - i:Nat):Int) by omega];exact h
 have hgN:W1.heap[N]?=some (.cells ROW 56 (0,0)):=by rw[hW1,hN];exact Go.heap_alloc_new w.drew _
 have hg1:W1.heap[g]?=w.heap[g]?:=by rw[hW1];exact Go.heap_alloc_old w.drew _ hgl
 have hv1:W1.heap[vb]?=w.heap[vb]?:=by rw[hW1];exact Go.heap_alloc_old w.drew _ hvl
 obtain⟨R2,hR2⟩:∃R2:List Value,R2=ROW.toList.take (i*7)++ys++ROW.toList.drop (i*7+ys.length):=⟨_,rfl⟩;obtain⟨W2,hW2⟩:∃W2,W2=W1.setRow N R2.toArray:=⟨_,rfl⟩;have hcpA:∀ty dc,(ug #[122,30] ty #[.slice (some ⟨N,i*7,none⟩) (cap+1 - i) dc,.slice (some ⟨vb,0,none⟩) 1 1]).run Tryz.prog W1=.ok (goInt (Nat.min 1 (cap+1 - i))) W2:=fun ty dc=>by
  rw[hW2,hR2];exact ch W1 122 30 ty 56 N (i*7) (cap+1 - i) dc ⟨vb,0,none⟩ 1 1 7 ROW 56 ys i0 Tryz.underlying122 HI0.1 HI0.2.2.1 hgN (by rw[hyl];simp only[Nat.min_def];split <;> omega) (fun j u hj=>by
   rw[tB,ay (hv1.trans HY.out),th]
   simpa using hj) (by rw[hRs,hyl];omega) HY1.out
 have hR2l:R2.length=G*7:=by
  rw[hR2];simp only[sY,sU,tv,tW,hRs,hyl];omega
 have hgN2:W2.heap[N]?=some (.cells R2.toArray 56 (0,0)):=by rw[hW2];exact setRow_heap W1 N _ _ 56 _ hgN
 have hgn:¬g=N:=af
 have hg2:W2.heap[g]?=w.heap[g]?:=by rw[hW2,setRow_other W1 N g _ hgn];exact hg1
 obtain⟨R3,hR3⟩:∃R3:List Value,R3=R2.take ((i+1)*7)++X.drop (i*7)++R2.drop ((i+1)*7+(X.drop (i*7)).length):=⟨_,rfl⟩;obtain⟨W3,hW3⟩:∃W3,W3=W2.drew.setRow N R3.toArray:=⟨_,rfl⟩;have hcpB:∀ty dc sc,(ug #[122,122] ty #[.slice (some ⟨N,(i+1)*7,none⟩) (cap - i) dc,.slice (some ⟨g,i*7,none⟩) (cap - i) sc]).run Tryz.prog W2.drew=.ok (goInt (Nat.min (cap - i) (cap - i))) W3:=fun ty dc sc=>by
  have:=ch W2.drew 122 122 ty 56 N ((i+1)*7) (cap - i) dc ⟨g,i*7,none⟩ (cap - i) sc 7 R2.toArray 56 (X.drop (i*7)) i0 Tryz.underlying122 HI0.1 HI0.2.2.1 hgN2 (by rw[hdl];simp only[Nat.min_def];split <;> omega) (fun j u hj=>by
   rw[tO] at hj;have hc:=hcell _ u hj;rw[tB];rw[<-hc]
   exact tj (w:=w) (w':=W2.drew) hg2) (by rw[hdl,uh,hR2l];omega) (fun u hu=>HX1.out u (List.mem_of_mem_drop hu))
  rw[hW3,hR3];simpa only[List.toList_toArray] using this
 have hW3o:∀k,¬k=N->W3.heap[k]?=W1.heap[k]?:=fun k hk=>by rw[hW3,setRow_other W2.drew N k _ hk];exact (congrArg (fun z:World=>z.heap[k]?) hW2).trans (setRow_other W1 N k _ hk)
 have hfin:w.grownBy W3 (some g):=by
  have h0:w.grownBy w.drew (some g):=⟨rfl,rfl,rfl,sy _,fun _ _ _=>rfl⟩;have h1:w.grownBy W1 (some g):=by rw[hW1];exact h0.trans (World.grownBy_alloc w.drew _ _)
  refine⟨?_,?_,?_,?_,fun k hk hkg=>(hW3o k af).trans (h1.block k hk hkg)⟩
  ·rw[hW3,hW2];exact h1.os
  ·rw[hW3,hW2];exact h1.tape
  ·rw[hW3,hW2];exact h1.output
  ·rw[hW3,hW2];exact sC h1.size (by simp[World.setRow])
 have hrow:W3.ownsRow base 56 7 (.slice (some ⟨N,0,none⟩) (cap+1) G) (cap+1) (X.take (i*7)++ys++X.drop (i*7)):=by
  refine⟨?_,Or.inr ⟨N,G,R3.toArray,rfl,by omega,by rw[hW3];exact setRow_heap W2.drew N _ _ 56 _ hgN2,hGn,by unfold maxLen;omega,?_,?_⟩⟩
  ·simp only[sY,sU,tv];omega
  ·rw[hR3];simp only[uh,sY,sU,tv,hR2l];omega
  ·have e:=l_ (a:=i*7) (b:=cap*7) (m:=7) (R2:=R2) hRt hXl af hyl hR2 (R2.drop ((i+1)*7+(X.drop (i*7)).length));rw[hR3,show (cap+1)*7=cap*7+7 by omega,show (i+1)*7=i*7+7 by omega];rw[show (i+1)*7=i*7+7 by omega] at e;simpa using e
 have hGi:¬G=i:=af
 have hGim:¬G=i+1:=af
 have hci:¬cap=i:=af
 have hz2:¬((i:Int)=(cap:Int)):=af
 have hz3:(cap:Int)<(cap:Int)+1:=af
 have mixed:Tryz.prog.follows .mixedOrders=true:=an
 have hw1:IntKind.i64.wrap ((i:Int)+1)=(i:Int)+1:=by rw[IntKind.wrap_i64];omega
 have hb1:(0:Int)<=(i:Int)+1:=af
 have hin:i<=cap:=af
 have htn:((i:Int)+1).toNat=i+1:=af
 have hb3:(i:Int)<=(cap:Int):=af
 have u0:=run_underlying Tryz.underlying122;have HF:=aa (sw hrow hfin);clear hN hrow hfin hW3o hW3 hW2 hR3 hg2 hgN2 hR2l hR2 hv1 hg1 hgN hRt hRs hW1 hROW hG hcell hdl hie hg htk hcs HO;go_enter Tryz.func96,Tryz.ntmps96;go_wp2_with (first
  | (at_builtin;refine Lib.wpList_append_run _ rfl _ _ _ _ rfl _ _ rfl rfl _ _ (hrz _) ?_)
  | (at_builtin;refine wpList_copy_run _ rfl _ _ 122 30 rfl _ _ rfl rfl (hcpA _ _) ?_))
 go_region_law_o (refine dB rfl _ _ 122 122 rfl _ _ kL kL (hcpB 3 (G - (i+1)) (cap - i)) ?_);go_wp2;go_ret;exact⟨_,rfl,HF.1,HF.2⟩

theorem eZ (a:Option Addr) (n cap:Nat) (X:List Value) (w:World) (hn:n<=8) (hXl:X.length=n*7) (hX1:∀u∈X,u.oneCell'=true) (hXc:∀(j:Nat) u,X[j]?=some u->∃g,a=some ⟨g,0,none⟩/\w.cell? ⟨g,j,none⟩=some u):
  Calls Tryz.prog 97 #[.slice a n cap] w fun e w'=> ∃a' c',e=.returned (.slice a' n c')/\w'.ownsRow w.heap.size 56 7 (.slice a' n c') n X/\Below w.heap.size w w':=by
 obtain⟨i0,hi,hz0,hz1,hz2⟩:=info_parts eN;have HI0:=aa (sw hi (sw hz0 (sw hz1 hz2)));clear hi hz0 hz1 hz2;have HX1:=aa hX1;have HXC:=aa hXc;have heq:∀w:World,(binOp .eql 122 (.slice a n cap) (.slice none 0 0)).run Tryz.prog w=.ok (.bool a.isNone) w:=fun w=>Lib.run_eql_slice_nil w 122 56 a n cap 0 0 Tryz.underlying122;clear hX1 hXc;cases a with
 | none=>
  obtain rfl:X=[]:=by
   rcases X with _|⟨u,X⟩
   ·rfl
   ·obtain⟨g,e,_⟩:=HXC.out 0 u rfl
    cases e
  obtain rfl:n=0:=by simp at hXl;omega
  go_enter Tryz.func97,Tryz.ntmps97
  go_wp2
  go_ret;exact⟨none,0,rfl,tr _ _ _ _,sB _ _⟩
 | some ad=>
  obtain⟨ab,ao,asp⟩:=ad
  have hnew:∀(j:Nat) u,X[j]?=some u->(w.alloc (.cells #[] 56)).cell? ((⟨ab,ao,asp⟩:Addr).add j)=some u:=fun j u hu=>by
   obtain⟨g,e,hc⟩:=HXC.out j u hu
   cases e
   rw[tB,th];have hlt:=bg hc;rw[<-hc];exact tj (heap_alloc_old w _ hlt)
  have HN:=aa hnew;have HO:Hid ((w.alloc (.cells #[] 56)).ownsRow w.heap.size 56 7 (.slice (some ⟨w.heap.size,0,none⟩) 0 0) 0 []):=World.ownsRow_made w #[] 0 (sy _) (Nat.zero_le _) aT;clear hnew HXC
  go_enter Tryz.func97,Tryz.ntmps97
  go_wp2_with (at_builtin;refine cE rfl _ _ 122 122 rfl w.heap.size 56 56 i0 (.agg #[.string ⟨#[]⟩,.string ⟨#[]⟩,.int .i64 0,.int .i64 0,.int .i64 0,.bool false,.slice none 0 0]) 7 88 Tryz.underlying122 Tryz.underlying122 HI0.1 HI0.2.1 HI0.2.2.1 HI0.2.2.2 rfl ak _ _ _ rfl HO.out ⟨ab,ao,asp⟩ n cap X rfl hXl HN.out HX1.out fc af aT ?_)
  intro v' w' h1 h2
  obtain⟨a',c',rfl⟩:∃a' c',v'=.slice a' n c':=by
   rcases h1.2 with ⟨rfl,h0⟩|⟨g,cp,cu,rfl,_⟩
   ·exact⟨none,0,by rw[h0]⟩
   ·exact⟨_,_,rfl⟩
  have H1:=aa h1;have H2:=aa h2;clear h1 h2
  go_wp2
  go_ret;refine⟨a',c',rfl,H1.out,((aj w (.cells #[] 56)).grown H2.out aT (fun g hg=>?_))⟩
  simp[Value.ownBlock] at hg
  omega

theorem jw (a:Option Addr) (n cap:Nat) (xs:List Nd) (x:Nd) (va:Option Addr) (vl vc hh:Nat) (Q Q2:Nat->Prop) (w:World) (ho:ax w a n cap 7 56 (xs.map ndF) Q) (hn:n<=8) (hxf:∀(i:Nat) f,(ndF x)[i]?=some f->∃v,[.string x.n,.string x.z,.int .i64 x.c,.int .i64 x.s,.int .i64 x.u,.bool x.d,.slice va vl vc][i]?=some v/\f.Fr w hh Q2 v) (hq:∀k,Q k->Q2 k->False):
  Calls Tryz.prog 76 #[.slice a n cap,.agg #[.string x.n,.string x.z,.int .i64 x.c,.int .i64 x.s,.int .i64 x.u,.bool x.d,.slice va vl vc]] w fun e w'=> ∃a' l' c',e=.returned (.slice a' l' c')/\ax w' a' l' c' 7 56 ((cw (pl Nd.n xs x.n) x xs).map ndF) (fun k=>(Q k\/Q2 k)\/w.heap.size<=k)/\Below w.heap.size w w':=by
 have HR:=aa ho.row;have hxl:xs.length=n:=by simpa using ho.1
 obtain⟨vss,H,hV,hcell⟩:=ho.oX;have hvl:vss.length=n:=by rw[hV.len,td,hxl]
 have hfl:vss.flatten.length=n*7:=by rw[di hV.all,hvl]
 have HV:=aa hV;have HC:=aa hcell;have HF:=aa hxf;have HQ:=aa hq;clear ho hV hcell hxf hq;have hmcalled:∀(v:Value) (w:World),(method 343 56 v "loop.example/g00571/impl.called").run Tryz.prog w=.ok (179,v) w:=fun _ _=>by kernel_rfl
 obtain⟨j,hj⟩:∃j,j=pl Nd.n xs x.n:=⟨_,rfl⟩;have hjn:j<=n:=by rw[hj,<-hxl];exact List.findIdx_le_length
 have HJ:=aa hj;have HFIN:Hid (∀(w4:World) v4 base,w.heap.size<=base->Below w.heap.size w w4->w4.ownsRow base 56 7 v4 (n+1) (vss.flatten.take (j*7)++[.string x.n,.string x.z,.int .i64 x.c,.int .i64 x.s,.int .i64 x.u,.bool x.d,.slice va vl vc]++vss.flatten.drop (j*7))->∃a' c',v4=.slice a' (n+1) c'/\ax w4 a' (n+1) c' 7 56 ((cw (pl Nd.n xs x.n) x xs).map ndF) (fun k=>(Q k\/Q2 k)\/w.heap.size<=k)):=fun w4 v4 base hbs hB4 ho4=>by
  rw[<-l8 HV.all af] at ho4;have hV4:=(HV.below hB4).aI (w':=w4) (S':=fun k=>(Q k\/Q2 k)\/w.heap.size<=k) (fun _ _ _ _=>rfl) (fun _ _ s=>.inl (.inl s));obtain⟨H4,hV5⟩:=hV4.ins (p:=j) (r:=ndF x) (vs:=[.string x.n,.string x.z,.int .i64 x.c,.int .i64 x.s,.int .i64 x.u,.bool x.d,.slice va vl vc]) (hh:=fun _=>hh) rfl rfl (fun i f hf=>by
   obtain⟨v,h1,h2⟩:=HF.out i f hf
   exact⟨v,h1,h2.aI (fun cu _ q=>hB4.block _ (ae q)) (fun _ s=>.inl (.inr s))⟩) (fun i zs h hz k r i2 zs2 hr2 hz2 hne e=>by
  obtain⟨v,_,h2⟩:=HF.out i _ h;obtain⟨_,_,_,_,_,_,_,_,h3⟩:=h2;have hkv:k<vss.length:=by rw[HV.len];exact (sv.1 hr2).1
  obtain⟨v',_,h5⟩:=HV.cell k r _ hr2 (sA hkv) i2 _ hz2;obtain⟨_,_,_,_,_,_,_,_,h6⟩:=h5;rcases h3 with h3|⟨_,h3,_⟩
  ·exact hz h3
  ·rcases h6 with h6|⟨_,h6,_⟩
   ·exact hne h6
   ·rw[e] at h6;exact HQ.out _ h6 h3) (fun i i2 zs zs2 h _ h2 _=>by
  rcases i with _|_|_|_|_|_|_|i <;> simp[ndF] at h <;> rcases i2 with _|_|_|_|_|_|_|i2 <;> simp[ndF] at h2 <;> rfl) (by rw[td];omega)
  have h45:aH w4 (fun k=>(Q k\/Q2 k)\/w.heap.size<=k) 7 ((cw j x xs).map ndF) (cw j [.string x.n,.string x.z,.int .i64 x.c,.int .i64 x.s,.int .i64 x.u,.bool x.d,.slice va vl vc] vss) H4:=by rw[oC];exact hV5
  have hle:((cw j x xs).map ndF).length=n+1:=by rw[td,fM af,hxl]
  obtain⟨a',c',e,hR⟩:=h45.own ho4 hle.symm ak (fun g hg=>.inr (by have:=(ho4.lt g hg).1;omega));rw[hle] at e hR;rw[hj] at hR;exact⟨a',c',e,hR⟩
 have HCL:Hid (∀W,Below w.heap.size w W->∀(k:Nat) u,vss.flatten[k]?=some u->∃g,a=some ⟨g,0,none⟩/\W.cell? ⟨g,k,none⟩=some u):=fun W hW k u hu=>by
  obtain⟨g,h1,_,h3⟩:=HC.out k u hu;exact⟨g,h1,(ai hW (bg h3)).trans h3⟩
 have HV1:=aa HV.one;clear HV HC HF HQ hj;go_enter Tryz.func76,Tryz.ntmps76;go_wp2_with fail;refine (ck x va vl vc _).mono ?_;rintro e w1 ⟨rfl,hb1⟩;obtain⟨hn1,hbx⟩:=aJ hb1;have HN1:=aa hn1;have HB1:=aa hbx;clear hb1 hn1 hbx;go_wp2_with fail;refine (eX a n cap xs x.n _ (HR.below HB1.out)).mono ?_;rintro e w2 ⟨rfl,hb2⟩;have HN2:=aa ((hb2.block w.heap.size (ae HN1.out)).trans HN1.out);have HB2:=upB HB1 hb2;clear hb2 HN1 HB1;rw[<-HJ.out];generalize hit Nd.n xs x.n=bb;have hs2:w.heap.size<w2.heap.size:=ae HN2.out;have HBD:Hid (Below w.heap.size w w2.drew):=Below.jq HB2.out;obtain⟨n0,n1,n2,n3,n4,n5,n6⟩:=cs7 (show w2.drew.heap[w.heap.size]?=_ from HN2.out);have hcl1:Calls Tryz.prog 97 #[.slice a n cap] w2.drew fun e w3=> ∃a3 c3,e=.returned (.slice a3 n c3)/\Hid (w3.ownsRow w2.heap.size 56 7 (.slice a3 n c3) n vss.flatten)/\Hid (Below w.heap.size w w3)/\w2.heap.size<=w3.heap.size/\w.heap.size<w3.heap.size/\w3.heap[w.heap.size]?=some (.cells (nov x va vl vc) 56 (0,0)):=by
  refine (eZ a n cap vss.flatten w2.drew hn hfl HV1.out (HCL.out _ HBD.out)).mono ?_;rintro e w3 ⟨a3,c3,rfl,ho3,hb3⟩;have hs3:w2.heap.size<=w3.heap.size:=hb3.size;exact⟨a3,c3,rfl,ho3,HBD.trans (hb3.mono HBD.size),hs3,by omega,(hb3.block w.heap.size hs2).trans (show w2.drew.heap[w.heap.size]?=_ from HN2.out)⟩
 have hcl2:Calls Tryz.prog 97 #[.slice a n cap] (w2.alloc (.cells (nov x va vl vc) 56)).drew fun e w3=> ∃a3 c3,e=.returned (.slice a3 n c3)/\Hid (w3.ownsRow (w2.heap.size+1) 56 7 (.slice a3 n c3) n vss.flatten)/\Hid (Below w.heap.size w w3)/\w2.heap.size+1<=w3.heap.size/\Hid (w3.heap[w2.heap.size]?=some (.cells (nov x va vl vc) 56 (0,0))):=by
  have hbl:=Below.jq (HB2.alloc HB2.size (.cells (nov x va vl vc) 56));have hsz:(w2.alloc (.cells (nov x va vl vc) 56)).drew.heap.size=w2.heap.size+1:=aT
  refine (eZ a n cap vss.flatten _ hn hfl HV1.out (HCL.out _ hbl)).mono ?_;rintro e w3 ⟨a3,c3,rfl,ho3,hb3⟩;have hs3:=hb3.size;rw[hsz] at ho3 hs3;exact⟨a3,c3,rfl,ho3,hbl.trans (hb3.mono hbl.size),hs3,(hb3.block w2.heap.size (by rw[hsz];omega)).trans (show (w2.alloc (.cells (nov x va vl vc) 56)).drew.heap[w2.heap.size]?=_ from heap_alloc_new w2 _)⟩
 have hin1:∀(w3:World) a3 c3,w3.ownsRow w2.heap.size 56 7 (.slice a3 n c3) n vss.flatten->Below w.heap.size w w3->w2.heap.size<=w3.heap.size->Calls Tryz.prog 96 #[.slice a3 n c3,.int .i64 j,.slice (some ⟨w3.heap.size,0,none⟩) 1 1] (w3.alloc (.cells (nov x va vl vc) 56)) fun e w4=> ∃a' c',e=.returned (.slice a' (n+1) c')/\Hid (ax w4 a' (n+1) c' 7 56 ((cw (pl Nd.n xs x.n) x xs).map ndF) (fun k=>(Q k\/Q2 k)\/w.heap.size<=k))/\Hid (Below w.heap.size w w4):=fun w3 a3 c3 ho3 hB3 hs3=>by
  refine (gk a3 n c3 j w2.heap.size w3.heap.size vss.flatten [.string x.n,.string x.z,.int .i64 x.c,.int .i64 x.s,.int .i64 x.u,.bool x.d,.slice va vl vc] (w3.alloc (.cells (nov x va vl vc) 56)) (ho3.alloc _) hn hjn cC (heap_alloc_new w3 _) rfl (by simp[Value.oneCell']) HV1.out (fun g hg e=>by
   have h9:=(ho3.lt g (by rw[hg];rfl)).2
   omega)).mono ?_
  rintro e w4 ⟨v4,rfl,ho4,hg4⟩;have hB5:=(hB3.alloc hB3.size (.cells (nov x va vl vc) 56)).grown hg4 cC (fun g hg=>by
   have h9:=(ho3.lt g hg).1
   omega)
  obtain⟨a',c',rfl,hR⟩:=HFIN.out w4 v4 _ af hB5 ho4;exact⟨a',c',rfl,hR,hB5⟩
 have hin2:∀(w3:World) a3 c3,w3.ownsRow (w2.heap.size+1) 56 7 (.slice a3 n c3) n vss.flatten->Below w.heap.size w w3->w2.heap.size+1<=w3.heap.size->w3.heap[w2.heap.size]?=some (.cells (nov x va vl vc) 56 (0,0))->Calls Tryz.prog 96 #[.slice a3 n c3,.int .i64 j,.slice (some ⟨w2.heap.size,0,none⟩) 1 1] w3 fun e w4=> ∃a' c',e=.returned (.slice a' (n+1) c')/\Hid (ax w4 a' (n+1) c' 7 56 ((cw (pl Nd.n xs x.n) x xs).map ndF) (fun k=>(Q k\/Q2 k)\/w.heap.size<=k))/\Hid (Below w.heap.size w w4):=fun w3 a3 c3 ho3 hB3 hs3 hy3=>by
  refine (gk a3 n c3 j (w2.heap.size+1) w2.heap.size vss.flatten [.string x.n,.string x.z,.int .i64 x.c,.int .i64 x.s,.int .i64 x.u,.bool x.d,.slice va vl vc] w3 ho3 hn hjn hs3 hy3 rfl (by simp[Value.oneCell']) HV1.out (fun g hg e=>by
   have h9:=(ho3.lt g (by rw[hg];rfl)).1
   omega)).mono ?_
  rintro e w4 ⟨v4,rfl,ho4,hg4⟩;have hB5:=hB3.grown hg4 af (fun g hg=>by
   have h9:=(ho3.lt g hg).1
   omega)
  obtain⟨a',c',rfl,hR⟩:=HFIN.out w4 v4 _ af hB5 ho4;exact⟨a',c',rfl,hR,hB5⟩
 have C1:=aa hcl1;have C2:=aa hcl2;have I1:=aa hin1;have I2:=aa hin2;clear hcl1 hcl2 hin1 hin2 HFIN HCL HR HJ HBD HB2;have mixed:Tryz.prog.follows .mixedOrders=true:=an
 go_wp2;go_region_with (first
  | (go_at_call 97;refine C1.mono ?_;rintro e w3 ⟨a3,c3,rfl,HO3,HB3,hs3,hw3l,hx3⟩;obtain⟨m0,m1,m2,m3,m4,m5,m6⟩:=cs7 hx3;clear hx3)
  | (go_at_call 97;refine C2.mono ?_;rintro e w3 ⟨a3,c3,rfl,HO3,HB3,hs3,HY3⟩)
  | (go_at_call 96;refine (I1.out w3 a3 c3 HO3.out HB3.out hs3).mono ?_;rintro e w4 ⟨a',c',rfl,HR5,HB5⟩)
  | (go_at_call 96;refine (I2.out w3 a3 c3 HO3.out HB3.out hs3 HY3.out).mono ?_;rintro e w4 ⟨a',c',rfl,HR5,HB5⟩))
 all_goals (
  go_wp2
  go_ret
  exact⟨a',_,c',rfl,HR5.out,HB5.out⟩)

theorem kB {w:World} {b:Nat} {v0 v1 v2 v3 v4 v5 v6 v7 v8 v9 v10 v11 v12 v13 v14:Value} {T:TypeId} (h:w.heap[b]?=some (.cells #[v0,v1,v2,v3,v4,v5,v6,v7,v8,v9,v10,v11,v12,v13,v14] T (0,0))):w.cell? ⟨b,0,none⟩=some v0/\w.cell? ⟨b,1,none⟩=some v1/\w.cell? ⟨b,2,none⟩=some v2/\w.cell? ⟨b,3,none⟩=some v3/\w.cell? ⟨b,4,none⟩=some v4/\w.cell? ⟨b,5,none⟩=some v5/\w.cell? ⟨b,6,none⟩=some v6/\w.cell? ⟨b,7,none⟩=some v7/\w.cell? ⟨b,8,none⟩=some v8/\w.cell? ⟨b,9,none⟩=some v9/\w.cell? ⟨b,10,none⟩=some v10/\w.cell? ⟨b,11,none⟩=some v11/\w.cell? ⟨b,12,none⟩=some v12/\w.cell? ⟨b,13,none⟩=some v13/\w.cell? ⟨b,14,none⟩=some v14:=⟨ay h 0,ay h 1,ay h 2,ay h 3,ay h 4,ay h 5,ay h 6,ay h 7,ay h 8,ay h 9,ay h 10,ay h 11,ay h 12,ay h 13,ay h 14⟩
def n8 (c:Cl) (n:Nd):Cl:=⟨cw (pl Nd.n (wo Nd.n n.n c.ns) n.n) n (wo Nd.n n.n c.ns),c.ks,c.vs,c.xs,c.ps,c.now⟩
theorem oy (d:Ad) (c:Cl) (n:Nd) (va:Option Addr) (vl vc:Nat) (u0 now0:Int) (w:World) (hr:aL w d c.raw) (hs:Sm c) (hx:ar w va vl vc n.zs) (hvl:vl<=8001) (z0:n.n.size<=9223372036854775807) (z1:n.z.size<=9223372036854775807):
  Calls Tryz.prog 44 #[.agg #[.int .i64 u0,.int .i64 now0,.string n.n,.string n.z,.int .i64 n.c,.int .i64 n.s,.int .i64 n.u,.bool n.d,.slice va vl vc,.slice d.a1 d.l1 d.c1,.slice d.a2 d.l2 d.c2,.slice d.a3 d.l3 d.c3,.slice d.a4 d.l4 d.c4,.slice d.a5 d.l5 d.c5,.int .i64 c.now]] w fun e w'=> ∃d',e=.returned (.agg #[.slice d'.a1 d'.l1 d'.c1,.slice d'.a2 d'.l2 d'.c2,.slice d'.a3 d'.l3 d'.c3,.slice d'.a4 d'.l4 d'.c4,.slice d'.a5 d'.l5 d'.c5,.int .i64 c.now])/\bs w' d' (n8 c n).raw (fun k=>w.heap.size<=k)/\Below w.heap.size w w':=by
 have HR:=aa hr;have HS:=aa hs;have HX:=aa hx;have HB:=aa (sB w.heap.size w);clear hr hs hx;go_enter Tryz.func44,Tryz.ntmps44;go_wp2_with fail;refine (lY d c _ (HR.below (HB.trans ((aB _ _ _).mono HB.size))) HS.out).mono ?_;rintro e w1 ⟨d',rfl,ho,hb⟩;have HQ2:=aa hb.size;simp only[cF] at HQ2 ho;obtain⟨HA0,HA1,hbx⟩:=bS hb;have Bg:=aa HA0;have Br:=aa HA1;replace HB:=upB HB hbx;clear hb hbx HA0 HA1;obtain⟨P,hP⟩:=ho;have HP:=aa hP;have hq2:w.heap.size+1+1<=w1.heap.size:=HQ2.out;clear hP;obtain⟨g0,g1,g2,g3,g4,g5,g6,g7,g8,g9,g10,g11,g12,g13,g14⟩:=kB Bg.out;have ltg:=ae Bg.out;have h5:=(HP.n.da (S':=(fun k=>(w.heap.size+1+1<=k/\P k=1)/\k<w1.heap.size)) (fun k hk s=>⟨s,hk⟩)).below (aj w1 (.cells (clv d' c.now) 36));have hlen:d'.l1<=8:=by have h6:=HP.n.1;have h7:(c.ns.map ndF).length=d'.l1:=h6;rw[td] at h7;have:=HS.n;omega
 have hbo:Below w1.heap.size w1 (w1.alloc (.cells (clv d' c.now) 36)):=aj w1 (.cells (clv d' c.now) 36);have hpk:=ae Bg.out;have hc1:Calls Tryz.prog 75 #[.slice d'.a1 d'.l1 d'.c1,.string n.n] (w1.alloc (.cells (clv d' c.now) 36)).drew fun e W=> ∃a2 l2 c2,e=.returned (.slice a2 l2 c2)/\Hid (ax W a2 l2 c2 7 56 ((wo Nd.n n.n c.ns).map ndF) (fun k=>(fun k=>(w.heap.size+1+1<=k/\P k=1)/\k<w1.heap.size) k\/w1.heap.size+1<=k))/\Hid (Below (w1.alloc (.cells (clv d' c.now) 36)).heap.size (w1.alloc (.cells (clv d' c.now) 36)) W)/\Hid (W.heap[w.heap.size]?=some (.cells #[.int .i64 u0,.int .i64 now0,.string n.n,.string n.z,.int .i64 n.c,.int .i64 n.s,.int .i64 n.u,.bool n.d,.slice va vl vc,.slice d.a1 d.l1 d.c1,.slice d.a2 d.l2 d.c2,.slice d.a3 d.l3 d.c3,.slice d.a4 d.l4 d.c4,.slice d.a5 d.l5 d.c5,.int .i64 c.now] 68 (0,0)))/\Hid (W.heap[w1.heap.size]?=some (.cells (clv d' c.now) 36 (0,0)))/\Hid (W.heap[w.heap.size+1]?=some (.cells (clo6 none 0 0 none 0 0 none 0 0 none 0 0 none 0 0 0) 36 (0,0))):=by
  refine (lV d'.a1 d'.l1 d'.c1 c.ns n.n (fun k=>(w.heap.size+1+1<=k/\P k=1)/\k<w1.heap.size) (w1.alloc (.cells (clv d' c.now) 36)).drew (h5.aI (fun _ _ _=>rfl) (fun _ _ s=>s)) hlen).mono ?_;rintro e W ⟨a2,l2,c2,rfl,hN,hb⟩;have hb':Below (w1.alloc (.cells (clv d' c.now) 36)).heap.size (w1.alloc (.cells (clv d' c.now) 36)) W:=⟨hb.os,hb.tape,hb.output,hb.size,hb.block⟩;have hN':=hN.da (S':=fun k=>(fun k=>(w.heap.size+1+1<=k/\P k=1)/\k<w1.heap.size) k\/w1.heap.size+1<=k) (fun k _ s=>s.imp id (fun q=>by have q1:(w1.alloc (.cells (clv d' c.now) 36)).drew.heap.size<=k:=q;simpa using q1));exact⟨a2,l2,c2,rfl,hN',hb',(hb'.block _ cC).trans ((hbo.block _ hpk).trans Bg.out),(hb'.block _ aT).trans (heap_alloc_new w1 (.cells (clv d' c.now) 36)),(hb'.block _ cC).trans ((hbo.block _ af).trans Br.out)⟩
 have hc2:∀W,Below (w1.alloc (.cells (clv d' c.now) 36)).heap.size (w1.alloc (.cells (clv d' c.now) 36)) W->Hid (W.heap[w.heap.size]?=some (.cells #[.int .i64 u0,.int .i64 now0,.string n.n,.string n.z,.int .i64 n.c,.int .i64 n.s,.int .i64 n.u,.bool n.d,.slice va vl vc,.slice d.a1 d.l1 d.c1,.slice d.a2 d.l2 d.c2,.slice d.a3 d.l3 d.c3,.slice d.a4 d.l4 d.c4,.slice d.a5 d.l5 d.c5,.int .i64 c.now] 68 (0,0)))/\Hid (W.heap[w1.heap.size]?=some (.cells (clv d' c.now) 36 (0,0)))/\Hid (W.heap[w.heap.size+1]?=some (.cells (clo6 none 0 0 none 0 0 none 0 0 none 0 0 none 0 0 0) 36 (0,0)))->Calls Tryz.prog 77 #[.agg #[.string n.n,.string n.z,.int .i64 n.c,.int .i64 n.s,.int .i64 n.u,.bool n.d,.slice va vl vc]] W fun e W3=> ∃a3 l3 c3,e=.returned (.agg #[.string n.n,.string n.z,.int .i64 n.c,.int .i64 n.s,.int .i64 n.u,.bool n.d,.slice a3 l3 c3])/\Hid (bO W3 a3 l3 c3 n.zs (fun k=>W.heap.size<=k))/\Hid (Below W.heap.size W W3)/\Hid (W3.heap[w.heap.size]?=some (.cells #[.int .i64 u0,.int .i64 now0,.string n.n,.string n.z,.int .i64 n.c,.int .i64 n.s,.int .i64 n.u,.bool n.d,.slice va vl vc,.slice d.a1 d.l1 d.c1,.slice d.a2 d.l2 d.c2,.slice d.a3 d.l3 d.c3,.slice d.a4 d.l4 d.c4,.slice d.a5 d.l5 d.c5,.int .i64 c.now] 68 (0,0)))/\Hid (W3.heap[w1.heap.size]?=some (.cells (clv d' c.now) 36 (0,0)))/\Hid (W3.heap[w.heap.size+1]?=some (.cells (clo6 none 0 0 none 0 0 none 0 0 none 0 0 none 0 0 0) 36 (0,0))):=fun W hb hkp=>by
  refine (fL n va vl vc W (HX.below (HB.trans ((hbo.trans (hb.mono aT)).mono HB.size))) hvl).mono ?_;rintro e W3 ⟨a3,l3,c3,rfl,hO,hb3⟩;exact⟨a3,l3,c3,rfl,hO,hb3,(hb3.block _ (ae hkp.1.out)).trans hkp.1.out,(hb3.block _ (ae hkp.2.1.out)).trans hkp.2.1.out,(hb3.block _ (ae hkp.2.2.out)).trans hkp.2.2.out⟩
 have hc3:∀(W W3:World) a2 l2 c2 a3 l3 c3,Below (w1.alloc (.cells (clv d' c.now) 36)).heap.size (w1.alloc (.cells (clv d' c.now) 36)) W->ax W a2 l2 c2 7 56 ((wo Nd.n n.n c.ns).map ndF) (fun k=>(fun k=>(w.heap.size+1+1<=k/\P k=1)/\k<w1.heap.size) k\/w1.heap.size+1<=k)->Below W.heap.size W W3->bO W3 a3 l3 c3 n.zs (fun k=>W.heap.size<=k)->Hid (W3.heap[w.heap.size]?=some (.cells #[.int .i64 u0,.int .i64 now0,.string n.n,.string n.z,.int .i64 n.c,.int .i64 n.s,.int .i64 n.u,.bool n.d,.slice va vl vc,.slice d.a1 d.l1 d.c1,.slice d.a2 d.l2 d.c2,.slice d.a3 d.l3 d.c3,.slice d.a4 d.l4 d.c4,.slice d.a5 d.l5 d.c5,.int .i64 c.now] 68 (0,0)))/\Hid (W3.heap[w1.heap.size]?=some (.cells (clv d' c.now) 36 (0,0)))/\Hid (W3.heap[w.heap.size+1]?=some (.cells (clo6 none 0 0 none 0 0 none 0 0 none 0 0 none 0 0 0) 36 (0,0)))->Calls Tryz.prog 76 #[.slice a2 l2 c2,.agg #[.string n.n,.string n.z,.int .i64 n.c,.int .i64 n.s,.int .i64 n.u,.bool n.d,.slice a3 l3 c3]] W3 fun e W4=> ∃a4 l4 c4,e=.returned (.slice a4 l4 c4)/\Hid (ax W4 a4 l4 c4 7 56 ((n8 c n).ns.map ndF) (fun k=>(fun k=>(w.heap.size+1+1<=k/\P k=1)/\k<w1.heap.size) k\/w1.heap.size+1<=k))/\Hid (Below w1.heap.size w1 W4)/\Hid (W4.heap[w.heap.size]?=some (.cells #[.int .i64 u0,.int .i64 now0,.string n.n,.string n.z,.int .i64 n.c,.int .i64 n.s,.int .i64 n.u,.bool n.d,.slice va vl vc,.slice d.a1 d.l1 d.c1,.slice d.a2 d.l2 d.c2,.slice d.a3 d.l3 d.c3,.slice d.a4 d.l4 d.c4,.slice d.a5 d.l5 d.c5,.int .i64 c.now] 68 (0,0)))/\Hid (W4.heap[w1.heap.size]?=some (.cells (clv d' c.now) 36 (0,0)))/\Hid (W4.heap[w.heap.size+1]?=some (.cells (clo6 none 0 0 none 0 0 none 0 0 none 0 0 none 0 0 0) 36 (0,0))):=fun W W3 a2 l2 c2 a3 l3 c3 hb hO2 hb3 hO3 hkp=>by
  obtain⟨g,hg⟩:=hO3.fr;have hr2:=(hO2.da (S':=fun k=>((fun k=>(w.heap.size+1+1<=k/\P k=1)/\k<w1.heap.size) k\/w1.heap.size+1<=k)/\k<W.heap.size) (fun k hk s=>⟨s,hk⟩)).below hb3;have hl2:l2<=8:=by have h6:=hO2.1;rw[td] at h6;have h7:=pj Nd.n n.n c.ns;have:=HS.n;omega
  have hs1:=hb.size;simp only[cF] at hs1;refine (jw a2 l2 c2 (wo Nd.n n.n c.ns) n a3 l3 c3 g _ (fun k=>W.heap.size<=k) W3 hr2 hl2 (fun i f hf=>by rcases i with _|_|_|_|_|_|_|i <;> simp[ndF] at hf <;> subst hf;exact⟨_,rfl,rfl,z0⟩;exact⟨_,rfl,rfl,z1⟩;exact⟨_,rfl,rfl⟩;exact⟨_,rfl,rfl⟩;exact⟨_,rfl,rfl⟩;exact⟨_,rfl,rfl⟩;exact⟨_,rfl,hg⟩) (fun k q1 q2=>by have q3:=q1.2;have q4:W.heap.size<=k:=q2;omega)).mono ?_;rintro e W4 ⟨a4,l4,c4,rfl,hN,hb4⟩;have hs3:=hb3.size;have hb14:Below w1.heap.size w1 W4:=(hbo.trans (hb.mono aT)).trans ((hb3.mono af).trans (hb4.mono af));have hN':=hN.da (S':=fun k=>(fun k=>(w.heap.size+1+1<=k/\P k=1)/\k<w1.heap.size) k\/w1.heap.size+1<=k) (fun k _ s=>by
   rcases s with (s|s)|s
   ·exact s.1
   ·have s1:W.heap.size<=k:=s;exact .inr af
   ·have s1:W3.heap.size<=k:=s;exact .inr af)
  exact⟨a4,l4,c4,rfl,hN',hb14,(hb4.block _ (ae hkp.1.out)).trans hkp.1.out,(hb4.block _ (ae hkp.2.1.out)).trans hkp.2.1.out,(hb4.block _ (ae hkp.2.2.out)).trans hkp.2.2.out⟩
 have C1:=aa hc1;have C2:=aa hc2;have C3:=aa hc3;clear hc1 hc2 hc3 h5 HX;have mixed:Tryz.prog.follows .mixedOrders=true:=an
 go_wp2;go_region_with (first
  | (go_at_call 75;refine C1.mono ?_;rintro e w2 ⟨a2,l2,c2,rfl,HO2,HB2,HKP2⟩;obtain⟨p0,p1,p2,p3,p4,p5,p6,p7,p8,p9,p10,p11,p12,p13,p14⟩:=kB HKP2.1.out)
  | (go_at_call 77;refine (C2.out w2 HB2.out HKP2).mono ?_;rintro e w3 ⟨a3,l3,c3,rfl,HO3,HB3,HKP3⟩)
  | (go_at_call 76;refine (C3.out w2 w3 a2 l2 c2 a3 l3 c3 HB2.out HO2.out HB3.out HO3.out HKP3).mono ?_;rintro e w4 ⟨a4,l4,c4,rfl,HO4,HB4,HKP4⟩;obtain⟨o0,o1,o2,o3,o4,o5⟩:=cs6 HKP4.2.1.out;have hol:=ae HKP4.2.1.out;have fo4:=aq HKP4.2.1.out 0))
 all_goals (
  obtain⟨r0,r1,r2,r3,r4,r5⟩:=cs6 HKP4.2.2.out;have fr0:=aq HKP4.2.2.out 0;have fr1:=aq HKP4.2.2.out 1;have fr2:=aq HKP4.2.2.out 2;have fr3:=aq HKP4.2.2.out 3;have fr4:=aq HKP4.2.2.out 4;have fr5:=aq HKP4.2.2.out 5;have hrl:=ae HKP4.2.2.out
  have hne:¬w.heap.size+1=w1.heap.size:=af
  have hne2:¬w1.heap.size=w.heap.size+1:=af
  go_wp2
  refine bodyPost_ret (v:=.agg #[.slice a4 l4 c4,.slice d'.a2 d'.l2 d'.c2,.slice d'.a3 d'.l3 d'.c3,.slice d'.a4 d'.l4 d'.c4,.slice d'.a5 d'.l5 d'.c5,.int .i64 c.now]) (by simp[results,Tryz.results44,go_sem, *]) rfl ⟨⟨a4,l4,c4,d'.a2,d'.l2,d'.c2,d'.a3,d'.l3,d'.c3,d'.a4,d'.l4,d'.c4,d'.a5,d'.l5,d'.c5⟩,rfl,?_,sb1 (sb1 (sb1 (sb1 (sb1 (sb1 (ag (show w.heap.size<=w1.heap.size by omega) (HB.trans (HB4.mono HB.size))))))))⟩;have h9:=HP.se hq2 HO4.out HB4.out (w4:=(((((((w4.setCell ⟨w1.heap.size,0,none⟩ (.slice a4 l4 c4)).setCell ⟨w.heap.size+1,0,none⟩ (.slice a4 l4 c4)).setCell ⟨w.heap.size+1,1,none⟩ (.slice d'.a2 d'.l2 d'.c2)).setCell ⟨w.heap.size+1,2,none⟩ (.slice d'.a3 d'.l3 d'.c3)).setCell ⟨w.heap.size+1,3,none⟩ (.slice d'.a4 d'.l4 d'.c4)).setCell ⟨w.heap.size+1,4,none⟩ (.slice d'.a5 d'.l5 d'.c5)).setCell ⟨w.heap.size+1,5,none⟩ (.int .i64 c.now))) (fun k h1 h2=>by rw[sz _ _ _ _ (show k≠w.heap.size+1 by omega),sz _ _ _ _ (show k≠w.heap.size+1 by omega),sz _ _ _ _ (show k≠w.heap.size+1 by omega),sz _ _ _ _ (show k≠w.heap.size+1 by omega),sz _ _ _ _ (show k≠w.heap.size+1 by omega),sz _ _ _ _ (show k≠w.heap.size+1 by omega),sz _ _ _ _ (show k≠w1.heap.size by omega)])
  exact h9.da (fun k _ s=>by have s1:w.heap.size+1+1<=k:=s;show w.heap.size<=k;omega))

end Rc
end Go.Proofs.YtdfgbboadbnodaaGreatDoor

namespace Go.Proofs.YtdfgbboadbnodaaGreatDoor
open Go.RowKit
namespace Gs

section
variable {SR:World->World->Prop} {t4:Tmp} {Ψ:Fact} {P:Program} {ops:Array Oper} {Q:Exit->Act->World->Prop} {W:World} {a0:Act} {back:Option Oper}
theorem dQ {listed:Array Bool} (hs:listed.size=ops.size) (hlt:∀(j:Nat) o,ops[j]?=some o->∀e∈o.after,tu .any e=true->e.on<j) (hr:tk .any ops listed=[]):∀i,i<ops.size->listed.getD i false=true:=by
 intro i;induction i using Nat.strongRecOn with
 | _ i ih=>
  intro hi
  cases hb:listed.getD i false with
  | true=>rfl
  | false=>
   have ho:ops[i]?=some ops[i]:=Array.getElem?_eq_getElem hi;have hm:i∈tk .any ops listed:=mem_ready.2 ⟨by rw[<-bC af];exact hb,_,ho,fun e he hbe=>ih e.on (hlt i _ ho e he hbe) (Nat.lt_trans (hlt i _ ho e he hbe) hi)⟩;rw[hr] at hm
   cases hm

structure At (t4:Tmp) (Ψ:Fact) (front:List Oper) (φs:List Fact) (W:World) (a0:Act) (listed:Array Bool) (a:Act) (w:World):Prop where
 old:Go.Proofs.YtdfgbboadbnodaaGreatDoor.At front φs W a0 listed a w
 sto:∀(i:Nat) (o:Oper),front[i]?=some o->o.dst=none->listed.getD i false=true->Ψ (a.tmps.getD t4 undef) w/\∀(i':Nat) (p:Oper),front[i']?=some p->p.dst=some t4->listed.getD i' false=true

theorem ru {listed:Array Bool} {i j:Nat} (h:listed.getD i false=true):(listed.setIfInBounds j true).getD i false=true:=by
 by_cases e:j=i
 ·subst e;simp only[sD,sS];split
  ·split
   ·rfl
   ·simp[sD] at h;next hx=>
     have:listed[j]?=none:=Array.getElem?_eq_none_iff.2 af;rw[this] at h
     cases h
  ·contradiction
 ·simpa[sD,sS,e] using h
theorem rp {listed:Array Bool} {i j:Nat} (e:¬j=i) (h:(listed.setIfInBounds j true).getD i false=true):listed.getD i false=true:=by
 simpa[sD,sS,e] using h

end
structure Form (W w w':World):Prop where
 low:Below W.heap.size w w'
 form:∀(k:Nat) (cs:Array Value) (T:TypeId),w.heap[k]?=some (.cells cs T (0,0))->∃cs',cs'.size=cs.size/\w'.heap[k]?=some (.cells cs' T (0,0))
end Gs
namespace Gt

section
variable {P:Program} {ops:Array Oper} {Q:Exit->Act->World->Prop} {W:World} {a0:Act} {back:Option Oper}
structure Ac (front:List Oper) (φs:List Fact) (W:World) (a0:Act) (listed:Array Bool) (a:Act) (w:World):Prop where
 old:At front φs W a0 listed a w
 cl:∀(j:Nat) (o:Oper),front[j]?=some o->listed.getD j false=true->∀e∈o.after,tu .any e=true->listed.getD e.on false=true
end
end Gt
namespace Gu

def waits (front:List Oper) (i:Nat):Nat->Array Edge->Bool
 | 0,after=>after.any fun e=>tu .any e && e.on==i
 | f+1,after=>after.any fun e=>tu .any e && (e.on==i || match front[e.on]? with|some p=>waits front i f p.after|none=>false)
theorem fm {front:List Oper} {i:Nat} {listed:Array Bool} (hc:∀(j:Nat) (o:Oper),front[j]?=some o->listed.getD j false=true->∀e∈o.after,tu .any e=true->listed.getD e.on false=true):∀(f:Nat) (after:Array Edge),waits front i f after=true->(∀e∈after,tu .any e=true->listed.getD e.on false=true)->listed.getD i false=true
 | 0,after,h,ha=>by
  obtain⟨k,hk,hx⟩:=Array.any_eq_true.1 h;simp only[tl,beq_iff_eq] at hx;have:=ha _ (Array.getElem_mem hk) hx.1
  rwa [hx.2] at this
 | f+1,after,h,ha=>by
  obtain⟨k,hk,hx⟩:=Array.any_eq_true.1 h;simp only[tl,Bool.or_eq_true,beq_iff_eq] at hx;have h1:=ha _ (Array.getElem_mem hk) hx.1
  rcases hx.2 with h2|h2
  ·rwa [h2] at h1
  ·split at h2
   ·next p hp=>exact fm hc f p.after h2 (fun e he hb=>hc _ p hp h1 e he hb)
   ·cases h2
def ln (P:Program) (ops:Array Oper) (Q:Exit->Act->World->Prop) (s t:Oper) (a:Act) (w:World):Prop:=
 ∀K:Act->World->Prop,(∀a' w',(∀K':Act->World->Prop,(∀a w,Q .normal a w->K' a w)->if tA t (yielded ops a'.tmps)=true then t.wp P a' w' K' Q else K' (a'.put t.dst undef) w')->K a' w')->if tA s (yielded ops a.tmps)=true then s.wp P a w K Q else K (a.put s.dst undef) w
def Fin (P:Program) (ops:Array Oper) (Q:Exit->Act->World->Prop) (W:World) (a0:Act) (s t:Oper) (known:List (Tmp×Fact)):Prop:=
 ∀(x:Tmp->Value) (w:World),Below W.heap.size W w->(∀p∈known,p.2 (x p.1) w)->ln P ops Q s t (aR a0 known x) w
def Grow (P:Program) (ops:Array Oper) (Q:Exit->Act->World->Prop) (W:World) (a0:Act) (s t:Oper):List Oper->List (Tmp×Fact)->Prop
 | [],known=>Fin P ops Q W a0 s t known
 | o ::rest,known=> ∃φ:Fact,φ.bP/\Obl P ops Q W a0 known o φ/\Grow P ops Q W a0 s t rest (kn o.dst φ known)
section
variable {P:Program} {ops:Array Oper} {Q:Exit->Act->World->Prop} {W:World} {a0:Act} {s t:Oper}
theorem Grow.step {o:Oper} {rest:List Oper} {known:List (Tmp×Fact)} {d:Tmp} (φ:Fact) (hd:o.dst=some d) (hφ:φ.bP) (ho:Obl P ops Q W a0 known o φ)
  (h:Grow P ops Q W a0 s t rest ((d,φ) ::known)):Grow P ops Q W a0 s t (o ::rest) known:=⟨φ,hφ,ho,(by rw[hd];exact h)⟩
theorem Grow.aV {o:Oper} {rest:List Oper} {known:List (Tmp×Fact)} {d:Tmp} (c:Value) (hd:o.dst=some d) (ho:Obl P ops Q W a0 known o (fun v _=>v=c))
  (h:Grow P ops Q W a0 s t rest ((d,fun v _=>v=c) ::known)):Grow P ops Q W a0 s t (o ::rest) known:=Grow.step _ hd (Fact.ei c) ho h
theorem Grow.done {known:List (Tmp×Fact)} (h:Fin P ops Q W a0 s t known):Grow P ops Q W a0 s t [] known:=h
theorem Grow.spec:∀(l:List Oper) (known:List (Tmp×Fact)),Grow P ops Q W a0 s t l known->∃φs:List Fact,φs.length=l.length/\
  (∀(i:Nat) (o:Oper) (φ:Fact),l[i]?=some o->φs[i]?=some φ->φ.bP/\Obl P ops Q W a0 (knAll known (l.take i) (φs.take i)) o φ)/\Fin P ops Q W a0 s t (knAll known l φs)
 | [],known,h=>⟨[],rfl,fun i o φ h=>by simp at h,by rw[bo];exact h⟩
 | o ::l,known,h=>by
  exact nt
def growB (n:Nat) (front:List Oper) (s t:Oper):Bool:=
 let ops:=(front++[s,t]).toArray
 decide ((front.filterMap (·.dst)).Nodup) && front.all (fun o=>match o.dst with|some d=>decide (d<n)|none=>true) &&
 (tC front.length).all (fun j=>match front[j]? with
  | some o=>(o.looksAt ops).all (fun d=>(tC front.length).all fun i=>match front[i]? with
    | some p=>p.dst !=some d || (decide (i<j) && o.after.any fun e=>e.on==i && tu .any e)
    | none=>true)
  | none=>true) &&
 (tC ops.size).all (fun j=>match ops[j]? with|some o=>o.after.all (fun e=> !tu .any e || decide (e.on<j))|none=>true) &&
 (tC front.length).all (fun i=>waits front i 12 s.after) && t.after.any (fun e=>tu .any e && e.on==front.length)
theorem cZ {n:Nat} {front:List Oper} (h:growB n front s t=true):
  (front.filterMap (·.dst)).Nodup/\(∀o∈front,∀d,o.dst=some d->d<n)/\
  (∀(j:Nat) (o:Oper),front[j]?=some o->∀d∈o.looksAt (front++[s,t]).toArray,∀(i:Nat) (p:Oper),front[i]?=some p->p.dst=some d->i<j/\∃e∈o.after,e.on=i/\tu .any e=true)/\
  (∀(j:Nat) o,(front++[s,t]).toArray[j]?=some o->∀e∈o.after,tu .any e=true->e.on<j)/\
  (∀i,i<front.length->waits front i 12 s.after=true)/\∃e∈t.after,tu .any e=true/\e.on=front.length:=by
 unfold growB at h;simp only[tl,decide_eq_true_eq] at h;obtain⟨⟨⟨⟨⟨h1,h2⟩,h3⟩,h4⟩,h5⟩,h6⟩:=h;refine⟨h1,?_,?_,?_,?_,?_⟩
 ·intro o ho d hd;have:=tg.1 h2 o ho;rw[hd] at this;simpa using this
 ·intro j o ho d hd i p hp hpd;have hj:j<front.length:=(sv.1 ho).1;have hi:i<front.length:=(sv.1 hp).1;have:=tg.1 h3 j (tP.2 hj);rw[ho] at this;have:=tg.1 this d hd;have:=tg.1 this i (tP.2 hi);rw[hp] at this;simp only[hpd,bne_self_eq_false,Bool.false_or,tl,decide_eq_true_eq] at this;exact qb
 ·intro j o ho e he hbe;have hj:j<(front++[s,t]).toArray.size:=(sO.1 ho).1;have:=tg.1 h4 j (tP.2 hj);rw[ho] at this;have:=Array.all_eq_true.1 this;obtain⟨k,hk,rfl⟩:=Array.mem_iff_getElem.1 he;have h9:=this k hk;rw[hbe] at h9;simpa using h9
 ·intro i hi;exact tg.1 h5 i (tP.2 hi)
 ·obtain⟨k,hk,hx⟩:=Array.any_eq_true.1 h6;simp only[tl,beq_iff_eq] at hx;exact⟨_,Array.getElem_mem hk,hx.1,hx.2⟩
theorem Fin.last {front:List Oper} {φs:List Fact} {listed:Array Bool} {a:Act} {w:World} (hf:Fin P ops Q W a0 s t (knAll [] front φs)) (hlen:φs.length=front.length) (hin:∀o∈front,∀d,o.dst=some d->d<a0.tmps.size)
  (h:At front φs W a0 listed a w) (hall:∀i,i<front.length->listed.getD i false=true):ln P ops Q s t a w:=by
 have h9:∃x,a=aR a0 (knAll [] front φs) x/\∀p∈knAll [] front φs,p.2 (x p.1) w:=Go.Proofs.YtdfgbboadbnodaaGreatDoor.Fin.last (P:=P) (ops:=ops) (Q:=fun _ a' w'=> ∃x,a'=aR a0 (knAll [] front φs) x/\∀p∈knAll [] front φs,p.2 (x p.1) w') (back:=none) (fun x _ _ h2=>⟨x,rfl,h2⟩) hlen hin h hall;obtain⟨x,e,h2⟩:=h9;have h3:=hf x w h.below h2;rw[<-e] at h3;exact h3
theorem jF {fuel:Nat} {listed:Array Bool} {a:Act} {w:World} {j:Nat} {o:Oper} (ho:ops[j]?=some o) (h1:if tA o (yielded ops a.tmps)=true then o.wp P a w (wpAny P .any ops Q fuel (listed.setIfInBounds j true)) Q else wpAny P .any ops Q fuel (listed.setIfInBounds j true) (a.put o.dst undef) w):wpOp P ops Q j (wpAny P .any ops Q fuel (listed.setIfInBounds j true)) a w:=by
 unfold wpOp;rw[ho];simp only;split
 ·rename_i hw;rw[if_pos hw] at h1;exact .inl h1
 ·rename_i hw;rw[if_neg hw] at h1;exact h1
theorem jR {listed:Array Bool} (hz:listed.size=ops.size) (hall:∀i,i<ops.size->listed.getD i false=true):tk .any ops listed=[]:=by
 cases hr:tk .any ops listed with
 | nil=>rfl
 | cons j js=>
  have hm:j∈tk .any ops listed:=by rw[hr];simp
  obtain⟨h1,o,ho,-⟩:=mem_ready.1 hm;have hj:=(sO.1 ho).1;rw[<-bC af,hall j hj] at h1
  cases h1
theorem pd {fuel:Nat} {listed:Array Bool} {a:Act} {w:World} (hz:listed.size=ops.size) (hall:∀i,i<ops.size->listed.getD i false=true) (hq:Q .normal a w):wpAny P .any ops Q fuel listed a w:=by
 have hr:=jR hz hall;cases fuel with
 | zero=>exact⟨hr,hq⟩
 | succ fuel=>exact⟨fun _=>hq,fun i hi=>by rw[hr] at hi;cases hi⟩
theorem cn {front:List Oper} {φs:List Fact} (hops:ops=(front++[s,t]).toArray) (hB:growB a0.tmps.size front s t=true) (hlen:φs.length=front.length)
  (hs:∀(i:Nat) (o:Oper) (φ:Fact),front[i]?=some o->φs[i]?=some φ->φ.bP/\Obl P ops Q W a0 (knAll [] (front.take i) (φs.take i)) o φ) (hf:Fin P ops Q W a0 s t (knAll [] front φs)):
  ∀(fuel:Nat) (listed:Array Bool) (a:Act) (w:World),listed.size=ops.size->listed.toList.count false<=fuel->listed.getD front.length false=false->listed.getD (front.length+1) false=false->Gt.Ac front φs W a0 listed a w->wpAny P .any ops Q fuel listed a w:=by
 obtain⟨hn,hin,hdep,hlt,hwait,e2,he2,hb2,hon2⟩:=cZ hB;rw[<-hops] at hdep hlt;have hsz:ops.size=front.length+2:=by rw[hops];simp
 have hos:ops[front.length]?=some s:=by rw[hops];simp
 have hot:ops[front.length+1]?=some t:=by rw[hops];simp
 intro fuel;induction fuel with
 | zero=>
  intro listed a w hz hc hb hb' h;have h9:=eg (by omega:listed.toList.count false=0) front.length af;rw[hb] at h9
  cases h9
 | succ fuel ih=>
  intro listed a w hz hc hb hb' h;refine⟨fun hr=>?_,fun j hj=>?_⟩
  ·have h9:=Gs.dQ hz hlt hr front.length af;rw[hb] at h9
   cases h9
  obtain⟨hun,o,ho,hall⟩:=mem_ready.1 hj;have hjs:j<ops.size:=(sO.1 ho).1;have hcs:=count_set (listed:=listed) (i:=j) af hun
  by_cases hjf:j<front.length
  ·have hof:front[j]?=some o:=by rw[hops] at ho;simpa[sX hjf] using ho
   have hφ:φs[j]?=some (φs[j]'(by omega)):=sA _;obtain⟨hm,hob⟩:=hs j o _ hof hφ
   have hfacts:∀t∈o.looksAt ops,slotFact a0 (knAll [] (front.take j) (φs.take j)) a w t:=by
    intro t ht;unfold slotFact
    cases hk:(knAll [] (front.take j) (φs.take j)).lookup t with
    | some φ=>
     rcases bG _ _ _ hk with ⟨i,p,h1,h2,h3⟩|h1
     ·have hij:i<j:=by have:=(sv.1 h1).1;simp at this;omega
      rw[sW,if_pos hij] at h1 h3;obtain⟨-,e,he,hon,hbi⟩:=hdep j o hof t ht i p h1 h2;have hl:=hall e he hbi;rw[hon] at hl;exact h.old.known i p φ h1 h3 t h2 hl
     ·simp at h1
    | none=>
     refine h.old.other t (fun i p hp hd=>?_)
     exfalso
     obtain⟨hij,-⟩:=hdep j o hof t ht i p hp hd;have hi:=(sv.1 hp).1;exact (bH _ _ _ hk).2 i p (φs[i]'(by omega)) mH mK hd
   have hkeep:∀i,¬j=i->listed.getD i false=false->(listed.setIfInBounds j true).getD i false=false:=fun i e h2=>by
    simpa[sD,sS,e] using h2
   exact jF ho (hob a w _ h.old.size h.old.below hfacts (fun v w' hbw hv=>ih _ _ _ (by simpa using hz) af (hkeep _ af hb) (hkeep _ af hb') ⟨h.old.step hn hin (fun i o φ h1 h2=>(hs i o φ h1 h2).1) hof hφ af hbw hv,fun j' o' ho' hl e he hbe=>(by
     by_cases ej:j=j'
     ·subst ej;obtain rfl:o=o':=sx (hof.symm.trans ho');exact Gs.ru (hall e he hbe)
     ·exact Gs.ru (h.cl j' o' ho' (Gs.rp ej hl) e he hbe))⟩))
  ·by_cases hj1:j=front.length
   ·subst hj1;obtain rfl:s=o:=sx (hos.symm.trans ho);have hfl:=fun i hi=>fm h.cl 12 s.after (hwait i hi) (fun e he hbe=>hall e he hbe);refine jF ho (Fin.last hf hlen hin h.old hfl _ (fun a' w' ht=>?_))
    have hz2:(listed.setIfInBounds front.length true).size=ops.size:=by simpa using hz
    have hl2:∀i,i<front.length+1->(listed.setIfInBounds front.length true).getD i false=true:=fun i hi=>by
     by_cases e:front.length=i
     ·subst e
      simp[sD,show front.length<listed.size from by omega]
     ·exact Gs.ru (hfl i af)
    have hu2:(listed.setIfInBounds front.length true).getD (front.length+1) false=false:=by
     have e:¬front.length=front.length+1:=af
     simpa[sD,sS,e] using hb'
    cases fuel with
    | zero=>
     have h9:=eg (by omega:(listed.setIfInBounds front.length true).toList.count false=0) (front.length+1) af;rw[hu2] at h9
     cases h9
    | succ fuel=>
     refine⟨fun hr=>?_,fun i hi=>?_⟩
     ·have h9:=Gs.dQ hz2 hlt hr (front.length+1) af;rw[hu2] at h9
      cases h9
     ·obtain⟨hun2,o2,ho2,-⟩:=mem_ready.1 hi;have his:i<ops.size:=(sO.1 ho2).1
      have hie:i=front.length+1:=Classical.byContradiction fun e=>by
       have h9:=hl2 i af;rw[bC af] at h9;rw[h9] at hun2
       cases hun2
      subst hie;obtain rfl:t=o2:=sx (hot.symm.trans ho2);refine jF ho2 (ht _ (fun a3 w3 hq=>pd (by simpa using hz2) (fun i hi=>?_) hq))
      by_cases e:front.length+1=i
      ·subst e
       simp[sD,show front.length+1<listed.size from by omega]
      ·exact Gs.ru (hl2 i af)
   ·obtain rfl:j=front.length+1:=af
    obtain rfl:t=o:=sx (hot.symm.trans ho);have h9:=hall e2 he2 hb2;rw[hon2,bC af] at h9;rw[bC af] at hb;rw[hb] at h9
    cases h9
end
theorem jv {P:Program} {id:Nat} {Q:Exit->Act->World->Prop} {a0:Act} {W:World} {l:List Oper} {front:List Oper} {s t:Oper} (hm:P.follows .mixedOrders=true) (hfr:l.dropLast.dropLast=front) (hss:l.dropLast.getLast?=some s) (htt:l.getLast?=some t) (hB:growB a0.tmps.size front s t=true)
  (h:Grow P l.toArray Q W a0 s t front []):(Code.region id l.toArray true).wp P Q a0 W:=by
 have hl:l=front++[s,t]:=by
  obtain⟨l',rfl⟩:=tS.1 htt;rw[List.dropLast_concat] at hfr hss;obtain⟨l2,rfl⟩:=tS.1 hss;rw[List.dropLast_concat] at hfr;rw[<-hfr];simp
 obtain⟨φs,hlen,hs,hfi⟩:=Grow.spec _ _ h;refine wp_region_any hm (cn (by rw[hl]) hB hlen hs hfi _ _ _ _ aT ?_ ?_ ?_ ⟨⟨rfl,rfl,(sB _ _).drew,fun i o φ h1 h2 d hd hx=>?_,fun d _=>rfl⟩,fun j o h1 hx=>?_⟩)
 ·exact m_
 ·exact bc _ _
 ·exact bc _ _
 ·rw[bc] at hx;cases hx
 ·rw[bc] at hx;cases hx
end Gu
end Go.Proofs.YtdfgbboadbnodaaGreatDoor

namespace Go.Proofs.YtdfgbboadbnodaaGreatDoor
open Go.RowKit
namespace Rc
open Mk

def sf (c:Cl) (d:Ad) (t:ByteArray) (E:Nat->Addr) (w0 w:World) (e:Ending) (w':World):Prop:=
 Below w.heap.size w w'/\((∃i,i<9/\bY c t i/\e=.returned (.tuple #[.agg #[.int .i64 0,.int .i64 0,.string ⟨#[]⟩,.string ⟨#[]⟩,.int .i64 0,.int .i64 0,.int .i64 0,.bool false,.slice none 0 0,.slice none 0 0,.slice none 0 0,.slice none 0 0,.slice none 0 0,.slice none 0 0,.int .i64 0],.iface 195 (.pointer (some (E i)))]))\/(∃(n:Nd) (va:Option Addr) (vl vc:Nat),cB c t n/\e=.returned (.tuple #[.agg #[.int .i64 n.u,.int .i64 c.now,.string n.n,.string n.z,.int .i64 n.c,.int .i64 n.s,.int .i64 n.u,.bool n.d,.slice va vl vc,.slice d.a1 d.l1 d.c1,.slice d.a2 d.l2 d.c2,.slice d.a3 d.l3 d.c3,.slice d.a4 d.l4 d.c4,.slice d.a5 d.l5 d.c5,.int .i64 c.now],.nilIface])/\ar w0 va vl vc n.zs))
def sg (c:Cl) (d:Ad) (t:ByteArray) (x:Bool) (E:Nat->Addr) (w0 w:World) (e:Ending) (w':World):Prop:=
 Below w.heap.size w w'/\((∃i,i<9/\bY c t i/\e=.returned (.tuple #[.agg #[.int .i64 0,.int .i64 0,.string ⟨#[]⟩,.string ⟨#[]⟩,.int .i64 0,.int .i64 0,.int .i64 0,.bool false,.slice none 0 0,.slice none 0 0,.slice none 0 0,.slice none 0 0,.slice none 0 0,.slice none 0 0,.int .i64 0],.iface 195 (.pointer (some (E i)))]))\/(∃(n:Nd) (va:Option Addr) (vl vc:Nat),cB c t n/\((¬n.d=x/\e=.returned (.tuple #[.agg #[.int .i64 n.u,.int .i64 c.now,.string n.n,.string n.z,.int .i64 n.c,.int .i64 n.s,.int .i64 n.u,.bool n.d,.slice va vl vc,.slice d.a1 d.l1 d.c1,.slice d.a2 d.l2 d.c2,.slice d.a3 d.l3 d.c3,.slice d.a4 d.l4 d.c4,.slice d.a5 d.l5 d.c5,.int .i64 c.now],.iface 195 (.pointer (some (E 8)))]))\/(n.d=x/\e=.returned (.tuple #[.agg #[.int .i64 n.u,.int .i64 c.now,.string n.n,.string n.z,.int .i64 n.c,.int .i64 n.s,.int .i64 n.u,.bool n.d,.slice va vl vc,.slice d.a1 d.l1 d.c1,.slice d.a2 d.l2 d.c2,.slice d.a3 d.l3 d.c3,.slice d.a4 d.l4 d.c4,.slice d.a5 d.l5 d.c5,.int .i64 c.now],.nilIface])/\ar w0 va vl vc n.zs))))

theorem jm (d:Ad) (now:Int) (n:Nd) (va:Option Addr) (vl vc:Nat) (w:World):
  Calls Tryz.prog 84 #[.agg #[.slice d.a1 d.l1 d.c1,.slice d.a2 d.l2 d.c2,.slice d.a3 d.l3 d.c3,.slice d.a4 d.l4 d.c4,.slice d.a5 d.l5 d.c5,.int .i64 now],.agg #[.string n.n,.string n.z,.int .i64 n.c,.int .i64 n.s,.int .i64 n.u,.bool n.d,.slice va vl vc]] w fun e w'=>e=.returned (.agg #[.int .i64 n.u,.int .i64 now])/\Below w.heap.size w w':=by
 go_enter Tryz.func84,Tryz.ntmps84;go_wp2;exact bodyPost_ret (v:=.agg #[.int .i64 n.u,.int .i64 now]) (by simp[results,Tryz.results84,go_sem]) rfl ⟨rfl,bx _ _ _ _⟩

theorem lU (d:Ad) (c:Cl) (t:ByteArray) (E:Nat->Addr) (w0:World) (w:World) (hr0:aL w0 d c.raw) (hb0:Below w0.heap.size w0 w) (hG:Ers w E):
  Calls Tryz.prog 59 #[.agg #[.slice d.a1 d.l1 d.c1,.slice d.a2 d.l2 d.c2,.slice d.a3 d.l3 d.c3,.slice d.a4 d.l4 d.c4,.slice d.a5 d.l5 d.c5,.int .i64 c.now],.string t] w (sf c d t E w0 w):=by
 have HR0:=aa hr0;have HB0:=aa hb0;obtain⟨HE,HB⟩:=fu;clear hr0 hb0 hG;go_enter Tryz.func59,Tryz.ntmps59;go_wp2_with fail;refine (kl d c t E w0 _ HR0.out (HB0.trans ((HB.trans ((aB _ _ _).mono HB.size)).mono HB0.size)) (HE.below (HB.trans ((aB _ _ _).mono HB.size)))).mono ?_;rintro e w1 ⟨hb,hf⟩;obtain⟨HA0,HA1,hbx⟩:=bS hb;have Bk:=aa HA0;have Br:=aa HA1;replace HB:=upB HB hbx;clear hb hbx HA0 HA1;rcases hf with ⟨i,hi8,hwhy,rfl⟩|⟨n,va,vl,vc,hok,rfl,hvr⟩
 ·have HWY:=aa hwhy;clear hwhy;obtain⟨r0,r1,r2,r3,r4,r5,r6,r7,r8,r9,r10,r11,r12,r13,r14⟩:=kB Br.out;obtain⟨fr0,fr1,fr2,fr3,fr4,fr5,fr6,fr7,fr8,fr9,fr10,fr11,fr12,fr13,fr14,hrl,hkl,hn1,hn2⟩:=oZ;go_wp2;exact bodyPost_ret (v:=.tuple #[.agg #[.int .i64 0,.int .i64 0,.string ⟨#[]⟩,.string ⟨#[]⟩,.int .i64 0,.int .i64 0,.int .i64 0,.bool false,.slice none 0 0,.slice none 0 0,.slice none 0 0,.slice none 0 0,.slice none 0 0,.slice none 0 0,.int .i64 0],.iface 195 (.pointer (some (E i)))]) (by simp[results,Tryz.results59,go_sem, *]) rfl ⟨tN (sb1 (sb1 (sb1 (sb1 (sb1 (sb1 (sb1 (sb1 (sb1 (sb1 (sb1 (sb1 (sb1 (sb1 (sb1 (HB.out)))))))))))))))) fZ _,.inl ⟨i,hi8,HWY.out,rfl⟩⟩
 have HOK:=aa hok;have HVR:=aa hvr;clear hok hvr;go_wp2_with fail;obtain⟨W,hW0⟩:∃W,W=w1.alloc (.cells (nov n va vl vc) 56):=⟨_,rfl⟩;have BkW:=aa ((sR w1 (.cells (nov n va vl vc) 56) _ (ae Bk.out)).trans Bk.out);have BrW:=aa ((sR w1 (.cells (nov n va vl vc) 56) _ (ae Br.out)).trans Br.out);have BnW:=aa (heap_alloc_new w1 (.cells (nov n va vl vc) 56));have HBX:=aa (HB.trans ((aj w1 (.cells (nov n va vl vc) 56)).mono HB.size));rw[<-hW0] at BkW BrW BnW HBX ⊢;clear hW0 Bk Br HB;rename_i K0 hK0;refine Gu.jv an rfl rfl rfl an ?_;refine' Gu.Grow.aV _ rfl ?_ ?_;rotate_left 1
 ·exact nI
 refine' Gu.Grow.aV _ rfl ?_ ?_;rotate_left 1
 ·exact nJ
 refine Gu.Grow.step (fun v _=>v=.agg #[.int .i64 n.u,.int .i64 c.now]) rfl (Fact.ei _) ?_ ?_
 ·refine Obl.plain rfl ?_;intro ac wg K hsz hW hf hK;clear hsz;have e18:=hf 18 ak;simp[slotFact,sM] at e18;have e19:=hf 19 ak;simp[slotFact,sM] at e19;clear hf;go_simp;refine (jm d c.now n va vl vc _).mono ?_;rintro e w6 ⟨rfl,hb6⟩;exact hK _ _ hb6 rfl
 refine' Gu.Grow.aV _ rfl ?_ ?_;rotate_left 1
 ·exact nJ
 refine' Gu.Grow.aV _ rfl ?_ ?_;rotate_left 1
 ·exact nI
 refine' Gu.Grow.aV _ rfl ?_ ?_;rotate_left 1
 ·refine Obl.plain rfl ?_;intro ac wg K hsz hW hf hK;clear hsz;have e20:=hf 20 ak;simp[slotFact,sM] at e20;have e21:=hf 21 ak;simp[slotFact,sM] at e21;have e22:=hf 22 ak;simp[slotFact,sM] at e22;clear hf;exact eW
 refine Gu.Grow.done ?_;intro q wz hW hf;simp only[tL] at hf;obtain⟨h23,h22,h21,h20,h19,h18,-⟩:=hf;have HWZ:=aa hW;have Br6:=upK BrW hW;clear hW;obtain⟨r0,r1,r2,r3,r4,r5,r6,r7,r8,r9,r10,r11,r12,r13,r14⟩:=kB Br6.out;have fr0:=aq Br6.out 0;have fr1:=aq Br6.out 1;have fr2:=aq Br6.out 2;have fr3:=aq Br6.out 3;have fr4:=aq Br6.out 4;have fr5:=aq Br6.out 5;have fr6:=aq Br6.out 6;have fr7:=aq Br6.out 7;have fr8:=aq Br6.out 8;have fr9:=aq Br6.out 9;have fr10:=aq Br6.out 10;have fr11:=aq Br6.out 11;have fr12:=aq Br6.out 12;have fr13:=aq Br6.out 13;have fr14:=aq Br6.out 14;have hrl:=ae Br6.out;intro K hK;rw[if_pos (by rfl)];simp only[aR,List.foldr,Act.put,tm,tF,tQ,h23,h22,h21,h20,h19,h18];go_simp;refine hK _ _ ?_;clear hK K;intro K hK;rw[if_pos (by rfl)];go_simp;refine hK _ _ ?_;refine hK0 _ _ ?_;clear hK hK0 K K0;go_wp2;exact bodyPost_ret (v:=.tuple #[.agg #[.int .i64 n.u,.int .i64 c.now,.string n.n,.string n.z,.int .i64 n.c,.int .i64 n.s,.int .i64 n.u,.bool n.d,.slice va vl vc,.slice d.a1 d.l1 d.c1,.slice d.a2 d.l2 d.c2,.slice d.a3 d.l3 d.c3,.slice d.a4 d.l4 d.c4,.slice d.a5 d.l5 d.c5,.int .i64 c.now],.nilIface]) (by simp[results,Tryz.results59,go_sem, *]) rfl ⟨sb1 (sb1 (sb1 (sb1 (sb1 (sb1 (sb1 (sb1 (sb1 (sb1 (sb1 (sb1 (sb1 (sb1 (sb1 (HBX.trans (HWZ.mono HBX.size)))))))))))))))),.inr ⟨n,va,vl,vc,HOK.out,rfl,HVR.out⟩⟩

theorem oo (d:Ad) (c:Cl) (t:ByteArray) (x:Bool) (E:Nat->Addr) (w0:World) (w:World) (hr0:aL w0 d c.raw) (hb0:Below w0.heap.size w0 w) (hG:Ers w E):
  Calls Tryz.prog 30 #[.agg #[.slice d.a1 d.l1 d.c1,.slice d.a2 d.l2 d.c2,.slice d.a3 d.l3 d.c3,.slice d.a4 d.l4 d.c4,.slice d.a5 d.l5 d.c5,.int .i64 c.now],.string t,.bool x] w (sg c d t x E w0 w):=by
 have HR0:=aa hr0;have HB0:=aa hb0;obtain⟨HE,HB⟩:=fu;clear hr0 hb0 hG;go_enter Tryz.func30,Tryz.ntmps30;go_wp2_with fail;refine (lU d c t E w0 _ HR0.out (HB0.trans ((HB.trans ((aB _ _ _).mono HB.size)).mono HB0.size)) (HE.below (HB.trans ((aB _ _ _).mono HB.size)))).mono ?_;rintro e w1 ⟨hb,hf⟩;obtain⟨HA0,HA1,hbx⟩:=bS hb;have Bk:=aa HA0;have Br:=aa HA1;replace HB:=upB HB hbx;clear hb hbx HA0 HA1;rcases hf with ⟨i,hi8,hwhy,rfl⟩|⟨n,va,vl,vc,hok,rfl,hvr⟩
 ·have HWY:=aa hwhy;clear hwhy;obtain⟨r0,r1,r2,r3,r4,r5,r6,r7,r8,r9,r10,r11,r12,r13,r14⟩:=kB Br.out;obtain⟨fr0,fr1,fr2,fr3,fr4,fr5,fr6,fr7,fr8,fr9,fr10,fr11,fr12,fr13,fr14,hrl,hkl,hn1,hn2⟩:=oZ;go_wp2;exact bodyPost_ret (v:=.tuple #[.agg #[.int .i64 0,.int .i64 0,.string ⟨#[]⟩,.string ⟨#[]⟩,.int .i64 0,.int .i64 0,.int .i64 0,.bool false,.slice none 0 0,.slice none 0 0,.slice none 0 0,.slice none 0 0,.slice none 0 0,.slice none 0 0,.int .i64 0],.iface 195 (.pointer (some (E i)))]) mF rfl ⟨tN (sb1 (sb1 (sb1 (sb1 (sb1 (sb1 (sb1 (sb1 (sb1 (sb1 (sb1 (sb1 (sb1 (sb1 (sb1 (HB.out)))))))))))))))) fZ _,.inl ⟨i,hi8,HWY.out,rfl⟩⟩
 have HOK:=aa hok;have HVR:=aa hvr;clear hok hvr;have ev:=(HE.below HB.out).v8;have evl:=bg ev;by_cases hd:n.d=x;rotate_left
 ·have HD:=aa hd;have hdb:(n.d==x)=false:=by simpa using hd
  clear hd;obtain⟨r0,r1,r2,r3,r4,r5,r6,r7,r8,r9,r10,r11,r12,r13,r14⟩:=kB Br.out;obtain⟨fr0,fr1,fr2,fr3,fr4,fr5,fr6,fr7,fr8,fr9,fr10,fr11,fr12,fr13,fr14,hrl,hkl,hn1,hn2⟩:=oZ;go_wp2;exact bodyPost_ret (v:=.tuple #[.agg #[.int .i64 n.u,.int .i64 c.now,.string n.n,.string n.z,.int .i64 n.c,.int .i64 n.s,.int .i64 n.u,.bool n.d,.slice va vl vc,.slice d.a1 d.l1 d.c1,.slice d.a2 d.l2 d.c2,.slice d.a3 d.l3 d.c3,.slice d.a4 d.l4 d.c4,.slice d.a5 d.l5 d.c5,.int .i64 c.now],.iface 195 (.pointer (some (E 8)))]) mF rfl ⟨tN (sb1 (sb1 (sb1 (sb1 (sb1 (sb1 (sb1 (sb1 (sb1 (sb1 (sb1 (sb1 (sb1 (sb1 (sb1 (HB.out)))))))))))))))) fZ _,.inr ⟨n,va,vl,vc,HOK.out,.inl ⟨HD.out,rfl⟩⟩⟩
 have HD:=aa hd;have hdb:(n.d==x)=true:=by simpa using hd
 clear hd;obtain⟨r0,r1,r2,r3,r4,r5,r6,r7,r8,r9,r10,r11,r12,r13,r14⟩:=kB Br.out;obtain⟨fr0,fr1,fr2,fr3,fr4,fr5,fr6,fr7,fr8,fr9,fr10,fr11,fr12,fr13,fr14,hrl,hkl,hn1,hn2⟩:=oZ;go_wp2;exact bodyPost_ret (v:=.tuple #[.agg #[.int .i64 n.u,.int .i64 c.now,.string n.n,.string n.z,.int .i64 n.c,.int .i64 n.s,.int .i64 n.u,.bool n.d,.slice va vl vc,.slice d.a1 d.l1 d.c1,.slice d.a2 d.l2 d.c2,.slice d.a3 d.l3 d.c3,.slice d.a4 d.l4 d.c4,.slice d.a5 d.l5 d.c5,.int .i64 c.now],.nilIface]) mF rfl ⟨tN (sb1 (sb1 (sb1 (sb1 (sb1 (sb1 (sb1 (sb1 (sb1 (sb1 (sb1 (sb1 (sb1 (sb1 (sb1 (HB.out)))))))))))))))) fZ _,.inr ⟨n,va,vl,vc,HOK.out,.inr ⟨HD.out,rfl,HVR.out⟩⟩⟩

theorem lE {α:Type} {nm:α->ByteArray} {t:ByteArray} {xs:List α} {k:Nat} {x:α} (hr:aG nm xs) (hx:xs[k]?=some x) (hn:nm x=t):wo nm t xs=xs.take k++xs.drop (k+1):=by
 have hk:k<xs.length:=(sv.1 hx).1;have e:xs=xs.take k++x ::xs.drop (k+1):=by
  have h1:xs.drop k=x ::xs.drop (k+1):=by rw[List.drop_eq_getElem_cons hk];congr 1;exact (sv.1 hx).2
  rw[<-h1,List.take_append_drop]
 have hno:∀(j:Nat) y,xs[j]?=some y->¬j=k->(!((nm y).toList==t.toList))=true:=fun j y hj hne=>by
  have:¬nm y=t:=fun q=>hne (hr.inj hj hx (q.trans hn.symm)).1;simp[bz this]
 have h1:(xs.take k).filter (fun x=> !((nm x).toList==t.toList))=xs.take k:=List.filter_eq_self.2 fun y hy=>by
  obtain⟨j,hj⟩:=List.getElem?_of_mem hy;rw[sW] at hj;split at hj
  ·exact hno j y hj af
  ·cases hj
 have h2:(xs.drop (k+1)).filter (fun x=> !((nm x).toList==t.toList))=xs.drop (k+1):=List.filter_eq_self.2 fun y hy=>by
  obtain⟨j,hj⟩:=List.getElem?_of_mem hy;rw[tO] at hj;exact hno _ y hj af
 unfold wo;conv=>lhs;rw[e]
 rw[List.filter_append,List.filter_cons,h1,h2,ba hn];rfl
theorem o8 {α:Type} {nm:α->ByteArray} {ps:List α} {t:ByteArray} {k:Nat} {x y:α} (hr:aG nm ps) (hx:ps[k]?=some x) (hn:nm x=t):cw (pl nm (wo nm t ps) t) y (wo nm t ps)=ps.set k y:=by
 have hk:k<ps.length:=(sv.1 hx).1;have hw:=lE hr hx hn;have hpl:pl nm (wo nm t ps) t=k:=by
  rw[hw];have hlt:∀(j:Nat) z,j<k->(ps.take k++ps.drop (k+1))[j]?=some z->sJ (nm z).toList t.toList=true:=fun j z hj hz=>by
   have h1:(ps.take k).length=k:=by rw[sU];omega
   rw[sX af,sW,if_pos hj] at hz;have:=hr.lt hj hz hx;rw[hn] at this;exact this
  by_cases he:k+1<ps.length
  ·have h1:(ps.take k).length=k:=by rw[sU];omega
   have h2:(ps.take k++ps.drop (k+1))[k]?=some ps[k+1]:=by
    rw[tf af,h1,Nat.sub_self,tO];exact sA he
   refine n9 hlt h2 ?_;have h3:=hr.lt (Nat.lt_succ_self k) hx (sA he);rw[hn] at h3;cases h9:sJ (nm ps[k+1]).toList t.toList
   ·rfl
   ·have h8:=dN _ _ _ h3 h9;rw[dh] at h8;cases h8
  ·have h4:ps.take k++ps.drop (k+1)=ps.take k:=by rw[List.drop_eq_nil_of_le af,List.append_nil]
   rw[h4];rw[h4] at hlt;have h1:(ps.take k).length=k:=by rw[sU];omega
   rw[fG (fun j z hz=>hlt j z bI hz),h1]
 rw[hpl,hw];unfold cw;have h1:(ps.take k).length=k:=by rw[sU];omega
 rw[ud h1,List.drop_left' h1,List.set_eq_take_append_cons_drop,if_pos hk];simp
theorem n7 {c:Cl} {n m:Nd} {k:Nat} (hr:bV c) (hx:c.ns[k]?=some n) (hn:n.n=m.n):n8 c m=⟨c.ns.set k m,c.ks,c.vs,c.xs,c.ps,c.now⟩:=by
 unfold n8;rw[o8 hr.2.1.1.2.2 hx hn]

end Rc
end Go.Proofs.YtdfgbboadbnodaaGreatDoor

namespace Go.Proofs.YtdfgbboadbnodaaGreatDoor
open Go.RowKit
namespace Rc

section
variable {P:Program}
end

end Rc
end Go.Proofs.YtdfgbboadbnodaaGreatDoor

namespace Go.Proofs.YtdfgbboadbnodaaGreatDoor
open Go.RowKit
namespace Rc
open Mk

theorem loq {p:Prop} (h:p:=by first|omega|(obtain⟨s,_⟩:=s;omega)|(rcases s with s|s <;> omega)|(rcases s with (s|s)|s <;> omega)):p:=h
def UF (w:World) (g:Nat):Prop:=∃cs T,w.heap[g]?=some (.cells cs T (0,0))
def LoA (B:Nat) (w:World) (a:Option Addr) (len:Nat):Prop:=len=0\/∃b o,a=some ⟨b,o,none⟩/\B<=b/\UF w b
structure Low (B:Nat) (w:World) (d:Ad):Prop where
 n:LoA B w d.a1 d.l1
 k:LoA B w d.a2 d.l2
 v:LoA B w d.a3 d.l3
 x:LoA B w d.a4 d.l4
 p:LoA B w d.a5 d.l5
theorem lo0 (B:Nat) (w:World):Low B w ad0:=⟨.inl rfl,.inl rfl,.inl rfl,.inl rfl,.inl rfl⟩
theorem ax.lo {w:World} {a:Option Addr} {len cap m:Nat} {T:TypeId} {rs:List (List Fv)} {S:Nat->Prop} (h:ax w a len cap m T rs S) {B:Nat} (hS:∀k,S k->B<=k):LoA B w a len:=by
 obtain⟨h1,_,_,h4⟩:=h;rcases h4 with h4|⟨g,cur,H,h5,h6⟩
 ·subst h4;exact .inl h1.symm
 ·exact .inr ⟨g,0,h5,hS g h6.inS,_,_,h6.blk⟩
def RL (B:Nat) (w:World) (a:Option Addr) (len cap m:Nat) (rs:List (List Fv)):Prop:=aA w a len cap m rs/\LoA B w a len
theorem ax.rl {w:World} {a:Option Addr} {len cap m:Nat} {T:TypeId} {rs:List (List Fv)} {S:Nat->Prop} {B:Nat} (h:ax w a len cap m T rs S) (hS:∀k,S k->B<=k):RL B w a len cap m rs:=⟨h.row,h.lo hS⟩
structure kE (B:Nat) (w:World) (d:Ad) (c:Cr):Prop where
 n:RL B w d.a1 d.l1 d.c1 7 c.n
 k:RL B w d.a2 d.l2 d.c2 4 c.k
 v:RL B w d.a3 d.l3 d.c3 8 c.v
 x:RL B w d.a4 d.l4 d.c4 5 c.x
 p:RL B w d.a5 d.l5 d.c5 6 c.p
theorem kE.row {B:Nat} {w:World} {d:Ad} {c:Cr} (h:kE B w d c):aL w d c:=⟨h.n.1,h.k.1,h.v.1,h.x.1,h.p.1⟩
theorem kE.of {B:Nat} {w:World} {d:Ad} {c:Cr} (h:aL w d c) (l:Low B w d):kE B w d c:=⟨⟨h.n,l.n⟩,⟨h.k,l.k⟩,⟨h.v,l.v⟩,⟨h.x,l.x⟩,⟨h.p,l.p⟩⟩
theorem rl0 (B:Nat) (w:World):kE B w ad0 cl0.raw:=kE.of (rA w (fun _=>True)).row (lo0 B w)
def rm (Is:Co->Prop) (w:World) (e:Ending) (w':World):Prop:=∃g o,e=.returned (.agg #[.slice g.a1 g.l1 g.c1,.slice g.a2 g.l2 g.c2,.slice g.a3 g.l3 g.c3,.slice g.a4 g.l4 g.c4,.slice g.a5 g.l5 g.c5,.int .i64 o.c.now,.string o.n,.int .i64 o.p])/\Is o/\kE w.heap.size w' g o.c.raw/\Below w.heap.size w w'
theorem rm.s {Is:Co->Prop} {w:World} {e:Ending} {w':World} (h:rm Is w e w'):rL Is w e w':=by
 obtain⟨g,o,h1,h2,h3,h4⟩:=h;exact⟨g,o,h1,h2,h3.row,h4⟩

def sq (c:Cl) (t:ByteArray) (w:World) (e:Ending) (w':World):Prop:=Below w.heap.size w w'/\((∃i p,bY c t i/\p=cL i/\¬p=0/\e=.returned (.tuple #[.int .i64 0,.int .i64 p]))\/∃(j:Nat) (n:Nd),c.ns[j]?=some n/\cB c t n/\e=.returned (.tuple #[.int .i64 j,.int .i64 0]))

theorem lO (d:Ad) (c:Cl) (t:ByteArray) (w:World) (hr:aL w d c.raw):
  Calls Tryz.prog 21 #[.agg #[.slice d.a1 d.l1 d.c1,.slice d.a2 d.l2 d.c2,.slice d.a3 d.l3 d.c3,.slice d.a4 d.l4 d.c4,.slice d.a5 d.l5 d.c5,.int .i64 c.now],.string t] w (sq c t w):=by
 obtain⟨HR,HB⟩:=eS;clear hr;go_enter Tryz.func21,Tryz.ntmps21;go_wp2_with fail;refine (mC d c t _ (HR.below (HB.trans ((aj _ _).mono HB.size)))).mono ?_;rintro e w1 ⟨p,rfl,hp,hb⟩;obtain⟨HA0,hbx⟩:=aJ hb;have Bk:=aa HA0;replace HB:=upB HB hbx;clear hb hbx HA0;have hp0:(¬p=0/\∃i,bY c t i/\p=cL i)\/(p=0/\¬8000<t.size/\bV c):=by
  rcases hp with ⟨h1,rfl⟩|⟨h1,h2,rfl⟩|⟨h1,h2,rfl⟩
  ·exact .inl ⟨by decide,0,h1,rfl⟩
  ·exact .inl ⟨by decide,1,⟨h1,h2⟩,rfl⟩
  ·exact .inr ⟨rfl,h1,h2⟩
 clear hp;rcases hp0 with ⟨hp0,i,hw,hpi⟩|⟨rfl,hl,hT⟩
 ·have HP:=aa (sw hw (sw hpi hp0));have hp1:(p==0)=false:=by simpa using hp0
  clear hw hpi hp0;obtain⟨k0,k1,k2,k3,k4,k5⟩:=cs6 Bk;go_wp2;exact bodyPost_ret (v:=.tuple #[.int .i64 0,.int .i64 p]) mD rfl ⟨HB.out,.inl ⟨i,p,HP.1,HP.2.1,HP.2.2,rfl⟩⟩
 have HT:=aa hT;clear hT;obtain⟨k0,k1,k2,k3,k4,k5⟩:=cs6 Bk;go_wp2_with fail;refine (dW d c.now c.ns t _ (HR.n.below HB.out)).mono ?_;rintro e w2 ⟨hb,hf⟩;clear k0 k1 k2 k3 k4 k5;replace Bk:=upK Bk hb;replace HB:=upB HB hb;clear hb;rcases hf with ⟨j,n,hn,hnn,rfl⟩|⟨hno,rfl⟩
 ·have hj0:¬(j:Int)<0:=af
  have HN:=aa (sw hn hnn);clear hn hnn;obtain⟨k0,k1,k2,k3,k4,k5⟩:=cs6 Bk;go_wp2;exact bodyPost_ret (v:=.tuple #[.int .i64 j,.int .i64 0]) mD rfl ⟨HB.out,.inr ⟨j,n,HN.1,⟨hl,HT.out,by rw[(cx HT.2.1.1.2.2 HN.1 HN.2).1];exact HN.1,HN.2⟩,rfl⟩⟩
 have HN:=aa hno;clear hno;obtain⟨k0,k1,k2,k3,k4,k5⟩:=cs6 Bk;go_wp2;exact bodyPost_ret (v:=.tuple #[.int .i64 0,.int .i64 6]) mD rfl ⟨HB.out,.inl ⟨2,6,⟨hl,HT.out,ri HN.out⟩,rfl,by decide,rfl⟩⟩

end Rc
end Go.Proofs.YtdfgbboadbnodaaGreatDoor

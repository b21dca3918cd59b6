import Derived.Test.YtjgjhkkmlaacdaaGreatDoorA3
import Derived.Deep.AppendLies
import Derived.Lib.Overlaps
import Derived.Lib.SliceRun
import Derived.Lib.AppendZerosOnto
import Derived.Deep.RegionLaw
import Derived.Shelf.RegionOpenPlain
/-
 Things and lists of them in memory of their own, as the program makes them.
-/
set_option maxRecDepth 100000
set_option maxHeartbeats 12800000
open And renaming intro→vA
open Array renaming getD_eq_getD_getElem?→vJ, getElem?_push_size→vP, getElem?_eq_some_iff→vT, getElem?_setIfInBounds→vY, length_toList→xp
open Bool renaming and_eq_true→vZ, and_eq_false_iff→xi
open Go.Addr renaming add_lit→wv
open Go.Builtin renaming append_→wV, firstCells→xu, copy_→xA
open Go.Calls renaming quiet_of_same→vW
open Go.Op renaming bytesLess→vM
open Go.Region renaming ready→wC, wanted→wU
open Go.RowKit.Below renaming heap_setCell→vB, refl→vG, heap_alloc→vS, alloc→xn
open Go.Value renaming string→vU, ownBlock→xE
open Go.World renaming setCell→wm, ownsRow_nil→wK, cell?_of_block→wL
open Int renaming le_trans→wi, add_assoc→wO
open List renaming getElem?_eq_some_iff→vz, getElem?_eq_getElem→vF, lookup→vH, take_of_length_le→vK, getElem?_map→vL, length_take→vX, getElem?_take→wb, getElem?_append_left→wh, length_map→wj, length_append→wk, setIfInBounds_toArray→wq, getElem?_append_right→wu, take_add_one→wA, mem_of_getElem?→wD, all_eq_true→wE, getElem?_eq_none→wG, mem_cons→wH, length_drop→wI, set_cons_zero→wM, range→wN, forall_mem_cons→wP, eq_nil_of_length_eq_zero→wQ, getElem?_of_mem→wR, not_mem_nil→wS, set_cons_succ→wT, drop_eq_nil_of_le→wW, append_assoc→wX, getElem?_drop→wZ, map_set→xh, length_cons→xq, take_left'→xx, size_toArray→xC, foldr→xD, getLast→xF
open Nat renaming le_refl→vD, le_trans→vI, lt_of_lt_of_le→vN, le_succ→vV, zero_add→we
open Option renaming map_eq_some_iff→vO
open Option.some renaming inj→vC, injEq→wJ
open Prod.mk renaming injEq→xz
namespace Go.Proofs.YtjgjhkkmlaacdaaGreatDoor
theorem gW {p:Prop} (h:p:=by simp[wm];have:=HB.size;omega):p:=h
theorem mq {p:Prop} (h:p:=by rw[<-List.flatten_append,List.take_append_drop]):p:=h
theorem mm {p:Prop} (h:p:=by simp[results,Tryz.results86,go_sem, *]):p:=h
theorem jn {p:Prop} (h:p:=by rw[vX];omega):p:=h
theorem jm {p:Prop} (h:p:=by simp[Value.oneCell']):p:=h
theorem mj {p:Prop} (h:p:=by simp[Act.eval,Act.put]):p:=h
theorem rV {p:Prop} (h:p:=by simp only[wk,vX,wI];omega):p:=h
end Go.Proofs.YtjgjhkkmlaacdaaGreatDoor
namespace Go.Proofs.YtjgjhkkmlaacdaaGreatDoor
theorem tm {p:Prop} (h:p:=by
 go_enter Tryz.func119,Tryz.ntmps119;go_wp2_with (first|(at_builtin;refine ch rfl _ _ 143 30 rfl base 56 56 i0 (.agg #[.string ⟨#[]⟩,.string ⟨#[]⟩,.int .i64 0,.int .i64 0,.int .i64 0,.bool false,.slice none 0 0]) 7 88 Tryz.underlying143 Tryz.underlying30 HI0.1 HI0.2.1 HI0.2.2.1 HI0.2.2.2 rfl ak _ _ _ rfl HO.out ⟨vb,0,none⟩ 1 1 ys rfl af HYN.out HY1.out di af hbs ?_));intro v' w' h1 h2;have H1:=aa h1;have H2:=aa h2;clear h1 h2;go_wp2;go_ret;exact⟨v',rfl,H1.out,H2.out⟩):p:=h
theorem gg {p:Prop} (h:p:=by
 go_simp;refine hK _ _ (Rv.other ak (vG _ _)) ?_;with_reducible rfl):p:=h
theorem oX {p:Prop} (h:p:=by
 rw[<-e1] at hV;have HV3:=aa hV;have HB3:=aa ((HB.trans (hb23.mono hBs)).grown hgrow bU (fun g hg=>(HO2.lt g hg).1));clear hown3 hgrow hb23 hV e1;go_wp2;exact⟨⟨k+1,_,_,by omega,by go_num,HO3,HV3,HB3⟩,by simp[intOf];omega⟩):p:=h
theorem s_ {p:Prop} (h:p:=by
 rw[<-e1] at hs3;have HS1:=aa hs1;have HS2:=aa hs2';have HS3:=aa hs3;have HS4:=aa hs4;obtain⟨o0,o1,o2,o3,o4,o5⟩:=cs6 bo5;have fo0:=ar bo5 0;have fo2:=ar bo5 2;have fo4:=ar bo5 4;clear hs1 hs2' hs3 hs4 bo5 hown5 hgrow e1;go_wp2;exact⟨⟨k+1,_,H',_,by omega,by go_num,HS1,HS2,HS3,HS4⟩,by simp[intOf];omega⟩):p:=h
theorem sO {p:Prop} (h:p:=by
 rw[wA,vL,hx,List.set_append_right _ _ af,h1,Nat.sub_self];have h2:ps.drop k=x ::ps.drop (k+1):=by rw[List.drop_eq_getElem_cons hk];rw[(vz.1 hx).2]
 rw[h2];simp):p:=h
theorem oM {p:Prop} (h:p:=by
 rintro e w6 ⟨a',c',rfl,ho,hb6⟩;exact hK _ _ hb6 ⟨a',c',rfl,ho.cX (fun k hk s=>⟨s,hk⟩),Below.size hW⟩):p:=h
theorem mE {p:Prop} (h:p:=by
 rw[wA,h,List.filter_append,List.map_append];simp[hv]):p:=h
theorem oK {p:Prop} (h:p:=by
 rw[hl5] at HR5;rw[hl5];clear h5 hR HV HO;go_wp2;go_ret;exact⟨a',c',rfl,HR5.out,HB.out⟩):p:=h
theorem sG {p:Prop} (h:p:=by
 intro j u hu;cases j with
 | zero=>
  simp only[List.getElem?_cons_zero,wJ] at hu;subst hu;rw[wv];exact aB (heap_alloc_new _ _) 0
 | succ j=>simp at hu):p:=h
theorem sD {p:Prop} (h:p:=by
 intro a' c' w' hR hb6;have hsw:=hW.size;exact hK _ _ hb6 ⟨a',c',rfl,hR.cX (fun k _ s=>by show W.heap.size<=k;rcases s with rfl|s <;> omega)⟩):p:=h
theorem kT {p:Prop} (h:p:=by
 go_enter Tryz.func32,Tryz.ntmps32;go_wp2;go_ret;exact⟨rfl,ai _ _⟩):p:=h
theorem pQ {p:Prop} (h:p:=by
 exact bodyPost_ret (v:=.tuple #[]) (by simp[results,Tryz.results22,go_sem]) rfl ⟨⟨_,rfl⟩,HO2.out,HK.out⟩):p:=h
theorem pN {p:Prop} (h:p:=by
 rw[wu bU];simp[Nat.min_eq_left (show k<=ps.length by omega)]):p:=h
theorem fu {p:Prop} (h:p:=by
 refine Gi.Obl.plain rfl ?_;intro ac wg K lo hi hsz hW hpr hf hap hK;clear hsz hap hpr;have e1:=hf 1 ak;simp[Gi.aq,vH] at e1;clear hf;exact bT):p:=h
theorem ft {p:Prop} (h:p:=by
 clear hf;obtain⟨k0,k1,k2,k3,k4,k5⟩:=cs6 ((Below.block hW _ (ae Bk.out)).trans Bk.out);exact bT):p:=h
theorem fq {p:Prop} (h:p:=by
 clear hf;obtain⟨k0,k1,k2,k3,k4,k5⟩:=cs6 ((hW.block _ (ae Bk.out)).trans Bk.out);exact bT):p:=h
theorem ir {p:Prop} (h:p:=by
 refine Obl.plain rfl ?_;intro ac wg K hsz hW hf hK;clear hsz;have e1:=hf 1 ak;simp[aq,vH] at e1;clear hf;exact bT):p:=h
theorem pA {p:Prop} (h:p:=by
 refine Gi.Obl.plain rfl ?_;intro ac wg K lo hi hsz hW hpr hf hap hK;clear hsz hap hpr;have hW:wr.grownBy wg v.ownBlock:=hW;have e3:=hf 3 ak;simp[Gi.aq,vH] at e3;clear hf;exact gg):p:=h
theorem kN {p:Prop} (h:p:=by
 show World.ownsRow _ _ _ _ _ _ _;rw[List.flatten_append];simpa using hown3):p:=h
theorem eK {p:Prop} (h:p:=by
 have fr0:=ar Br.out 0;have fr1:=ar Br.out 1;have fr2:=ar Br.out 2;have fr3:=ar Br.out 3;have fr4:=ar Br.out 4;have fr5:=ar Br.out 5;exact vA fr0 (vA fr1 (vA fr2 (vA fr3 (vA fr4 fr5))))):p:=h
theorem oF {p:Prop} (h:p:=by
 have hXs:=HBX.size;have HBW:=aa (HBX.trans (HK.low (X:=w.heap.size) hXs (fun k s=>by rcases s with rfl|s <;> omega)));have BkR:=aa ((HK.block w.heap.size af (fun s=>by rcases s with s|s <;> omega)).trans Bk.out);have hKs:=HK.size;exact vA hXs (vA HBW (vA BkR hKs))):p:=h
theorem oC {p:Prop} (h:p:=by
 have HG:=aa hg;have HX2:=aa hbx;have HO2:=aa (bf HO.out hbx);have hs2:wr.heap.size<w2.heap.size:=by have:=hb2.size;rw[ct] at this;omega
 exact vA HG (vA HX2 (vA HO2 hs2))):p:=h
theorem se {p:Prop} (h:p:=by
 have Br:Hid (W.heap[w.heap.size+1]?=some (.cells (clo6 none 0 0 none 0 0 none 0 0 none 0 0 none 0 0 0) 36 (0,0))):=by rw[hW0];exact bV _ _ _
 have hWs:W.heap.size=w.heap.size+1+1:=by rw[hW0];simp
 exact vA Br hWs):p:=h
theorem rX {p:Prop} (h:p:=by
 have hs2:wr.heap.size+1<w2.heap.size:=by have:=hb2.size;simp at this;omega
 have hsl:∀k,(k=wr.heap.size+1\/wr.heap.size+1+1<=k)->wr.heap.size+1<=k:=fun k s=>by omega
 exact vA hs2 hsl):p:=h
theorem oy {p:Prop} (h:p:=by
 have hz8:vl<=8001:=by have h1:=hvr.1;have h2:=HS.out k x hx;omega
 have HX:=aa hx;have HT:=aa hvr;have HZz0:=aa z0;exact vA hz8 (vA HX (vA HT HZz0))):p:=h
theorem rW {p:Prop} (h:p:=by
 have HG:Hid (∀zs:List ByteArray,x.zs=zs->zs≠[]->wr.heap.size<=g):=fun zs e hz=>by subst e;have:=hsl _ (hg.lt hz).1;omega
 have HB4:=aa hb4;have HO4:=aa (bf HO.out hb4);exact vA HG (vA HB4 HO4)):p:=h
end Go.Proofs.YtjgjhkkmlaacdaaGreatDoor
namespace Go.Proofs.YtjgjhkkmlaacdaaGreatDoor
open Go.RowKit
namespace Rc
open Mk

theorem bE.fr {w:World} {a:Option Addr} {l c:Nat} {zs:List ByteArray} {S:Nat->Prop} (h:bE w a l c zs S):∃g,LFr w g S zs (.slice a l c):=by
 obtain⟨⟨h1,h2,h3,h4,h5⟩,h6⟩:=h;rcases h6 with rfl|⟨g,cur,rfl,hS,hg⟩
 ·exact⟨0,_,_,_,rfl,h1,h2,h3,h4,.inl rfl⟩
 ·refine⟨g,_,_,_,rfl,h1,h2,h3,h4,h5.imp id ?_⟩;rintro⟨b,o,e,hlt,hc⟩;cases e;exact⟨rfl,hS,cur,hg,fun j x hx=>by have:=hc j x hx;rw[aB hg,we] at this;exact this⟩
theorem LFr.lt {w:World} {h:Nat} {S:Nat->Prop} {zs:List ByteArray} {v:Value} (k:LFr w h S zs v) (hz:zs≠[]):S h/\h<w.heap.size:=by
 obtain⟨a',l',c',h1,h2,h3,h4,h5,h6⟩:=k;rcases h6 with h6|⟨_,q2,cu,q4,_⟩
 ·exact absurd h6 hz
 ·exact⟨q2,ae q4⟩
theorem cV (w:World) (vs:List Value) (T:TypeId):∀(j:Nat) u,vs[j]?=some u->(w.alloc (.cells vs.toArray T)).cell? ((⟨w.heap.size,0,none⟩:Addr).add j)=some u:=by
 intro j u hu;rw[wv,aB (heap_alloc_new w _),we];simpa using hu
theorem aN.app {w W w':World} {S:Nat->Prop} {m:Nat} {rs:List (List Fv)} {vss:List (List Value)} {H:Nat->Nat->Nat} {base n:Nat} {T:TypeId} {v:Value} {xs:List Value} (h:aN w S m rs vss H) (hb:Below w.heap.size w W) (ho:W.ownsRow base T m v n xs) (hT:¬T=9) (hg:W.grownBy w' v.ownBlock)
  {r:List Fv} {vs:List Value} {hh:Nat} (hr:r.length=m) (hvs:vs.length=m) (hc:∀(i:Nat) f,r[i]?=some f->∃v,vs[i]?=some v/\f.Fr W hh S v) (hfr:∀(i:Nat) zs,r[i]?=some (.l zs)->zs≠[]->w.heap.size<=hh)
  (h1:∀(i i':Nat) zs zs',r[i]?=some (.l zs)->zs≠[]->r[i']?=some (.l zs')->zs'≠[]->i=i'):aN w' S m (rs++[r]) (vss++[vs]) (fun j=>if j=rs.length then fun _=>hh else H j):=
 ((h.below hb).push hr hvs hc (fun i zs a b j r' i' zs' c d e q=>by have q1:=h.lt c d e;have q2:=hfr i zs a b;omega) h1).grown ho hT hg

theorem nB {x:Nd} {i:Nat} {zs:List ByteArray} (h:(ndF x)[i]?=some (.l zs)):i=6/\zs=x.zs:=by
 rcases i with _|_|_|_|_|_|_|i
 ·cases h
 ·cases h
 ·cases h
 ·cases h
 ·cases h
 ·cases h
 ·cases h;exact⟨rfl,rfl⟩
 ·simp[ndF] at h
theorem tz {w:World} {x:Nd} {g:Nat} {Q:Nat->Prop} {a:Option Addr} {l c:Nat} (hn:x.n.size<=9223372036854775807) (hz:x.z.size<=9223372036854775807) (hl:LFr w g Q x.zs (.slice a l c)):∀(i:Nat) f,(ndF x)[i]?=some f->∃v,[.string x.n,.string x.z,.int .i64 x.c,.int .i64 x.s,.int .i64 x.u,.bool x.d,.slice a l c][i]?=some v/\f.Fr w g Q v:=by
 intro i f h;rcases i with _|_|_|_|_|_|_|i
 ·cases h;exact⟨_,rfl,rfl,hn⟩
 ·cases h;exact⟨_,rfl,rfl,hz⟩
 ·cases h;exact⟨_,rfl,rfl⟩
 ·cases h;exact⟨_,rfl,rfl⟩
 ·cases h;exact⟨_,rfl,rfl⟩
 ·cases h;exact⟨_,rfl,rfl⟩
 ·cases h;exact⟨_,rfl,hl⟩
 ·simp[ndF] at h

theorem gE (x:Nd) (va:Option Addr) (vl vc:Nat) (w:World) (hr:av w va vl vc x.zs) (hl:vl<=8001):
  Calls Tryz.prog 95 #[.agg #[.string x.n,.string x.z,.int .i64 x.c,.int .i64 x.s,.int .i64 x.u,.bool x.d,.slice va vl vc]] w fun e w'=> ∃a' l' c',e=.returned (.agg #[.string x.n,.string x.z,.int .i64 x.c,.int .i64 x.s,.int .i64 x.u,.bool x.d,.slice a' l' c'])/\bE w' a' l' c' x.zs (fun k=>w.heap.size<=k)/\Below w.heap.size w w':=by
 obtain⟨HR,HB⟩:=eH;clear hr;go_enter Tryz.func95,Tryz.ntmps95;go_wp2_with fail;refine (Ap.iv va vl vc x.zs _ (HR.below (HB.trans ((aD _ _ _).mono HB.size))) hl).mono ?_;rintro e w1 ⟨a',l',c',rfl,h1,h2,hb⟩;obtain⟨HA0,HA1,hbx⟩:=bN hb;have Bp:=aa HA0;have Br:=aa HA1;replace HB:=upB HB hbx;clear hb hbx HA0 HA1;have HO:Hid (bE w1 a' l' c' x.zs (fun k=>w.heap.size+1+1<=k)):=⟨h1,h2.imp id fun ⟨g,cur,e1,e2,e3⟩=>⟨g,cur,e1,by simpa using e2,e3⟩⟩;clear h1 h2;obtain⟨p0,p1,p2,p3,p4,p5,p6⟩:=cs7 Bp;obtain⟨r0,r1,r2,r3,r4,r5,r6⟩:=cs7 Br;obtain⟨fr0,fr1,fr2,fr3,fr4,fr5⟩:=eK;have fp6:=ar Bp.out 6;have fr6:=ar Br.out 6;go_wp2_with fail;refine bodyPost_ret (v:=.agg #[.string x.n,.string x.z,.int .i64 x.c,.int .i64 x.s,.int .i64 x.u,.bool x.d,.slice a' l' c']) (by simp[results,Tryz.results95,go_sem, *]) rfl ⟨a',l',c',rfl,HO.aH (fun k _ s=>by have s1:w.heap.size+1+1<=k:=s;rw[vB _ _ _ _ (show k≠w.heap.size+1 by omega),vB _ _ _ _ (show k≠w.heap.size+1 by omega),vB _ _ _ _ (show k≠w.heap.size+1 by omega),vB _ _ _ _ (show k≠w.heap.size+1 by omega),vB _ _ _ _ (show k≠w.heap.size+1 by omega),vB _ _ _ _ (show k≠w.heap.size+1 by omega),vB _ _ _ _ (show k≠w.heap.size+1 by omega),vB _ _ _ _ (show k≠w.heap.size by omega)]) (fun k _ s=>by have s1:w.heap.size+1+1<=k:=s;show w.heap.size<=k;omega),sb1 (sb1 (sb1 (sb1 (sb1 (sb1 (sb1 (ah (vD _) (HB.out))))))))⟩

theorem iE (a:Option Addr) (len cap:Nat) (xs:List Nd) (w:World) (hr:aE w a len cap 7 (xs.map ndF)) (hl:len<=8) (hs:∀(j:Nat) x,xs[j]?=some x->x.zs.length<=8001):
  Calls Tryz.prog 113 #[.slice a len cap,.func (.func 95) #[] #[]] w fun e w'=> ∃a' c',e=.returned (.slice a' len c')/\au w' a' len c' 7 56 (xs.map ndF) (fun k=>w.heap.size<=k)/\Below w.heap.size w w':=by
 have HR:=aa hr;have HS:=aa hs;have hxl:xs.length=len:=dJ
 clear hr hs;obtain⟨i0,hi,hz0,hz1,hz2⟩:=info_parts fz;have HI0:=aa (vA hi (vA hz0 (vA hz1 hz2)));clear hi hz0 hz1 hz2;go_enter Tryz.func113,Tryz.ntmps113;go_wp2;go_loopw [5,10] (fun vo vi wr=> ∃(k:Nat) (vss:List (List Value)) (H:Nat->Nat->Nat),k<=len/\vi=.int .i64 k/\Hid (wr.ownsRow w.heap.size 56 7 vo k vss.flatten)/\Hid (aN wr (fun k=>w.heap.size<=k) 7 ((xs.take k).map ndF) vss H)/\Hid (Below w.heap.size w wr)) (fun _ vi _=>len - (intOf vi).toNat);case atStart=>exact⟨0,[],fun _ _=>0,by omega,rfl,wK _ _ _ _,aN.nil _ _ _ _,vG _ _⟩
 case round=>
  obtain⟨k,vss,H,hk,rfl,HO,HV,HB⟩:=hrel;have hBs:=HB.size;by_cases hlt:k<len
  ·obtain⟨b,o,x,rfl,hb,hx,hat⟩:=bJ (HR.below HB.out) hlt;obtain⟨va,vl,vc,hvr,z0,z1,c0,c1,c2,c3,c4,c5,c6⟩:=aO hat;obtain⟨hz8,HX,HT,HZz0⟩:=oy;have HZz1:=aa z1;clear hat hx hvr z0 z1;go_wp2_with fail;refine (gE x va vl vc _ (HT.below (ai _ _)) hz8).mono ?_;rintro e w2 ⟨a',l',c',rfl,ho,hb2⟩;obtain⟨-,hbx⟩:=aJ hb2;rw[ct] at ho;obtain⟨g,hg⟩:=ho.fr;obtain⟨HG,HX2,HO2,hs2⟩:=oC;clear ho hb2 hbx hg hb c0 c1 c2 c3 c4 c5 c6;go_wp2_with (first|(at_builtin;refine wpList_append_own _ rfl _ _ 30 rfl w.heap.size 56 i0 (.agg #[.string ⟨#[]⟩,.string ⟨#[]⟩,.int .i64 0,.int .i64 0,.int .i64 0,.bool false,.slice none 0 0]) 7 88 Tryz.underlying30 HI0.1 HI0.2.1 HI0.2.2.1 HI0.2.2.2 rfl ak _ _ _ rfl (HO2.alloc _) ⟨w2.heap.size,0,none⟩ 1 1 [.string x.n,.string x.z,.int .i64 x.c,.int .i64 x.s,.int .i64 x.u,.bool x.d,.slice a' l' c'] rfl rfl ?c1 ?c2 ?c3 ?c4 ?c5 ?_));case c1=>exact cV _ _ _
   case c2=>intro u hu;simp only[wH,wS,or_false] at hu;rcases hu with rfl|rfl|rfl|rfl|rfl|rfl|rfl <;> rfl
   case c3=>unfold maxLen;omega
   case c4=>omega
   case c5=>simp;omega
   rintro v' w3 hown3 hgrow -;have HO3:Hid (w3.ownsRow w.heap.size 56 7 v' (k+1) (vss++([[.string x.n,.string x.z,.int .i64 x.c,.int .i64 x.s,.int .i64 x.u,.bool x.d,.slice a' l' c']]:List (List Value))).flatten):=by
    exact kN
   have hb23:Below wr.heap.size wr (w2.alloc (.cells (nov x a' l' c') 56)):=HX2.trans ((ai _ _).mono (Nat.le_of_lt hs2));have hV:=HV.app (r:=ndF x) (vs:=[.string x.n,.string x.z,.int .i64 x.c,.int .i64 x.s,.int .i64 x.u,.bool x.d,.slice a' l' c']) (hh:=g) hb23 (HO2.alloc _) ak hgrow rfl rfl
    (tz HZz0.out HZz1.out (HG.aH (S':=fun k=>w.heap.size<=k) (fun cu _ q=>vS _ _ _ (ae q)) (fun _ s=>by have s1:wr.heap.size+1<=g:=s;show w.heap.size<=g;omega)))
    (fun i zs hi hz=>by obtain⟨_,rfl⟩:=nB hi;have s1:wr.heap.size+1<=g:=(HG.lt hz).1;omega) (fun i i' zs zs' h1 _ h2 _=>(nB h1).1.trans (nB h2).1.symm)
   have e1:(xs.take (k+1)).map ndF=(xs.take k).map ndF++[ndF x]:=by rw[wA,HX.out];simp
   exact oX
  ·obtain rfl:len=k:=af
   have h5:=HV.out;rw[vK af] at h5;obtain⟨a',c',rfl,hR⟩:=h5.own HO.out (by simp[hxl]) ak (fun g hg=>(HO.lt g hg).1);have HR5:=aa hR;have hl5:(xs.map ndF).length=len:=by simpa using hxl
   exact oK

theorem ni {x:Vd} {i:Nat} {zs:List ByteArray} (h:(vdF x)[i]?=some (.l zs)):i=7/\zs=x.zs:=by
 rcases i with _|_|_|_|_|_|_|_|i
 ·cases h
 ·cases h
 ·cases h
 ·cases h
 ·cases h
 ·cases h
 ·cases h
 ·cases h;exact⟨rfl,rfl⟩
 ·simp[vdF] at h
theorem rT {w:World} {x:Vd} {g:Nat} {Q:Nat->Prop} {a:Option Addr} {l c:Nat} (hn:x.n.size<=9223372036854775807) (hz:x.z.size<=9223372036854775807) (hk:x.k.size<=9223372036854775807) (hm:x.m.size<=9223372036854775807) (hl:LFr w g Q x.zs (.slice a l c)):∀(i:Nat) f,(vdF x)[i]?=some f->∃v,[.string x.n,.int .i64 x.c,.string x.z,.string x.k,.bool x.x,.string x.m,.bool x.y,.slice a l c][i]?=some v/\f.Fr w g Q v:=by
 intro i f h;rcases i with _|_|_|_|_|_|_|_|i
 ·cases h;exact⟨_,rfl,rfl,hn⟩
 ·cases h;exact⟨_,rfl,rfl⟩
 ·cases h;exact⟨_,rfl,rfl,hz⟩
 ·cases h;exact⟨_,rfl,rfl,hk⟩
 ·cases h;exact⟨_,rfl,rfl⟩
 ·cases h;exact⟨_,rfl,rfl,hm⟩
 ·cases h;exact⟨_,rfl,rfl⟩
 ·cases h;exact⟨_,rfl,hl⟩
 ·simp[vdF] at h

theorem lC (x:Vd) (va:Option Addr) (vl vc:Nat) (w:World) (hr:av w va vl vc x.zs) (hl:vl<=8001):
  Calls Tryz.prog 115 #[.agg #[.string x.n,.int .i64 x.c,.string x.z,.string x.k,.bool x.x,.string x.m,.bool x.y,.slice va vl vc]] w fun e w'=> ∃a' l' c',e=.returned (.agg #[.string x.n,.int .i64 x.c,.string x.z,.string x.k,.bool x.x,.string x.m,.bool x.y,.slice a' l' c'])/\bE w' a' l' c' x.zs (fun k=>w.heap.size<=k)/\Below w.heap.size w w':=by
 refine (Ap.uz x.n x.c x.z x.k x.x x.m x.y va vl vc x.zs w hr hl).mono ?_;rintro e w' ⟨a',l',c',rfl,h1,h2,hb⟩;exact⟨a',l',c',rfl,⟨h1,h2⟩,hb⟩

theorem iC (a:Option Addr) (len cap:Nat) (xs:List Vd) (w:World) (hr:aE w a len cap 8 (xs.map vdF)) (hl:len<=8) (hs:∀(j:Nat) x,xs[j]?=some x->x.zs.length<=8001):
  Calls Tryz.prog 114 #[.slice a len cap,.func (.func 115) #[] #[]] w fun e w'=> ∃a' c',e=.returned (.slice a' len c')/\au w' a' len c' 8 105 (xs.map vdF) (fun k=>w.heap.size<=k)/\Below w.heap.size w w':=by
 have HR:=aa hr;have HS:=aa hs;have hxl:xs.length=len:=dJ
 clear hr hs;obtain⟨i0,hi,hz0,hz1,hz2⟩:=info_parts lF;have HI0:=aa (vA hi (vA hz0 (vA hz1 hz2)));clear hi hz0 hz1 hz2;go_enter Tryz.func114,Tryz.ntmps114;go_wp2;go_loopw [5,10] (fun vo vi wr=> ∃(k:Nat) (vss:List (List Value)) (H:Nat->Nat->Nat),k<=len/\vi=.int .i64 k/\Hid (wr.ownsRow w.heap.size 105 8 vo k vss.flatten)/\Hid (aN wr (fun k=>w.heap.size<=k) 8 ((xs.take k).map vdF) vss H)/\Hid (Below w.heap.size w wr)) (fun _ vi _=>len - (intOf vi).toNat);case atStart=>exact⟨0,[],fun _ _=>0,by omega,rfl,wK _ _ _ _,aN.nil _ _ _ _,vG _ _⟩
 case round=>
  obtain⟨k,vss,H,hk,rfl,HO,HV,HB⟩:=hrel;have hBs:=HB.size;by_cases hlt:k<len
  ·obtain⟨b,o,x,rfl,hb,hx,hat⟩:=bo (HR.below HB.out) hlt;obtain⟨va,vl,vc,hvr,z0,z2,z3,z5,c0,c1,c2,c3,c4,c5,c6,c7⟩:=aF hat;obtain⟨hz8,HX,HT,HZz0⟩:=oy;have HZz2:=aa z2;have HZz3:=aa z3;have HZz5:=aa z5;clear hat hx hvr z0 z2 z3 z5;go_wp2_with fail;refine (lC x va vl vc _ (HT.below (ai _ _)) hz8).mono ?_;rintro e w2 ⟨a',l',c',rfl,ho,hb2⟩;obtain⟨-,hbx⟩:=aJ hb2;rw[ct] at ho;obtain⟨g,hg⟩:=ho.fr;obtain⟨HG,HX2,HO2,hs2⟩:=oC;clear ho hb2 hbx hg hb c0 c1 c2 c3 c4 c5 c6 c7;go_wp2_with (first|(at_builtin;refine wpList_append_own _ rfl _ _ 32 rfl w.heap.size 105 i0 (.agg #[.string ⟨#[]⟩,.int .i64 0,.string ⟨#[]⟩,.string ⟨#[]⟩,.bool false,.string ⟨#[]⟩,.bool false,.slice none 0 0]) 8 112 Tryz.underlying32 HI0.1 HI0.2.1 HI0.2.2.1 HI0.2.2.2 rfl ak _ _ _ rfl (HO2.alloc _) ⟨w2.heap.size,0,none⟩ 1 1 [.string x.n,.int .i64 x.c,.string x.z,.string x.k,.bool x.x,.string x.m,.bool x.y,.slice a' l' c'] rfl rfl ?c1 ?c2 ?c3 ?c4 ?c5 ?_));case c1=>exact cV _ _ _
   case c2=>intro u hu;simp only[wH,wS,or_false] at hu;rcases hu with rfl|rfl|rfl|rfl|rfl|rfl|rfl|rfl <;> rfl
   case c3=>unfold maxLen;omega
   case c4=>omega
   case c5=>simp;omega
   rintro v' w3 hown3 hgrow -;have HO3:Hid (w3.ownsRow w.heap.size 105 8 v' (k+1) (vss++([[.string x.n,.int .i64 x.c,.string x.z,.string x.k,.bool x.x,.string x.m,.bool x.y,.slice a' l' c']]:List (List Value))).flatten):=by
    exact kN
   have hb23:Below wr.heap.size wr (w2.alloc (.cells (vov x a' l' c') 105)):=HX2.trans ((ai _ _).mono (Nat.le_of_lt hs2));have hV:=HV.app (r:=vdF x) (vs:=[.string x.n,.int .i64 x.c,.string x.z,.string x.k,.bool x.x,.string x.m,.bool x.y,.slice a' l' c']) (hh:=g) hb23 (HO2.alloc _) ak hgrow rfl rfl
    (rT HZz0.out HZz2.out HZz3.out HZz5.out (HG.aH (S':=fun k=>w.heap.size<=k) (fun cu _ q=>vS _ _ _ (ae q)) (fun _ s=>by have s1:wr.heap.size+1<=g:=s;show w.heap.size<=g;omega)))
    (fun i zs hi hz=>by obtain⟨_,rfl⟩:=ni hi;have s1:wr.heap.size+1<=g:=(HG.lt hz).1;omega) (fun i i' zs zs' h1 _ h2 _=>(ni h1).1.trans (ni h2).1.symm)
   have e1:(xs.take (k+1)).map vdF=(xs.take k).map vdF++[vdF x]:=by rw[wA,HX.out];simp
   exact oX
  ·obtain rfl:len=k:=af
   have h5:=HV.out;rw[vK af] at h5;obtain⟨a',c',rfl,hR⟩:=h5.own HO.out (by simp[hxl]) ak (fun g hg=>(HO.lt g hg).1);have HR5:=aa hR;have hl5:(xs.map vdF).length=len:=by simpa using hxl
   exact oK

theorem ny {x:Pd} {i:Nat} {zs:List ByteArray} (h:(pdF x)[i]?=some (.l zs)):i=3/\zs=x.zs:=by
 rcases i with _|_|_|_|_|_|i
 ·cases h
 ·cases h
 ·cases h
 ·cases h;exact⟨rfl,rfl⟩
 ·cases h
 ·cases h
 ·simp[pdF] at h
theorem tx {w:World} {x:Pd} {g:Nat} {Q:Nat->Prop} {a:Option Addr} {l c:Nat} (hn:x.n.size<=9223372036854775807) (hz:x.z.size<=9223372036854775807) (hd:x.d.size<=9223372036854775807) (hl:LFr w g Q x.zs (.slice a l c)):∀(i:Nat) f,(pdF x)[i]?=some f->∃v,[.string x.n,.int .i64 x.c,.string x.z,.slice a l c,.string x.d,.int .i64 x.p][i]?=some v/\f.Fr w g Q v:=by
 intro i f h;rcases i with _|_|_|_|_|_|i
 ·cases h;exact⟨_,rfl,rfl,hn⟩
 ·cases h;exact⟨_,rfl,rfl⟩
 ·cases h;exact⟨_,rfl,rfl,hz⟩
 ·cases h;exact⟨_,rfl,hl⟩
 ·cases h;exact⟨_,rfl,rfl,hd⟩
 ·cases h;exact⟨_,rfl,rfl⟩
 ·simp[pdF] at h

theorem lD (x:Pd) (va:Option Addr) (vl vc:Nat) (w:World) (hr:av w va vl vc x.zs) (hl:vl<=8001):
  Calls Tryz.prog 117 #[.agg #[.string x.n,.int .i64 x.c,.string x.z,.slice va vl vc,.string x.d,.int .i64 x.p]] w fun e w'=> ∃a' l' c',e=.returned (.agg #[.string x.n,.int .i64 x.c,.string x.z,.slice a' l' c',.string x.d,.int .i64 x.p])/\bE w' a' l' c' x.zs (fun k=>w.heap.size<=k)/\Below w.heap.size w w':=by
 obtain⟨HR,HB⟩:=eH;clear hr;go_enter Tryz.func117,Tryz.ntmps117;go_wp2_with fail;refine (Ap.iv va vl vc x.zs _ (HR.below (HB.trans ((aD _ _ _).mono HB.size))) hl).mono ?_;rintro e w1 ⟨a',l',c',rfl,h1,h2,hb⟩;obtain⟨HA0,HA1,hbx⟩:=bN hb;have Bp:=aa HA0;have Br:=aa HA1;replace HB:=upB HB hbx;clear hb hbx HA0 HA1;have HO:Hid (bE w1 a' l' c' x.zs (fun k=>w.heap.size+1+1<=k)):=⟨h1,h2.imp id fun ⟨g,cur,e1,e2,e3⟩=>⟨g,cur,e1,by simpa using e2,e3⟩⟩;clear h1 h2;obtain⟨p0,p1,p2,p3,p4,p5⟩:=cs6 Bp;obtain⟨r0,r1,r2,r3,r4,r5⟩:=cs6 Br;have fr0:=ar Br.out 0;have fr1:=ar Br.out 1;have fr2:=ar Br.out 2;have fp3:=ar Bp.out 3;have fr3:=ar Br.out 3;have fr4:=ar Br.out 4;have fr5:=ar Br.out 5;go_wp2_with fail;refine bodyPost_ret (v:=.agg #[.string x.n,.int .i64 x.c,.string x.z,.slice a' l' c',.string x.d,.int .i64 x.p]) (by simp[results,Tryz.results117,go_sem, *]) rfl ⟨a',l',c',rfl,HO.aH (fun k _ s=>by have s1:w.heap.size+1+1<=k:=s;rw[vB _ _ _ _ (show k≠w.heap.size+1 by omega),vB _ _ _ _ (show k≠w.heap.size+1 by omega),vB _ _ _ _ (show k≠w.heap.size+1 by omega),vB _ _ _ _ (show k≠w.heap.size+1 by omega),vB _ _ _ _ (show k≠w.heap.size+1 by omega),vB _ _ _ _ (show k≠w.heap.size+1 by omega),vB _ _ _ _ (show k≠w.heap.size by omega)]) (fun k _ s=>by have s1:w.heap.size+1+1<=k:=s;show w.heap.size<=k;omega),sb1 (sb1 (sb1 (sb1 (sb1 (sb1 (ah (vD _) (HB.out)))))))⟩

theorem iD (a:Option Addr) (len cap:Nat) (xs:List Pd) (w:World) (hr:aE w a len cap 6 (xs.map pdF)) (hl:len<=8) (hs:∀(j:Nat) x,xs[j]?=some x->x.zs.length<=8001):
  Calls Tryz.prog 116 #[.slice a len cap,.func (.func 117) #[] #[]] w fun e w'=> ∃a' c',e=.returned (.slice a' len c')/\au w' a' len c' 6 107 (xs.map pdF) (fun k=>w.heap.size<=k)/\Below w.heap.size w w':=by
 have HR:=aa hr;have HS:=aa hs;have hxl:xs.length=len:=dJ
 clear hr hs;obtain⟨i0,hi,hz0,hz1,hz2⟩:=info_parts lG;have HI0:=aa (vA hi (vA hz0 (vA hz1 hz2)));clear hi hz0 hz1 hz2;go_enter Tryz.func116,Tryz.ntmps116;go_wp2;go_loopw [5,10] (fun vo vi wr=> ∃(k:Nat) (vss:List (List Value)) (H:Nat->Nat->Nat),k<=len/\vi=.int .i64 k/\Hid (wr.ownsRow w.heap.size 107 6 vo k vss.flatten)/\Hid (aN wr (fun k=>w.heap.size<=k) 6 ((xs.take k).map pdF) vss H)/\Hid (Below w.heap.size w wr)) (fun _ vi _=>len - (intOf vi).toNat);case atStart=>exact⟨0,[],fun _ _=>0,by omega,rfl,wK _ _ _ _,aN.nil _ _ _ _,vG _ _⟩
 case round=>
  obtain⟨k,vss,H,hk,rfl,HO,HV,HB⟩:=hrel;have hBs:=HB.size;by_cases hlt:k<len
  ·obtain⟨b,o,x,rfl,hb,hx,hat⟩:=bB (HR.below HB.out) hlt;obtain⟨va,vl,vc,hvr,z0,z2,z4,c0,c1,c2,c3,c4,c5⟩:=aL hat;obtain⟨hz8,HX,HT,HZz0⟩:=oy;have HZz2:=aa z2;have HZz4:=aa z4;clear hat hx hvr z0 z2 z4;go_wp2_with fail;refine (lD x va vl vc _ (HT.below (ai _ _)) hz8).mono ?_;rintro e w2 ⟨a',l',c',rfl,ho,hb2⟩;obtain⟨-,hbx⟩:=aJ hb2;rw[ct] at ho;obtain⟨g,hg⟩:=ho.fr;obtain⟨HG,HX2,HO2,hs2⟩:=oC;clear ho hb2 hbx hg hb c0 c1 c2 c3 c4 c5;go_wp2_with (first|(at_builtin;refine wpList_append_own _ rfl _ _ 34 rfl w.heap.size 107 i0 (.agg #[.string ⟨#[]⟩,.int .i64 0,.string ⟨#[]⟩,.slice none 0 0,.string ⟨#[]⟩,.int .i64 0]) 6 88 Tryz.underlying34 HI0.1 HI0.2.1 HI0.2.2.1 HI0.2.2.2 rfl ak _ _ _ rfl (HO2.alloc _) ⟨w2.heap.size,0,none⟩ 1 1 [.string x.n,.int .i64 x.c,.string x.z,.slice a' l' c',.string x.d,.int .i64 x.p] rfl rfl ?c1 ?c2 ?c3 ?c4 ?c5 ?_));case c1=>exact cV _ _ _
   case c2=>intro u hu;simp only[wH,wS,or_false] at hu;rcases hu with rfl|rfl|rfl|rfl|rfl|rfl <;> rfl
   case c3=>unfold maxLen;omega
   case c4=>omega
   case c5=>simp;omega
   rintro v' w3 hown3 hgrow -;have HO3:Hid (w3.ownsRow w.heap.size 107 6 v' (k+1) (vss++([[.string x.n,.int .i64 x.c,.string x.z,.slice a' l' c',.string x.d,.int .i64 x.p]]:List (List Value))).flatten):=by
    exact kN
   have hb23:Below wr.heap.size wr (w2.alloc (.cells (pov x a' l' c') 107)):=HX2.trans ((ai _ _).mono (Nat.le_of_lt hs2));have hV:=HV.app (r:=pdF x) (vs:=[.string x.n,.int .i64 x.c,.string x.z,.slice a' l' c',.string x.d,.int .i64 x.p]) (hh:=g) hb23 (HO2.alloc _) ak hgrow rfl rfl
    (tx HZz0.out HZz2.out HZz4.out (HG.aH (S':=fun k=>w.heap.size<=k) (fun cu _ q=>vS _ _ _ (ae q)) (fun _ s=>by have s1:wr.heap.size+1<=g:=s;show w.heap.size<=g;omega)))
    (fun i zs hi hz=>by obtain⟨_,rfl⟩:=ny hi;have s1:wr.heap.size+1<=g:=(HG.lt hz).1;omega) (fun i i' zs zs' h1 _ h2 _=>(ny h1).1.trans (ny h2).1.symm)
   have e1:(xs.take (k+1)).map pdF=(xs.take k).map pdF++[pdF x]:=by rw[wA,HX.out];simp
   exact oX
  ·obtain rfl:len=k:=af
   have h5:=HV.out;rw[vK af] at h5;obtain⟨a',c',rfl,hR⟩:=h5.own HO.out (by simp[hxl]) ak (fun g hg=>(HO.lt g hg).1);have HR5:=aa hR;have hl5:(xs.map pdF).length=len:=by simpa using hxl
   exact oK

end Rc
end Go.Proofs.YtjgjhkkmlaacdaaGreatDoor

namespace Go.Proofs.YtjgjhkkmlaacdaaGreatDoor
open Go.RowKit
namespace Gi

abbrev Rs:=Option Tmp->World->World->Prop
structure Rel (R:Rs) (sp:Tmp):Prop where
 refl:∀w,R none w w
 trans:∀{a b c},R none a b->R none b c->R none a c
 size:∀{a b},R none a b->a.heap.size<=b.heap.size
 drew:∀w,R none w w.drew
 sub:∀s {a b},R s a b->R none a b
 low:∀s {a b},¬s=none->¬s=some sp->R s a b->Below a.heap.size a b
abbrev Fact:=Value->World->Nat->Nat->Prop
abbrev Ex:=Tmp->Option Tmp
def Fact.cf (R:Rs) (ex:Ex) (d:Option Tmp) (φ:Fact):Prop:=∀s,¬s=none->¬s=d->(∀t e,d=some t->ex t=some e->¬s=some e)->∀v w w' l h,φ v w l h->R s w w'->φ v w' l h
theorem Fact.dz (R:Rs) (ex:Ex) (d:Option Tmp) (c:Value):Fact.cf R ex d (fun v _ _ _=>v=c):=fun _ _ _ _ _ _ _ _ _ h _=>h

def aq (ex:Ex) (d:Option Tmp) (a0:Act) (known:List (Tmp×Fact)) (a:Act) (w:World) (lo hi:Tmp->Nat) (t:Tmp):Prop:=
 match known.lookup t with
 | some φ=>(ex t=none\/ex t=d)->φ (a.tmps.getD t undef) w (lo t) (hi t)
 | none=>a.tmps.getD t undef=a0.tmps.getD t undef

def iR (known:List (Tmp×Fact)) (lo hi:Tmp->Nat) (ts:List Tmp):Prop:=∀t∈ts,∀t'∈ts,(known.lookup t).isSome=true->(known.lookup t').isSome=true->¬t=t'->hi t<=lo t'\/hi t'<=lo t
def Obl (R:Rs) (sp:Tmp) (ex:Ex) (P:Program) (ops:Array Oper) (Q:Exit->Act->World->Prop) (W:World) (a0:Act) (known:List (Tmp×Fact)) (o:Oper) (φ:Fact):Prop:=
 ∀(a:Act) (w:World) (K:Act->World->Prop) (lo hi:Tmp->Nat),a.tmps.size=a0.tmps.size->R none W w->(o.dst=some sp->Below W.heap.size W w)->(∀t∈o.looksAt ops,aq ex o.dst a0 known a w lo hi t)->iR known lo hi (o.looksAt ops)->
  (∀v w',R o.dst w w'->φ v w' w.heap.size w'.heap.size->K (a.put o.dst v) w')->if wU o (yielded ops a.tmps)=true then o.wp P a w K Q else K (a.put o.dst undef) w

theorem Obl.plain {R:Rs} {sp:Tmp} {ex:Ex} {P:Program} {ops:Array Oper} {Q:Exit->Act->World->Prop} {W:World} {a0:Act} {known:List (Tmp×Fact)} {o:Oper} {φ:Fact} (hg:o.guard=none)
  (h:∀(a:Act) (w:World) (K:Act->World->Prop) (lo hi:Tmp->Nat),a.tmps.size=a0.tmps.size->R none W w->(o.dst=some sp->Below W.heap.size W w)->(∀t∈fU o,aq ex o.dst a0 known a w lo hi t)->iR known lo hi (fU o)->(∀v w',R o.dst w w'->φ v w' w.heap.size w'.heap.size->K (a.put o.dst v) w')->o.wp P a w K Q):Obl R sp ex P ops Q W a0 known o φ:=by
 intro a w K lo hi h1 h2 h6 h3 h5 h4;have hw:wU o (yielded ops a.tmps)=true:=by simp[wU,hg]
 rw[if_pos hw];have hs:∀t∈fU o,t∈o.looksAt ops:=fun t ht=>by unfold Oper.looksAt;exact List.mem_append_left _ ht
 exact h a w K lo hi h1 h2 h6 (fun t ht=>h3 t (hs t ht)) (fun t ht t' ht'=>h5 t (hs t ht) t' (hs t' ht')) h4

def aU (a0:Act) (known:List (Tmp×Fact)) (x:Tmp->Value):Act:=known.foldr (fun p b=>b.put (some p.1) (x p.1)) a0
def uL (known:List (Tmp×Fact)) (lo hi:Tmp->Nat):Prop:=∀p∈known,∀q∈known,¬p.1=q.1->hi p.1<=lo q.1\/hi q.1<=lo p.1
def Fin (R:Rs) (ex:Ex) (P:Program) (ops:Array Oper) (Q:Exit->Act->World->Prop) (W:World) (a0:Act) (back:Option Oper) (known:List (Tmp×Fact)):Prop:=
 ∀(x:Tmp->Value) (w:World) (lo hi:Tmp->Nat),R none W w->(∀p∈known,ex p.1=none->p.2 (x p.1) w (lo p.1) (hi p.1))->uL known lo hi->eV P ops Q back (aU a0 known x) w

def kn (d:Option Tmp) (φ:Fact) (known:List (Tmp×Fact)):List (Tmp×Fact):=match d with|some t=>(t,φ) ::known|none=>known

def Grow (R:Rs) (sp:Tmp) (ex:Ex) (P:Program) (ops:Array Oper) (Q:Exit->Act->World->Prop) (W:World) (a0:Act) (back:Option Oper):List Oper->List (Tmp×Fact)->Prop
 | [],known=>Fin R ex P ops Q W a0 back known
 | o ::rest,known=> ∃φ:Fact,φ.cf R ex o.dst/\Obl R sp ex P ops Q W a0 known o φ/\Grow R sp ex P ops Q W a0 back rest (kn o.dst φ known)
theorem Grow.step {R:Rs} {sp:Tmp} {ex:Ex} {P:Program} {ops:Array Oper} {Q:Exit->Act->World->Prop} {W:World} {a0:Act} {back:Option Oper} {o:Oper} {rest:List Oper} {known:List (Tmp×Fact)} {t:Tmp} (φ:Fact) (hd:o.dst=some t) (hφ:φ.cf R ex (some t)) (ho:Obl R sp ex P ops Q W a0 known o φ)
  (h:Grow R sp ex P ops Q W a0 back rest ((t,φ) ::known)):Grow R sp ex P ops Q W a0 back (o ::rest) known:=⟨φ,by rw[hd];exact hφ,ho,by rw[hd];exact h⟩
theorem Grow.stepC {R:Rs} {sp:Tmp} {ex:Ex} {P:Program} {ops:Array Oper} {Q:Exit->Act->World->Prop} {W:World} {a0:Act} {back:Option Oper} {o:Oper} {rest:List Oper} {known:List (Tmp×Fact)} {t:Tmp} (c:Value) (hd:o.dst=some t) (ho:Obl R sp ex P ops Q W a0 known o (fun v _ _ _=>v=c))
  (h:Grow R sp ex P ops Q W a0 back rest ((t,fun v _ _ _=>v=c) ::known)):Grow R sp ex P ops Q W a0 back (o ::rest) known:=Grow.step _ hd (Fact.dz R ex _ c) ho h
theorem Grow.done {R:Rs} {sp:Tmp} {ex:Ex} {P:Program} {ops:Array Oper} {Q:Exit->Act->World->Prop} {W:World} {a0:Act} {back:Option Oper} {known:List (Tmp×Fact)} (h:Fin R ex P ops Q W a0 back known):Grow R sp ex P ops Q W a0 back [] known:=h

section
variable {R:Rs} {sp:Tmp} {ex:Ex} {P:Program} {ops:Array Oper} {Q:Exit->Act->World->Prop} {W:World} {a0:Act} {back:Option Oper}

def knAll:List (Tmp×Fact)->List Oper->List Fact->List (Tmp×Fact)
 | known,o ::l,φ ::φs=>knAll (kn o.dst φ known) l φs
 | known,_,_=>known
theorem bH (known:List (Tmp×Fact)) (φs:List Fact):knAll known [] φs=known:=by cases φs <;> rfl

theorem Grow.spec:∀(l:List Oper) (known:List (Tmp×Fact)),Grow R sp ex P ops Q W a0 back l known->∃φs:List Fact,φs.length=l.length/\
  (∀(i:Nat) (o:Oper) (φ:Fact),l[i]?=some o->φs[i]?=some φ->φ.cf R ex o.dst/\Obl R sp ex P ops Q W a0 (knAll known (l.take i) (φs.take i)) o φ)/\Fin R ex P ops Q W a0 back (knAll known l φs)
 | [],known,h=>⟨[],rfl,fun i o φ h=>by simp at h,by rw[bH];exact h⟩
 | o ::l,known,h=>by
  exact oY

theorem fy (d:Option Tmp) (φ:Fact) (known:List (Tmp×Fact)) (t:Tmp):(kn d φ known).lookup t=if d=some t then some φ else known.lookup t:=by
 exact sN

theorem bO:∀(l:List Oper) (φs:List Fact) (known:List (Tmp×Fact)) {t:Tmp} {φ:Fact},(knAll known l φs).lookup t=some φ->
  (∃(i:Nat) (o:Oper),l[i]?=some o/\o.dst=some t/\φs[i]?=some φ)\/known.lookup t=some φ
 | [],φs,known,t,φ,h=>by rw[bH] at h;exact .inr h
 | o ::l,[],known,t,φ,h=>.inr h
 | o ::l,ψ ::φs,known,t,φ,h=>by
  exact sZ
theorem bP:∀(l:List Oper) (φs:List Fact) (known:List (Tmp×Fact)) {t:Tmp},(knAll known l φs).lookup t=none->
  known.lookup t=none/\∀(i:Nat) (o:Oper) (φ:Fact),l[i]?=some o->φs[i]?=some φ->o.dst≠some t
 | [],φs,known,t,h=>by rw[bH] at h;exact⟨h,fun i o φ h=>by simp at h⟩
 | o ::l,[],known,t,h=>⟨h,fun i o φ _ h=>by simp at h⟩
 | o ::l,ψ ::φs,known,t,h=>by
  exact th
theorem cy:∀(l:List Oper) (φs:List Fact) (known:List (Tmp×Fact)) {p:Tmp×Fact},p∈knAll known l φs->
  (∃(i:Nat) (o:Oper),l[i]?=some o/\o.dst=some p.1/\φs[i]?=some p.2)\/p∈known
 | [],φs,known,p,h=>by rw[bH] at h;exact .inr h
 | o ::l,[],known,p,h=>.inr h
 | o ::l,ψ ::φs,known,p,h=>by
  exact tf

theorem ck (a0:Act) (x:Tmp->Value):∀known,(aU a0 known x).tmps.size=a0.tmps.size
 | []=>rfl
 | p ::l=>by unfold aU;rw[List.foldr_cons,size_put];exact ck a0 x l
theorem cm (a0:Act) (x:Tmp->Value):∀known,(aU a0 known x).defers=a0.defers
 | []=>rfl
 | p ::l=>by unfold aU;rw[List.foldr_cons,dF];exact cm a0 x l
theorem eP (a0 a:Act) (known:List (Tmp×Fact)) (hk:∀p∈known,p.1<a0.tmps.size) (t:Tmp) (h:(∀p∈known,p.1≠t)->a.tmps.getD t undef=a0.tmps.getD t undef):
  (aU a0 known (fun t=>a.tmps.getD t undef)).tmps.getD t undef=a.tmps.getD t undef:=by
 exact tl
structure At (R:Rs) (sp:Tmp) (ex:Ex) (front:List Oper) (φs:List Fact) (W:World) (a0:Act) (listed:Array Bool) (a:Act) (w:World) (lo hi:Tmp->Nat):Prop where
 size:a.tmps.size=a0.tmps.size
 defers:a.defers=a0.defers
 below:R none W w
 pre:(∀(i:Nat) (p:Oper),front[i]?=some p->p.dst=some sp->listed.getD i false=false)->Below W.heap.size W w
 known:∀(i:Nat) (o:Oper) (φ:Fact),front[i]?=some o->φs[i]?=some φ->∀t,o.dst=some t->listed.getD i false=true->(∀e,ex t=some e->∀(i':Nat) (p':Oper),front[i']?=some p'->p'.dst=some e->listed.getD i' false=false)->φ (a.tmps.getD t undef) w (lo t) (hi t)
 top:∀(i:Nat) (o:Oper),front[i]?=some o->∀t,o.dst=some t->listed.getD i false=true->hi t<=w.heap.size
 apart:∀(i:Nat) (o:Oper) (i':Nat) (o':Oper),front[i]?=some o->front[i']?=some o'->∀t t',o.dst=some t->o'.dst=some t'->listed.getD i false=true->listed.getD i' false=true->¬t=t'->hi t<=lo t'\/hi t'<=lo t
 other:∀t,(∀(i:Nat) (o:Oper),front[i]?=some o->o.dst=some t->listed.getD i false=false)->a.tmps.getD t undef=a0.tmps.getD t undef

theorem At.step {front:List Oper} {φs:List Fact} {listed:Array Bool} {a:Act} {w w':World} {lo hi:Tmp->Nat} {j:Nat} {o:Oper} {φ:Fact} {v:Value} (hR:Rel R sp) (hds:¬o.dst=none) (h:At R sp ex front φs W a0 listed a w lo hi)
  (hn:(front.filterMap (·.dst)).Nodup) (hin:∀o∈front,∀t,o.dst=some t->t<a0.tmps.size) (hmono:∀(i:Nat) (o:Oper) (φ:Fact),front[i]?=some o->φs[i]?=some φ->φ.cf R ex o.dst)
  (ho:front[j]?=some o) (hφ:φs[j]?=some φ) (hj:j<listed.size) (hb:R o.dst w w') (hv:φ v w' w.heap.size w'.heap.size):∃lo hi,At R sp ex front φs W a0 (listed.setIfInBounds j true) (a.put o.dst v) w' lo hi:=by
 have old:∀(i:Nat) (p:Oper) t,front[i]?=some p->p.dst=some t->¬j=i->(listed.setIfInBounds j true).getD i false=true->¬o.dst=some t/\listed.getD i false=true:=fun i p t hp ht e hl=>
  ⟨fun hd=>e (dt front hn ho hp hd ht),by simpa[vJ,vY,e] using hl⟩
 refine⟨fun t=>if o.dst=some t then w.heap.size else lo t,fun t=>if o.dst=some t then w'.heap.size else hi t,(size_put _ _ _).trans h.size,(dF _ _ _).trans h.defers,hR.trans h.below (hR.sub _ hb),fun hx=>?_,?_,?_,?_,?_⟩
 ·have hns:¬o.dst=some sp:=fun e=>by
   have:=hx j o ho e;simp[vJ,hj] at this
  have h1:=h.pre (fun i p hp hd=>by
   have h2:=hx i p hp hd
   have e:¬j=i:=fun e=>by subst e;exact hns (by rw[vC (ho.symm.trans hp)];exact hd)
   simpa[vJ,vY,e] using h2)
  exact h1.trans ((hR.low _ hds hns hb).mono h1.size)
 ·intro i p ψ hp hψ t ht hl hx;by_cases e:j=i
  ·subst e;obtain rfl:o=p:=vC (ho.symm.trans hp);obtain rfl:φ=ψ:=vC (hφ.symm.trans hψ);simp only[if_pos ht];exact pM
  ·obtain⟨hne,hl'⟩:=old i p t hp ht e hl;simp only[if_neg hne];have hxo:∀e,ex t=some e->∀(i':Nat) (p':Oper),front[i']?=some p'->p'.dst=some e->¬j=i'/\listed.getD i' false=false:=fun e9 he i' p' hp' hd'=>by
    have h9:=hx e9 he i' p' hp' hd';by_cases ej:j=i'
    ·subst ej;simp[vJ,hj] at h9
    ·exact⟨ej,by simpa[vJ,vY,ej] using h9⟩
   have h1:=hmono i p ψ hp hψ o.dst hds (fun e9=>hne (e9.trans ht)) (fun t9 e9 h8 h9 hd=>by
    obtain rfl:t=t9:=vC (ht.symm.trans h8)
    exact (hxo e9 h9 j o ho hd).1 rfl) _ _ _ _ _ (h.known i p ψ hp hψ t ht hl' (fun e9 he i' p' hp' hd'=>(hxo e9 he i' p' hp' hd').2)) hb
   exact pj
 ·intro i p hp t ht hl;by_cases e:j=i
  ·subst e;obtain rfl:o=p:=vC (ho.symm.trans hp);simp only[if_pos ht];exact vD _
  ·obtain⟨hne,hl'⟩:=old i p t hp ht e hl;simp only[if_neg hne];exact vI (h.top i p hp t ht hl') (hR.size (hR.sub _ hb))
 ·intro i p i' p' hp hp' t t' ht ht' hl hl' hne;by_cases e:j=i
  ·subst e;obtain rfl:o=p:=vC (ho.symm.trans hp);by_cases e':j=i'
   ·subst e';obtain rfl:o=p':=vC (ho.symm.trans hp');exact absurd (vC (ht.symm.trans ht')) hne
   ·obtain⟨hne',hl''⟩:=old i' p' t' hp' ht' e' hl';simp only[if_pos ht,if_neg hne'];exact .inr (h.top i' p' hp' t' ht' hl'')
  ·obtain⟨hne1,hl1⟩:=old i p t hp ht e hl;by_cases e':j=i'
   ·subst e';obtain rfl:o=p':=vC (ho.symm.trans hp');simp only[if_pos ht',if_neg hne1];exact .inl (h.top i p hp t ht hl1)
   ·obtain⟨hne',hl''⟩:=old i' p' t' hp' ht' e' hl';simp only[if_neg hne1,if_neg hne'];exact h.apart i p i' p' hp hp' t t' ht ht' hl1 hl'' hne
 ·exact tk

theorem Fin.last {front:List Oper} {φs:List Fact} {listed:Array Bool} {a:Act} {w:World} {lo hi:Tmp->Nat} (hf:Fin R ex P ops Q W a0 back (knAll [] front φs)) (hlen:φs.length=front.length) (hin:∀o∈front,∀t,o.dst=some t->t<a0.tmps.size)
  (h:At R sp ex front φs W a0 listed a w lo hi) (hall:∀i,i<front.length->listed.getD i false=true):eV P ops Q back a w:=by
 have h1:=hf (fun t=>a.tmps.getD t undef) w lo hi h.below (fun p hp hpe=>by
  rcases cy front φs [] hp with ⟨i,o,h1,h2,h3⟩|h1
  ·exact h.known i o p.2 h1 h3 p.1 h2 (hall i (vz.1 h1).1) (fun e he=>by rw[hpe] at he;cases he)
  ·simp at h1) (fun p hp q hq hne=>by
  rcases cy front φs [] hp with ⟨i,o,h1,h2,h3⟩|h1
  ·rcases cy front φs [] hq with ⟨i',o',g1,g2,g3⟩|g1
   ·exact h.apart i o i' o' h1 g1 p.1 q.1 h2 g2 (hall i (vz.1 h1).1) (hall i' (vz.1 g1).1) hne
   ·simp at g1
  ·simp at h1)
 exact tv

theorem bX {front:List Oper} {φs:List Fact} (hR:Rel R sp) (hds:∀o∈front,¬o.dst=none) (hops:ops=(front++back.toList).toArray) (hB:growB a0.tmps.size front back=true) (hlen:φs.length=front.length)
  (hs:∀(i:Nat) (o:Oper) (φ:Fact),front[i]?=some o->φs[i]?=some φ->φ.cf R ex o.dst/\Obl R sp ex P ops Q W a0 (knAll [] (front.take i) (φs.take i)) o φ) (hf:Fin R ex P ops Q W a0 back (knAll [] front φs)):
  ∀(fuel:Nat) (listed:Array Bool) (a:Act) (w:World),listed.size=ops.size->listed.toList.count false<=fuel->(∀o,back=some o->listed.getD front.length false=false)->(∃lo hi,At R sp ex front φs W a0 listed a w lo hi)->wpAny P .any ops Q fuel listed a w:=by
 obtain⟨hn,hin,hdep,hlt,hback⟩:=cC hB;rw[<-hops] at hdep hlt;have hsz:ops.size=front.length+back.toList.length:=by rw[hops];simp
 have hend:∀(listed:Array Bool) (a:Act) (w:World),listed.size=ops.size->(∀i,i<ops.size->listed.getD i false=true)->(∀o,back=some o->listed.getD front.length false=false)->(∃lo hi,At R sp ex front φs W a0 listed a w lo hi)->Q .normal a w:=by
  rintro listed a w hz hall hb ⟨lo,hi,h⟩;have h1:=hf.last hlen hin h (fun i hi=>hall i af);exact oS
 intro fuel;induction fuel with
 | zero=>
  intro listed a w hz hc hb h;have hall:∀i,i<ops.size->listed.getD i false=true:=fun i hi=>dO af i af;refine⟨?_,hend listed a w hz hall hb h⟩
  cases hr:wC .any ops listed with
  | nil=>rfl
  | cons j js=>
   have hm:j∈wC .any ops listed:=by rw[hr];simp
   obtain⟨h1,o,ho,-⟩:=mem_ready.1 hm;have hj:=(vT.1 ho).1;rw[<-bK af,hall j hj] at h1
   cases h1
 | succ fuel ih=>
  intro listed a w hz hc hb hlh;refine⟨fun hr=>hend listed a w hz (dH hz hlt hr) hb hlh,fun j hj=>?_⟩;obtain⟨lo,hi,h⟩:=hlh;obtain⟨hun,o,ho,hall⟩:=mem_ready.1 hj;have hjs:j<ops.size:=(vT.1 ho).1;have hcs:=count_set (listed:=listed) (i:=j) af hun
  by_cases hjf:j<front.length
  ·have hof:front[j]?=some o:=by rw[hops] at ho;simpa[wh hjf] using ho
   have hφ:φs[j]?=some (φs[j]'(by omega)):=vF _;obtain⟨hm,hob⟩:=hs j o _ hof hφ
   have hfacts:∀t∈o.looksAt ops,aq ex o.dst a0 (knAll [] (front.take j) (φs.take j)) a w lo hi t:=by
    intro t ht;unfold aq
    cases hk:(knAll [] (front.take j) (φs.take j)).lookup t with
    | some φ=>
     rcases bO _ _ _ hk with ⟨i,p,h1,h2,h3⟩|h1
     ·have hij:i<j:=by have:=(vz.1 h1).1;simp at this;omega
      rw[wb,if_pos hij] at h1 h3;obtain⟨-,e,he,hon,hbi⟩:=hdep j o hof t ht i p h1 h2;have hl:=hall e he hbi;rw[hon] at hl;intro hex;refine h.known i p φ h1 h3 t h2 hl (fun e9 he i' p' hp' hd'=>?_)
      rcases hex with h9|h9
      ·rw[h9] at he;cases he
      ·have:i'=j:=dt front hn hp' hof hd' (h9.symm.trans he);subst this;rw[bK af];exact hun
     ·simp at h1
    | none=>
     refine h.other t (fun i p hp hd=>?_)
     exfalso
     obtain⟨hij,-⟩:=hdep j o hof t ht i p hp hd;have hi:=(vz.1 hp).1;exact (bP _ _ _ hk).2 i p (φs[i]'(by omega)) mn mu hd
   have hfind:∀t∈o.looksAt ops,((knAll [] (front.take j) (φs.take j)).lookup t).isSome=true->∃(i:Nat) (p:Oper),front[i]?=some p/\p.dst=some t/\listed.getD i false=true:=by
    intro t ht hk;obtain⟨φ,hφ'⟩:=Option.isSome_iff_exists.1 hk
    rcases bO _ _ _ hφ' with ⟨i,p,h1,h2,h3⟩|h1
    ·have hij:i<j:=by have:=(vz.1 h1).1;simp at this;omega
     rw[wb,if_pos hij] at h1;obtain⟨-,e,he,hon,hbi⟩:=hdep j o hof t ht i p h1 h2;have hl:=hall e he hbi;rw[hon] at hl;exact⟨i,p,h1,h2,hl⟩
    ·simp at h1
   have hap:iR (knAll [] (front.take j) (φs.take j)) lo hi (o.looksAt ops):=by
    intro t ht t' ht' hk hk' hne;obtain⟨i,p,h1,h2,h3⟩:=hfind t ht hk;obtain⟨i',p',g1,g2,g3⟩:=hfind t' ht' hk';exact h.apart i p i' p' h1 g1 t t' h2 g2 h3 g3 hne
   have hpre:o.dst=some sp->Below W.heap.size W w:=fun hd=>h.pre (fun i p hp hd'=>by
    have:i=j:=dt front hn hp hof hd' hd;subst this;rw[bK af]
    exact hun)
   have h1:=hob a w (wpAny P .any ops Q fuel (listed.setIfInBounds j true)) lo hi h.size h.below hpre hfacts hap (fun v w' hbw hv=>by
    refine ih _ _ _ (by simpa using hz) af (fun o' ho'=>?_) (h.step hR (hds o (wD hof)) hn hin (fun i o φ h1 h2=>(hs i o φ h1 h2).1) hof hφ af hbw hv);have h2:=hb o' ho'
    have e:¬j=front.length:=af
    simpa[vJ,vY,e] using h2)
   unfold wpOp;rw[ho]
   simp only
   split
   ·rename_i hw;rw[if_pos hw] at h1;exact .inl h1
   ·rename_i hw;rw[if_neg hw] at h1;exact h1
  ·cases hk:back with
   | none=>rw[hk] at hsz;simp at hsz;omega
   | some b=>
    have hjn:j=front.length:=by rw[hk] at hsz;simp at hsz;omega
    subst hjn
    have hob:o=b:=by
     rw[hops,hk] at ho
     simp at ho
     exact ho.symm
    subst hob
    have hfl:∀i,i<front.length->listed.getD i false=true:=fun i hi=>by
     obtain⟨e,he,hon,hbi⟩:=hback o hk i hi;have:=hall e he hbi
     rwa [hon] at this
    have h1:=hf.last hlen hin h hfl;rw[hk] at h1
    have h2:=h1 (wpAny P .any ops Q fuel (listed.setIfInBounds front.length true)) (fun a' w' hq=>by
     have hr:wC .any ops (listed.setIfInBounds front.length true)=[]:=by
      cases hr:wC .any ops (listed.setIfInBounds front.length true) with
      | nil=>rfl
      | cons i is=>
       have hm:i∈wC .any ops (listed.setIfInBounds front.length true):=by rw[hr];simp
       obtain⟨h3,o',ho',-⟩:=mem_ready.1 hm;have hi:=(vT.1 ho').1
       exfalso
       by_cases e:front.length=i
       ·subst e
        simp[vJ,show front.length<listed.size from by omega] at h3
       ·have h4:=hfl i (by rw[hk] at hsz;simp at hsz;omega);rw[bK af] at h4
        simp[vJ,e] at h3 h4
        rw[h3] at h4
        cases h4
     cases fuel with
     | zero=>exact⟨hr,hq⟩
     | succ fuel=>exact⟨fun _=>hq,fun i hi=>by rw[hr] at hi;cases hi⟩)
    unfold wpOp;rw[ho]
    simp only
    split
    ·rename_i hw;rw[if_pos hw] at h2;exact .inl h2
    ·rename_i hw;rw[if_neg hw] at h2;exact h2
end

theorem cg {R:Rs} {sp:Tmp} {ex:Ex} (hR:Rel R sp) {P:Program} {id:Nat} {Q:Exit->Act->World->Prop} {a0:Act} {W:World} {l:List Oper} {front:List Oper} {back:Option Oper} (hm:P.follows .mixedOrders=true) (hl:l=front++back.toList) (hds:front.all (fun o=>o.dst.isSome)=true) (hB:growB a0.tmps.size front back=true)
  (h:Grow R sp ex P l.toArray Q W a0 back front []):(Code.region id l.toArray true).wp P Q a0 W:=by
 obtain⟨φs,hlen,hs,hf⟩:=Grow.spec _ _ h;refine wp_region_any hm (bX hR (fun o ho e=>by have:=wE.1 hds o ho;rw[e] at this;cases this) (by rw[hl]) hB hlen hs hf _ _ _ _ aW ?_ (fun o ho=>?_) ⟨fun _=>0,fun _=>0,rfl,rfl,hR.drew _,fun _=>(vG _ _).drew,fun i o φ h1 h2 t ht hx _=>?_,fun i o h1 t ht hx=>?_,fun i o i' o' h1 h2 t t' ht ht' hx=>?_,fun t _=>rfl⟩)
 ·exact mF
 ·exact aY _ _
 ·rw[aY] at hx;cases hx
 ·rw[aY] at hx;cases hx
 ·rw[aY] at hx;cases hx
theorem bg {R:Rs} {sp:Tmp} {ex:Ex} (hR:Rel R sp) {P:Program} {id:Nat} {Q:Exit->Act->World->Prop} {a0:Act} {W:World} {l:List Oper} {front:List Oper} {last:Oper} (hm:P.follows .mixedOrders=true) (hf:l.dropLast=front) (hb:l.getLast?=some last) (hds:front.all (fun o=>o.dst.isSome)=true) (hB:growB a0.tmps.size front (some last)=true)
  (h:Grow R sp ex P l.toArray Q W a0 (some last) front []):(Code.region id l.toArray true).wp P Q a0 W:=by
 refine cg hR hm ?_ hds hB h;exact kS

def Bel (w w':World):Prop:=Below w.heap.size w w'
theorem Bel.rel (sp:Tmp):Rel (fun _=>Bel) sp:=⟨fun _=>vG _ _,fun h k=>Below.trans h (Below.mono k (Below.size h)),fun h=>Below.size h,fun _=>(vG _ _).drew,fun _ _ _ h=>h,fun _ _ _ _ _ h=>h⟩
end Gi
end Go.Proofs.YtjgjhkkmlaacdaaGreatDoor

namespace Go.Proofs.YtjgjhkkmlaacdaaGreatDoor
open Go.RowKit
namespace Rc
open Mk

structure Sm (c:Cl):Prop where
 n:c.ns.length<=8
 ns:∀(j:Nat) x,c.ns[j]?=some x->x.zs.length<=8001
 k:c.ks.length<=8
 v:c.vs.length<=8
 vs:∀(j:Nat) x,c.vs[j]?=some x->x.zs.length<=8001
 x:c.xs.length<=8
 p:c.ps.length<=8
 ps:∀(j:Nat) x,c.ps[j]?=some x->x.zs.length<=8001
theorem bq.sm {c:Cl} (h:bq c):Sm c:=by
 obtain⟨_,⟨⟨h1,h2,_⟩,⟨h3,_⟩,⟨h4,h5,_⟩,⟨h6,_⟩,⟨h7,h8,_⟩⟩,_⟩:=h;refine⟨by omega,fun j x hj=>?_,by omega,by omega,fun j x hj=>?_,by omega,by omega,fun j x hj=>?_⟩
 ·have:=(h2 j x hj).2.2.2.2.2.1;omega
 ·have:=(g_ (h5 j x hj).2.2.2.2.2.2).1;omega
 ·have:=(h8 j x hj).2.2.2.1.1;omega

def cL (r:List Fv):List Value:=r.map fun f=>f.val.getD undef
def dR (r:List Fv):Prop:=∀(i:Nat) f,r[i]?=some f->∃v,f.val=some v
theorem Fv.Is.val {w:World} {f:Fv} {v u:Value} (h:f.Is w v) (hu:f.val=some u):v=u/\f.Fr w 0 (fun _=>False) v:=by
 cases f with
 | s t=>cases hu;exact⟨h.1,h⟩
 | i n=>cases hu;exact⟨h,h⟩
 | b x=>cases hu;exact⟨h,h⟩
 | l zs=>cases hu
theorem Fv.Fr.any {w w':World} {f:Fv} {v u:Value} {h h':Nat} {S S':Nat->Prop} (k:f.Fr w h S v) (hu:f.val=some u):f.Fr w' h' S' v:=by
 cases f with
 | l zs=>cases hu
 | _=>exact k
theorem qS {r:List Fv} (hf:dR r) {i:Nat} {f:Fv} (hi:r[i]?=some f):∃u,f.val=some u/\(cL r)[i]?=some u:=by
 obtain⟨u,hu⟩:=hf i f hi;exact⟨u,hu,by rw[cL,vL,hi];simp[hu]⟩
theorem nQ {r:List Fv} (hf:dR r) {i:Nat} {u:Value} (hi:(cL r)[i]?=some u):∃f,r[i]?=some f/\f.val=some u:=by
 rw[cL,vL] at hi;obtain⟨f,h1,h2⟩:=vO.1 hi;obtain⟨v,hv⟩:=hf i f h1;rw[hv] at h2;exact⟨f,h1,by rw[hv];simpa using h2⟩
section
variable {w:World} {a:Option Addr} {len cap m:Nat} {rs:List (List Fv)}
theorem fb (hm:∀(j:Nat) r,rs[j]?=some r->r.length=m):∀(j:Nat) vs,(rs.map cL)[j]?=some vs->vs.length=m:=by
 intro j vs hj;rw[vL] at hj;obtain⟨r,h1,rfl⟩:=vO.1 hj;rw[cL,wj];exact hm j r h1
theorem ia {b o:Nat} (h:aE w (some ⟨b,o,none⟩) len cap m rs) (hm:∀(j:Nat) r,rs[j]?=some r->r.length=m/\dR r):∀(k:Nat) u,(rs.map cL).flatten[k]?=some u->w.cell? ((⟨b,o,none⟩:Addr).add k)=some u:=by
 intro k u hk;obtain⟨j,i,vs,h1,h2,rfl⟩:=e_ (fb fun j r hj=>(hm j r hj).1) hk;rw[vL] at h1;obtain⟨r,h3,rfl⟩:=vO.1 h1;obtain⟨f,h4,h5⟩:=nQ (hm j r h3).2 h2;rcases h.2.2.2 with rfl|⟨b',o',e,_,hc⟩
 ·simp at h3
 ·cases e;obtain⟨v,h6,h7⟩:=hc j r h3 i f h4;rw[wv,<-Nat.add_assoc,h6,(h7.val h5).1]
theorem eb (h:aE w a len cap m rs) (hm:∀(j:Nat) r,rs[j]?=some r->r.length=m/\dR r) (w':World) (S:Nat->Prop):aN w' S m rs (rs.map cL) (fun _ _=>0):=by
 refine⟨by simp,fb fun j r hj=>(hm j r hj).1,fun j r hj=>(hm j r hj).1,fun j r vs hj hv i f hi=>?_,fun j r i zs j' r' i' zs' hj hi=>?_⟩
 ·rw[vL,hj] at hv;cases hv;obtain⟨u,h1,h2⟩:=qS (hm j r hj).2 hi;rcases h.2.2.2 with rfl|⟨b',o',e,_,hc⟩
  ·simp at hj
  ·obtain⟨v,h6,h7⟩:=hc j r hj i f hi;obtain⟨rfl,h8⟩:=h7.val h1;exact⟨v,h2,h8.any h1⟩
 ·obtain⟨v,hv⟩:=(hm j r hj).2 i _ hi;cases hv
end
theorem mb {o:Oper} {a:Act} {w:World} {K:Act->World->Prop} {Q:Exit->Act->World->Prop} (s x:Operand) (t T:TypeId) (ho:o.op=.call { callee:=.builtin .append,args:=#[s,x],argTypes:=#[t,t] }) (i:TypeInfo) (z:Value) (m bytes:Nat) (ht:Tryz.prog.underlying t=some (.slice T)) (hi:Tryz.prog.info? T=some i) (hz:i.zero=some z)
  (hsize:i.size=m) (hby:i.bytes=bytes) (hzs:z.cells.size=m) (hsz:0<m) (hT:¬T=9) (base:Nat) (v0:Value) (hs:a.eval s=v0) (hown:w.ownsRow base T m v0 0 []) (hbw:base<=w.heap.size) {ad:Addr} {len cap:Nat} {rs:List (List Fv)} (hx:a.eval x=.slice (some ad) len cap) (hr:aE w (some ad) len cap m rs) (hm:∀(j:Nat) r,rs[j]?=some r->r.length=m/\dR r) (hl:len<=8) (hb8:bytes<=1000)
  (h:∀a' c' w',au w' a' len c' m T rs (fun k=>base<=k/\k<w'.heap.size)->w.grownBy w' v0.ownBlock->K (a.put o.dst (.slice a' len c')) w'):o.wp Tryz.prog a w K Q:=by
 have hlen:((rs.map cL).flatten).length=len*m:=by rw[cZ (fb fun j r hj=>(hm j r hj).1),wj,hr.1]
 have hne:rs=[]\/∃b o,ad=(⟨b,o,none⟩:Addr):=by
  rcases hr.2.2.2 with h1|⟨b,o,e,_⟩
  ·exact .inl h1
  ·cases e;exact .inr ⟨b,o,rfl⟩
 have hnews:∀(j:Nat) u,((rs.map cL).flatten)[j]?=some u->w.cell? (ad.add j)=some u:=by
  rcases hne with rfl|⟨b,o,rfl⟩
  ·intro j u hu;simp at hu
  ·exact ia hr hm
 refine wp_append_own w s x t ho base T i z m bytes ht hi hz hsize hby hzs hsz v0 0 [] hs hown ad len cap (rs.map cL).flatten hx hlen hnews (eb hr hm w (fun _=>True)).one di (by have:(0+len)*bytes<=8*1000:=Nat.mul_le_mul af hb8;omega) hbw ?_;intro v' w' ho' hg' _;rw[we,List.nil_append] at ho';obtain⟨a',c',rfl,hR⟩:=(eb hr hm w' (fun k=>base<=k/\k<w'.heap.size)).own ho' hr.1.symm hT (fun g hg=>ho'.lt g hg);rw[hr.1] at hR ⊢;exact h a' c' w' hR hg'
theorem mT (x:Kd):(kdF x).length=4/\dR (kdF x):=⟨rfl,fun i f h=>by
 rcases i with _|_|_|_|i <;> first|(cases h;exact⟨_,rfl⟩)|(simp[kdF] at h)⟩
theorem l_ (x:Xd):(xdF x).length=5/\dR (xdF x):=⟨rfl,fun i f h=>by
 rcases i with _|_|_|_|_|i <;> first|(cases h;exact⟨_,rfl⟩)|(simp[xdF] at h)⟩
theorem eT {α:Type} {F:α->List Fv} {m:Nat} (hF:∀x,(F x).length=m/\dR (F x)) (xs:List α):∀(j:Nat) r,(xs.map F)[j]?=some r->r.length=m/\dR r:=by
 intro j r hj;rw[vL] at hj;obtain⟨x,_,rfl⟩:=vO.1 hj;exact hF x
def fS (B:Nat) (len m:Nat) (T:TypeId) (rs:List (List Fv)):Gi.Fact:=fun v w l h=> ∃a c,v=.slice a len c/\au w a len c m T rs (fun k=>l<=k/\k<h)/\B<=l
theorem fS.mono (ex:Gi.Ex) (s:Option Tmp) (B len m:Nat) (T:TypeId) (rs:List (List Fv)):Gi.Fact.cf (fun _=>Gi.Bel) ex s (fS B len m T rs):=by
 rintro s' _ _ _ v w w' l h ⟨a,c,h1,h2,h3⟩ hb;exact⟨a,c,h1,h2.below hb,h3⟩
def ClF (B:Nat) (c:Cl):Gi.Fact:=fun v w _ _=> ∃d:Ad,v=.agg #[.slice d.a1 d.l1 d.c1,.slice d.a2 d.l2 d.c2,.slice d.a3 d.l3 d.c3,.slice d.a4 d.l4 d.c4,.slice d.a5 d.l5 d.c5,.int .i64 c.now]/\bF w d c.raw (fun k=>B<=k)
theorem ClF.mono (ex:Gi.Ex) (s:Option Tmp) (B:Nat) (c:Cl):Gi.Fact.cf (fun _=>Gi.Bel) ex s (ClF B c):=by
 rintro s' _ _ _ v w w' l h ⟨d,h1,h2⟩ hb;exact⟨d,h1,h2.below hb⟩

theorem nJ (d:Ad) (c:Cl) (w:World) (hr:aI w d c.raw) (hs:Sm c):
  Calls Tryz.prog 92 #[.agg #[.slice d.a1 d.l1 d.c1,.slice d.a2 d.l2 d.c2,.slice d.a3 d.l3 d.c3,.slice d.a4 d.l4 d.c4,.slice d.a5 d.l5 d.c5,.int .i64 c.now]] w fun e w'=> ∃d',e=.returned (.agg #[.slice d'.a1 d'.l1 d'.c1,.slice d'.a2 d'.l2 d'.c2,.slice d'.a3 d'.l3 d'.c3,.slice d'.a4 d'.l4 d'.c4,.slice d'.a5 d'.l5 d'.c5,.int .i64 c.now])/\bF w' d' c.raw (fun k=>w.heap.size<=k)/\Below w.heap.size w w':=by
 have HR:=aa hr;have HS:=aa hs;have hl1:c.ns.length=d.l1:=by simpa using (show (c.ns.map ndF).length=d.l1 from hr.n.1)
 have hl2:c.ks.length=d.l2:=by simpa using (show (c.ks.map kdF).length=d.l2 from hr.k.1)
 have hl3:c.vs.length=d.l3:=by simpa using (show (c.vs.map vdF).length=d.l3 from hr.v.1)
 have hl4:c.xs.length=d.l4:=by simpa using (show (c.xs.map xdF).length=d.l4 from hr.x.1)
 have hl5:c.ps.length=d.l5:=by simpa using (show (c.ps.map pdF).length=d.l5 from hr.p.1)
 clear hr hs;obtain⟨i2,hi2⟩:=vO.1 lH;obtain⟨i4,hi4⟩:=vO.1 lE;have HI2:=aa hi2;have HI4:=aa hi4;clear hi2 hi4;obtain⟨W,hW0⟩:∃W,W=(w.alloc (.cells (clv d c.now) 36)).alloc (.cells (clo6 none 0 0 none 0 0 none 0 0 none 0 0 none 0 0 0) 36):=⟨_,rfl⟩;have HB:Hid (Below w.heap.size w W):=by rw[hW0];exact aD _ _ _
 have Bk:Hid (W.heap[w.heap.size]?=some (.cells (clv d c.now) 36 (0,0))):=by rw[hW0];exact dE _ _ _
 obtain⟨Br,hWs⟩:=se;go_enter Tryz.func92,Tryz.ntmps92;go_wp2_with fail;rw[<-hW0];clear hW0;rename_i K0 hK0;refine Gi.bg (ex:=fun _=>none) (Gi.Bel.rel 0) an rfl rfl an an ?_;refine' Gi.Grow.stepC _ rfl ?_ ?_;rotate_left 1
 ·exact fu
 refine' Gi.Grow.stepC _ rfl ?_ ?_;rotate_left 1
 ·refine Gi.Obl.plain rfl ?_;intro ac wg K lo hi hsz hW hpr hf hap hK;clear hsz hap hpr;have e3:=hf 3 ak;simp[Gi.aq,vH] at e3;exact ft
 refine Gi.Grow.step (fS W.heap.size d.l1 7 56 (c.ns.map ndF)) rfl (fS.mono _ _ _ _ _ _ _) ?_ ?_
 ·refine Gi.Obl.plain rfl ?_;intro ac wg K lo hi hsz hW hpr hf hap hK;clear hsz hpr hap;have e4:=hf 4 ak;simp[Gi.aq,vH] at e4;clear hf;go_simp;refine (iE d.a1 d.l1 d.c1 c.ns _ (HR.n.below (HB.trans (Below.mono hW HB.size))) (by have:=HS.n;omega) HS.ns).mono ?_;exact oM
 refine' Gi.Grow.stepC _ rfl ?_ ?_;rotate_left 1
 ·exact fu
 refine' Gi.Grow.stepC _ rfl ?_ ?_;rotate_left 1
 ·refine Gi.Obl.plain rfl ?_;intro ac wg K lo hi hsz hW hpr hf hap hK;clear hsz hap hpr;have e6:=hf 6 ak;simp[Gi.aq,vH] at e6;exact ft
 refine Gi.Grow.step (fS W.heap.size d.l2 4 115 (c.ks.map kdF)) rfl (fS.mono _ _ _ _ _ _ _) ?_ ?_
 ·refine Gi.Obl.plain rfl ?_;intro ac wg K lo hi hsz hW hpr hf hap hK;clear hsz hpr hap;have e7:=hf 7 ak;simp[Gi.aq,vH] at e7;clear hf;cases hq:d.a2 with
  | none=>
   have h0:c.ks=[]:=by
    rcases HR.k.2.2.2 with h|⟨b,o,e,_⟩
    ·have h9:c.ks.map kdF=[]:=h
     simpa using h9
    ·rw[hq] at e;cases e
   have hl0:d.l2=0:=by rw[<-hl2,h0];rfl
   rw[hq,hl0] at e7;go_simp;refine hK _ _ (vG _ _) ⟨none,0,by rw[hl0],?_,Below.size hW⟩;rw[hl0,h0];exact au.nil _ _ _ _ _ af
  | some ad=>
   rw[hq] at e7;have hin:=HR.k.below (HB.trans (Below.mono hW HB.size));have hin2:aE wg d.a2 d.l2 d.c2 4 (c.ks.map kdF):=hin;rw[hq] at hin2
   have hz:i2.zero=some (.agg #[.string ⟨#[]⟩,.bool false,.bool false,.string ⟨#[]⟩])/\i2.size=4/\i2.bytes=40:=by have:=HI2.2;simp only[xz] at this;exact this
   refine mb _ (.tmp 7) 31 115 rfl i2 (.agg #[.string ⟨#[]⟩,.bool false,.bool false,.string ⟨#[]⟩]) 4 40 Tryz.underlying31 HI2.1 hz.1 hz.2.1 hz.2.2 rfl ak ak wg.heap.size (.slice none 0 0) rfl (wK _ _ _ _) (vD _) (by simpa[Act.eval] using e7) hin2 (eT mT _) (by have:=HS.k;omega) ak ?_;intro a' c' w' hR hg;exact hK _ _ ((vG _ _).grown hg (vD _) (fun k hk=>by cases hk)) ⟨a',c',rfl,hR,Below.size hW⟩
 refine' Gi.Grow.stepC _ rfl ?_ ?_;rotate_left 1
 ·exact fu
 refine' Gi.Grow.stepC _ rfl ?_ ?_;rotate_left 1
 ·refine Gi.Obl.plain rfl ?_;intro ac wg K lo hi hsz hW hpr hf hap hK;clear hsz hap hpr;have e9:=hf 9 ak;simp[Gi.aq,vH] at e9;exact ft
 refine Gi.Grow.step (fS W.heap.size d.l3 8 105 (c.vs.map vdF)) rfl (fS.mono _ _ _ _ _ _ _) ?_ ?_
 ·refine Gi.Obl.plain rfl ?_;intro ac wg K lo hi hsz hW hpr hf hap hK;clear hsz hpr hap;have e10:=hf 10 ak;simp[Gi.aq,vH] at e10;clear hf;go_simp;refine (iC d.a3 d.l3 d.c3 c.vs _ (HR.v.below (HB.trans (Below.mono hW HB.size))) (by have:=HS.v;omega) HS.vs).mono ?_;exact oM
 refine' Gi.Grow.stepC _ rfl ?_ ?_;rotate_left 1
 ·exact fu
 refine' Gi.Grow.stepC _ rfl ?_ ?_;rotate_left 1
 ·refine Gi.Obl.plain rfl ?_;intro ac wg K lo hi hsz hW hpr hf hap hK;clear hsz hap hpr;have e12:=hf 12 ak;simp[Gi.aq,vH] at e12;exact ft
 refine Gi.Grow.step (fS W.heap.size d.l4 5 118 (c.xs.map xdF)) rfl (fS.mono _ _ _ _ _ _ _) ?_ ?_
 ·refine Gi.Obl.plain rfl ?_;intro ac wg K lo hi hsz hW hpr hf hap hK;clear hsz hpr hap;have e13:=hf 13 ak;simp[Gi.aq,vH] at e13;clear hf;cases hq:d.a4 with
  | none=>
   have h0:c.xs=[]:=by
    rcases HR.x.2.2.2 with h|⟨b,o,e,_⟩
    ·have h9:c.xs.map xdF=[]:=h
     simpa using h9
    ·rw[hq] at e;cases e
   have hl0:d.l4=0:=by rw[<-hl4,h0];rfl
   rw[hq,hl0] at e13;go_simp;refine hK _ _ (vG _ _) ⟨none,0,by rw[hl0],?_,Below.size hW⟩;rw[hl0,h0];exact au.nil _ _ _ _ _ af
  | some ad=>
   rw[hq] at e13;have hin:=HR.x.below (HB.trans (Below.mono hW HB.size));have hin2:aE wg d.a4 d.l4 d.c4 5 (c.xs.map xdF):=hin;rw[hq] at hin2
   have hz:i4.zero=some (.agg #[.string ⟨#[]⟩,.int .i64 0,.string ⟨#[]⟩,.bool false,.string ⟨#[]⟩])/\i4.size=5/\i4.bytes=64:=by have:=HI4.2;simp only[xz] at this;exact this
   refine mb _ (.tmp 13) 33 118 rfl i4 (.agg #[.string ⟨#[]⟩,.int .i64 0,.string ⟨#[]⟩,.bool false,.string ⟨#[]⟩]) 5 64 Tryz.underlying33 HI4.1 hz.1 hz.2.1 hz.2.2 rfl ak ak wg.heap.size (.slice none 0 0) rfl (wK _ _ _ _) (vD _) (by simpa[Act.eval] using e13) hin2 (eT l_ _) (by have:=HS.x;omega) ak ?_;intro a' c' w' hR hg;exact hK _ _ ((vG _ _).grown hg (vD _) (fun k hk=>by cases hk)) ⟨a',c',rfl,hR,Below.size hW⟩
 refine' Gi.Grow.stepC _ rfl ?_ ?_;rotate_left 1
 ·exact fu
 refine' Gi.Grow.stepC _ rfl ?_ ?_;rotate_left 1
 ·refine Gi.Obl.plain rfl ?_;intro ac wg K lo hi hsz hW hpr hf hap hK;clear hsz hap hpr;have e15:=hf 15 ak;simp[Gi.aq,vH] at e15;exact ft
 refine Gi.Grow.step (fS W.heap.size d.l5 6 107 (c.ps.map pdF)) rfl (fS.mono _ _ _ _ _ _ _) ?_ ?_
 ·refine Gi.Obl.plain rfl ?_;intro ac wg K lo hi hsz hW hpr hf hap hK;clear hsz hpr hap;have e16:=hf 16 ak;simp[Gi.aq,vH] at e16;clear hf;go_simp;refine (iD d.a5 d.l5 d.c5 c.ps _ (HR.p.below (HB.trans (Below.mono hW HB.size))) (by have:=HS.p;omega) HS.ps).mono ?_;exact oM
 refine' Gi.Grow.stepC _ rfl ?_ ?_;rotate_left 1
 ·exact fu
 refine' Gi.Grow.stepC _ rfl ?_ ?_;rotate_left 1
 ·refine Gi.Obl.plain rfl ?_;intro ac wg K lo hi hsz hW hpr hf hap hK;clear hsz hap hpr;have e18:=hf 18 ak;simp[Gi.aq,vH] at e18;exact ft
 refine Gi.Grow.step (ClF W.heap.size c) rfl (ClF.mono _ _ _ _) ?_ ?_
 ·refine Gi.Obl.plain rfl ?_;intro ac wg K lo hi hsz hW hpr hf hap hK;clear hsz hpr;have e5:=hf 5 ak;simp[Gi.aq,vH] at e5;have e8:=hf 8 ak;simp[Gi.aq,vH] at e8;have e11:=hf 11 ak;simp[Gi.aq,vH] at e11;have e14:=hf 14 ak;simp[Gi.aq,vH] at e14;have e17:=hf 17 ak;simp[Gi.aq,vH] at e17;have e19:=hf 19 ak;simp[Gi.aq,vH] at e19;clear hf;obtain⟨a1,c1,e5,ho1,hB1⟩:=e5;obtain⟨a2,c2,e8,ho2,hB2⟩:=e8;obtain⟨a3,c3,e11,ho3,hB3⟩:=e11;obtain⟨a4,c4,e14,ho4,hB4⟩:=e14;obtain⟨a5,c5,e17,ho5,hB5⟩:=e17;have hap2:∀t∈[5,8,11,14,17],∀t'∈[5,8,11,14,17],¬t=t'->hi t<=lo t'\/hi t'<=lo t:=by
   intro t ht t' ht' hne;refine hap t ?_ t' ?_ ?_ ?_ hne
   ·simp only[wH,wS,or_false] at ht;rcases ht with rfl|rfl|rfl|rfl|rfl <;> decide
   ·simp only[wH,wS,or_false] at ht';rcases ht' with rfl|rfl|rfl|rfl|rfl <;> decide
   ·simp only[wH,wS,or_false] at ht;rcases ht with rfl|rfl|rfl|rfl|rfl <;> rfl
   ·simp only[wH,wS,or_false] at ht';rcases ht' with rfl|rfl|rfl|rfl|rfl <;> rfl
  clear hap;have q01:=hap2 5 ak 8 ak ak;have q02:=hap2 5 ak 11 ak ak;have q03:=hap2 5 ak 14 ak ak;have q04:=hap2 5 ak 17 ak ak;have q12:=hap2 8 ak 11 ak ak;have q13:=hap2 8 ak 14 ak ak;have q14:=hap2 8 ak 17 ak ak;have q23:=hap2 11 ak 14 ak ak;have q24:=hap2 11 ak 17 ak ak;have q34:=hap2 14 ak 17 ak ak;clear hap2;have hC:bF wg ⟨a1,d.l1,c1,a2,d.l2,c2,a3,d.l3,c3,a4,d.l4,c4,a5,d.l5,c5⟩ c.raw (fun k=>W.heap.size<=k):=by
   refine⟨fun k=>if lo 5<=k/\k<hi 5 then 1 else if lo 8<=k/\k<hi 8 then 2 else if lo 11<=k/\k<hi 11 then 3 else if lo 14<=k/\k<hi 14 then 4 else 5,?_,?_,?_,?_,?_⟩
   ·exact ho1.cX (fun k _ s=>⟨by have s1:lo 5<=k:=s.1;show W.heap.size<=k;omega,by have s1:lo 5<=k:=s.1;have s2:k<hi 5:=s.2;show (if lo 5<=k/\k<hi 5 then 1 else if lo 8<=k/\k<hi 8 then 2 else if lo 11<=k/\k<hi 11 then 3 else if lo 14<=k/\k<hi 14 then 4 else 5)=1;rw[if_pos ⟨s1,s2⟩]⟩)
   ·exact ho2.cX (fun k _ s=>⟨by have s1:lo 8<=k:=s.1;show W.heap.size<=k;omega,by have s1:lo 8<=k:=s.1;have s2:k<hi 8:=s.2;show (if lo 5<=k/\k<hi 5 then 1 else if lo 8<=k/\k<hi 8 then 2 else if lo 11<=k/\k<hi 11 then 3 else if lo 14<=k/\k<hi 14 then 4 else 5)=2;rw[if_neg af];rw[if_pos ⟨s1,s2⟩]⟩)
   ·exact ho3.cX (fun k _ s=>⟨by have s1:lo 11<=k:=s.1;show W.heap.size<=k;omega,by have s1:lo 11<=k:=s.1;have s2:k<hi 11:=s.2;show (if lo 5<=k/\k<hi 5 then 1 else if lo 8<=k/\k<hi 8 then 2 else if lo 11<=k/\k<hi 11 then 3 else if lo 14<=k/\k<hi 14 then 4 else 5)=3;rw[if_neg af];rw[if_neg af];rw[if_pos ⟨s1,s2⟩]⟩)
   ·exact ho4.cX (fun k _ s=>⟨by have s1:lo 14<=k:=s.1;show W.heap.size<=k;omega,by have s1:lo 14<=k:=s.1;have s2:k<hi 14:=s.2;show (if lo 5<=k/\k<hi 5 then 1 else if lo 8<=k/\k<hi 8 then 2 else if lo 11<=k/\k<hi 11 then 3 else if lo 14<=k/\k<hi 14 then 4 else 5)=4;rw[if_neg af];rw[if_neg af];rw[if_neg af];rw[if_pos ⟨s1,s2⟩]⟩)
   ·exact ho5.cX (fun k _ s=>⟨by have s1:lo 17<=k:=s.1;show W.heap.size<=k;omega,by have s1:lo 17<=k:=s.1;have s2:k<hi 17:=s.2;show (if lo 5<=k/\k<hi 5 then 1 else if lo 8<=k/\k<hi 8 then 2 else if lo 11<=k/\k<hi 11 then 3 else if lo 14<=k/\k<hi 14 then 4 else 5)=5;rw[if_neg af];rw[if_neg af];rw[if_neg af];rw[if_neg af]⟩)
  have HC:=aa hC;clear hC ho1 ho2 ho3 ho4 ho5 q01 q02 q03 q04 q12 q13 q14 q23 q24 q34 hB1 hB2 hB3 hB4 hB5;go_simp;exact hK _ _ (vG _ _) ⟨_,rfl,HC.out⟩
 refine Gi.Grow.done ?_;intro q wz lo hi hW hf hap;clear hap;simp only[wP] at hf;obtain⟨hf20,-⟩:=hf;obtain⟨d',h20,ho⟩:=hf20 bM;have HO:=aa ho;have HBz:=aa (HB.trans (Below.mono hW HB.size));have gr:=(Below.block hW _ (ae Br.out)).trans Br.out;obtain⟨r0,r1,r2,r3,r4,r5⟩:=cs6 gr;have f0:=ar gr 0;have f1:=ar gr 1;have f2:=ar gr 2;have f3:=ar gr 3;have f4:=ar gr 4;have f5:=ar gr 5;clear gr ho hW;intro K hK;rw[if_pos (by rfl)];simp only[Gi.aU,xD,Act.put,wq,wM,wT,h20];simp only[xF];go_simp;refine hK _ _ ?_;refine hK0 _ _ ?_;clear hK hK0 K K0;go_wp2_with fail;refine bodyPost_ret (v:=.agg #[.slice d'.a1 d'.l1 d'.c1,.slice d'.a2 d'.l2 d'.c2,.slice d'.a3 d'.l3 d'.c3,.slice d'.a4 d'.l4 d'.c4,.slice d'.a5 d'.l5 d'.c5,.int .i64 c.now]) (by simp[results,Tryz.results92,go_sem, *]) rfl ⟨d',rfl,?_,sb1 (sb1 (sb1 (sb1 (sb1 (sb1 (HBz.out))))))⟩;obtain⟨P,hP⟩:=HO.out;exact⟨P,hP.aH (fun k _ s=>by have s1:W.heap.size<=k:=s;rw[vB _ _ _ _ (show k≠w.heap.size+1 by omega),vB _ _ _ _ (show k≠w.heap.size+1 by omega),vB _ _ _ _ (show k≠w.heap.size+1 by omega),vB _ _ _ _ (show k≠w.heap.size+1 by omega),vB _ _ _ _ (show k≠w.heap.size+1 by omega),vB _ _ _ _ (show k≠w.heap.size+1 by omega)]) (fun k _ s=>by have s1:W.heap.size<=k:=s;show w.heap.size<=k;omega)⟩

theorem je {w:World} {g:Nat} {cs:Array Value} {T:TypeId} {f:Nat×Nat} (h:w.heap[g]?=some (.cells cs T f)):Below w.heap.size w (w.setRow g cs):=by
 refine⟨rfl,rfl,rfl,by simp,fun k hk=>?_⟩;by_cases e:k=g
 ·subst e;rw[setRow_heap w k cs cs T f h,h]
 ·exact setRow_other w g k cs e

theorem cv {w:World} (t ty e:TypeId) (i:TypeInfo) (ht:Tryz.prog.underlying t=some (.slice e)) (hi:Tryz.prog.info? e=some i) (g cap:Nat):
  (wV #[t,t] ty #[.slice (some ⟨g,0,none⟩) 0 0,.slice none 0 cap]).run Tryz.prog w=.ok (.slice (some ⟨g,0,none⟩) 0 0) w:=by
 simp[wV,run_underlying ht,sizeOf,typeInfo,hi,Builtin.lenOf,xu,storeCells]

theorem bE.here {w:World} {g l c:Nat} {zs:List ByteArray} {S S':Nat->Prop} (h:bE w (some ⟨g,0,none⟩) l c zs S) (hS:S' g):bE w (some ⟨g,0,none⟩) l c zs S':=
 ⟨h.1,h.2.imp id fun ⟨g',cur,e,_,hg⟩=>by cases e;exact⟨g,cur,rfl,hS,hg⟩⟩

theorem fo {w:World} {g0:Nat} {va:Option Addr} {len cap:Nat} {zs:List ByteArray} (ty:TypeId) (hg:w.heap[g0]?=some (.cells #[] 9 (0,0))) (hr:av w va len cap zs) (hl:len<=8001):
  ∃a l c w',(wV #[54,54] ty #[.slice (some ⟨g0,0,none⟩) 0 0,.slice va len cap]).run Tryz.prog w=.ok (.slice a l c) w'/\bE w' a l c zs (fun k=>k=g0\/w.heap.size<=k)/\Below w.heap.size w w':=by
 obtain⟨i0,hi,hz0,hz1,hz2⟩:=info_parts d_;have hzl:=hr.1;rcases Nat.eq_zero_or_pos len with h0|h0
 ·subst h0;obtain rfl:zs=[]:=wQ hzl;cases va with
  | none=>exact⟨_,_,_,_,cv 54 ty 9 i0 Tryz.underlying54 hi g0 cap,⟨⟨rfl,vD _,by omega,fun j x hx=>by simp at hx,.inl rfl⟩,.inl rfl⟩,vG _ _⟩
  | some ad=>
   have h:=run_append_room (P:=Tryz.prog) w 54 ty 9 i0 Tryz.underlying54 hi g0 0 0 #[] hg ad 0 cap [] aW (fun j u hu=>by simp at hu) (fun u hu=>by simp at hu) af aW;exact⟨_,_,_,_,h,⟨⟨rfl,vD _,by omega,fun j x hx=>by simp at hx,.inl rfl⟩,.inl rfl⟩,by simpa using je hg⟩
 ·cases va with
  | none=>
   rcases hr.2.2.2.2 with h|⟨b,o,e,_⟩
   ·subst h;simp at hzl;omega
   ·cases e
  | some ad=>
   have h:=run_append_grow (P:=Tryz.prog) w 54 ty 9 i0 (.string ⟨#[]⟩) Tryz.underlying54 hi hz0 ⟨g0,0,none⟩ 0 0 [] aW (fun j u hu=>by simp at hu) ad len cap (zs.map vU) (by rw[hz1];simpa using hzl) (Ap.mN hr) af af (growslice_fits af ga);obtain⟨v',w',hr2,h2,h3,h4⟩:=run_append_own (P:=Tryz.prog) w (base:=0) 54 ty 9 i0 (.string ⟨#[]⟩) 1 16 Tryz.underlying54 hi hz0 hz1 hz2 rfl ak (.slice (some ⟨g0,0,none⟩) 0 0) 0 [] ⟨rfl,.inr ⟨g0,0,#[],rfl,Nat.zero_le _,hg,vD _,by unfold maxLen;omega,rfl,rfl⟩⟩ ad len cap (zs.map vU) (by simpa using hzl) (Ap.mN hr) (fun u hu=>by obtain⟨x,_,rfl⟩:=List.mem_map.1 hu;rfl) di af (Nat.zero_le _);rw[h] at hr2
   cases hr2
   rw[we,List.nil_append] at h2;obtain⟨a',c',e,hT⟩:=bE.kZ h2 hr.2.2.2.1;have hbel:Below w.heap.size w (w.drew.alloc (.cells (([]:List Value).toArray++(zs.map vU).toArray++Builtin.zeroCells (vU ⟨#[]⟩).cells (grownCap w (0+len) 0 9 - (0+len))) 9)):=⟨rfl,rfl,rfl,by simp,fun k hk=>heap_alloc_old w.drew _ (by simpa using hk)⟩;simp only[we] at e h hbel ⊢
   cases e
   exact⟨_,_,_,_,h,hT.here (.inr (vD _)),hbel⟩
theorem eA {ops:Array Oper} {rest:List Oper} {o:Oper} {a:Act} {w:World} {Q:Exit->Act->World->Prop} (hgd:o.guard=none) (s x:Operand) (ho:o.op=.call { callee:=.builtin .append,args:=#[s,x],argTypes:=#[54,54] }) (g0:Nat) (hs:a.eval s=.slice (some ⟨g0,0,none⟩) 0 0) (hg:w.heap[g0]?=some (.cells #[] 9 (0,0)))
  (va:Option Addr) (len cap:Nat) (hx:a.eval x=.slice va len cap) (zs:List ByteArray) (hr:av w va len cap zs) (hl:len<=8001)
  (h:∀a' l c w',bE w' a' l c zs (fun k=>k=g0\/w.heap.size<=k)->Below w.heap.size w w'->wpList Tryz.prog ops Q rest (a.put o.dst (.slice a' l c)) w'):wpList Tryz.prog ops Q (o ::rest) a w:=by
 refine wpList_plain hgd fun K hK=>?_;obtain⟨a',l,c,w',hrun,h1,h2⟩:=fo o.type hg hr hl;unfold Oper.wp execOp;simp only[ho,resolve,invoke,builtin,Sem.run_bind,Sem.run_pure,Result.andThen_ok,List.map_toArray,List.map_cons,List.map_nil,hs,hx,hrun];exact hK _ _ (h a' l c w' h1 h2)

theorem fQ {w:World} {g0:Nat} {va:Option Addr} {len cap m bytes:Nat} {rs:List (List Fv)} (t ty T:TypeId) (i:TypeInfo) (z:Value) (ht:Tryz.prog.underlying t=some (.slice T)) (hi:Tryz.prog.info? T=some i) (hz:i.zero=some z) (hsize:i.size=m) (hby:i.bytes=bytes) (hzs:z.cells.size=m) (hsz:0<m) (hT:¬T=9) (hg:w.heap[g0]?=some (.cells #[] T (0,0)))
  (hr:aE w va len cap m rs) (hm:∀(j:Nat) r,rs[j]?=some r->r.length=m/\dR r) (hl:len<=8) (hb8:bytes<=1000):
  ∃a c w',(wV #[t,t] ty #[.slice (some ⟨g0,0,none⟩) 0 0,.slice va len cap]).run Tryz.prog w=.ok (.slice a len c) w'/\au w' a len c m T rs (fun k=>k=g0\/w.heap.size<=k)/\Below w.heap.size w w':=by
 rcases Nat.eq_zero_or_pos len with h0|h0
 ·subst h0;obtain rfl:rs=[]:=wQ hr.1;cases va with
  | none=>exact⟨_,_,_,cv t ty T i ht hi g0 cap,au.nil _ _ _ _ _ af,vG _ _⟩
  | some ad=>
   have h:=run_append_room (P:=Tryz.prog) w t ty T i ht hi g0 0 0 #[] hg ad 0 cap [] aW (fun j u hu=>by simp at hu) (fun u hu=>by simp at hu) af aW;exact⟨_,_,_,h,au.nil _ _ _ _ _ af,by simpa using je hg⟩
 ·have hlen:((rs.map cL).flatten).length=len*m:=by rw[cZ (fb fun j r hj=>(hm j r hj).1),wj,hr.1]
  obtain⟨ad,rfl,hnews⟩:∃ad,va=some ad/\∀(j:Nat) u,((rs.map cL).flatten)[j]?=some u->w.cell? (ad.add j)=some u:=by
   rcases hr.2.2.2 with h|⟨b,o,rfl,_⟩
   ·subst h;have:=hr.1;simp at this;omega
   ·exact⟨_,rfl,ia hr hm⟩
  have h:=run_append_grow (P:=Tryz.prog) w t ty T i z ht hi hz ⟨g0,0,none⟩ 0 0 [] aW (fun j u hu=>by simp at hu) ad len cap (rs.map cL).flatten (by rw[hsize];exact hlen) hnews af af (growslice_fits af (by rw[hby];have:(0+len)*bytes<=8*1000:=Nat.mul_le_mul af hb8;omega));obtain⟨v',w',hr2,h2,h3,h4⟩:=run_append_own (P:=Tryz.prog) w (base:=0) t ty T i z m bytes ht hi hz hsize hby hzs hsz (.slice (some ⟨g0,0,none⟩) 0 0) 0 [] ⟨by simp,.inr ⟨g0,0,#[],rfl,Nat.zero_le _,hg,vD _,by unfold maxLen;omega,by simp,by simp⟩⟩ ad len cap (rs.map cL).flatten hlen hnews (eb hr hm w (fun _=>True)).one di (by have:(0+len)*bytes<=8*1000:=Nat.mul_le_mul af hb8;omega) (Nat.zero_le _);rw[h] at hr2;cases hr2;rw[we,List.nil_append] at h2;obtain⟨a',c',e,hR⟩:=(eb hr hm _ (fun k=>k=g0\/w.heap.size<=k)).own h2 hr.1.symm hT (fun g hg=>by simp[xE] at hg;exact .inr af);have hbel:Below w.heap.size w (w.drew.alloc (.cells (([]:List Value).toArray++((rs.map cL).flatten).toArray++Builtin.zeroCells z.cells (grownCap w (0+len) 0 T - (0+len))) T)):=⟨rfl,rfl,rfl,by simp,fun k hk=>heap_alloc_old w.drew _ (by simpa using hk)⟩;rw[hr.1] at e hR;simp only[we] at e h hbel hR ⊢;cases e;exact⟨_,_,_,h,hR,hbel⟩
theorem iS {o:Oper} {a:Act} {w:World} {K:Act->World->Prop} {Q:Exit->Act->World->Prop} {g0:Nat} {va:Option Addr} {len cap m bytes:Nat} {rs:List (List Fv)} (s x:Operand) (t T:TypeId) (ho:o.op=.call { callee:=.builtin .append,args:=#[s,x],argTypes:=#[t,t] }) (i:TypeInfo) (z:Value) (ht:Tryz.prog.underlying t=some (.slice T)) (hi:Tryz.prog.info? T=some i) (hz:i.zero=some z) (hsize:i.size=m) (hby:i.bytes=bytes) (hzs:z.cells.size=m) (hsz:0<m) (hT:¬T=9) (hs:a.eval s=.slice (some ⟨g0,0,none⟩) 0 0) (hg:w.heap[g0]?=some (.cells #[] T (0,0)))
  (hx:a.eval x=.slice va len cap) (hr:aE w va len cap m rs) (hm:∀(j:Nat) r,rs[j]?=some r->r.length=m/\dR r) (hl:len<=8) (hb8:bytes<=1000)
  (h:∀a' c' w',au w' a' len c' m T rs (fun k=>k=g0\/w.heap.size<=k)->Below w.heap.size w w'->K (a.put o.dst (.slice a' len c')) w'):o.wp Tryz.prog a w K Q:=by
 obtain⟨a',c',w',hrun,h1,h2⟩:=fQ t o.type T i z ht hi hz hsize hby hzs hsz hT hg hr hm hl hb8;unfold Oper.wp execOp;simp only[ho,resolve,invoke,builtin,Sem.run_bind,Sem.run_pure,Result.andThen_ok,List.map_toArray,List.map_cons,List.map_nil,hs,hx,hrun];exact h a' c' w' h1 h2

theorem mg {w w':World} {o p:Obj} (h:Below (w.heap.size+1+1) ((w.alloc o).alloc p) w'):w'.heap[w.heap.size]?=some o/\w'.heap[w.heap.size+1]?=some p/\Below w.heap.size w w':=bN (by rw[ct,ct];exact h)
theorem en (w:World) (n:Nat) (hn:w.heap.size=n) (vs:List Value) (T:TypeId):∀(j:Nat) u,vs[j]?=some u->(w.alloc (.cells vs.toArray T)).cell? ((⟨n,0,none⟩:Addr).add j)=some u:=by
 subst hn;exact cV w vs T
theorem u6 {w:World} {b:Nat} {T:TypeId} {u0 u1 u2 u3 u4 u5 v0 v1 v2 v3 v4 v5:Value} (h:w.heap[b]?=some (.cells #[u0,u1,u2,u3,u4,u5] T (0,0))):
  ((((((w.setCell ⟨b,0,none⟩ v0).setCell ⟨b,1,none⟩ v1).setCell ⟨b,2,none⟩ v2).setCell ⟨b,3,none⟩ v3).setCell ⟨b,4,none⟩ v4).setCell ⟨b,5,none⟩ v5).heap[b]?=some (.cells #[v0,v1,v2,v3,v4,v5] T (0,0)):=
 aG (aG (aG (aG (aG (aG h v0) v1) v2) v3) v4) v5
theorem dy {w:World} {b k:Nat} {v0 v1 v2 v3 v4 v5:Value} (hk:¬k=b):
  ((((((w.setCell ⟨b,0,none⟩ v0).setCell ⟨b,1,none⟩ v1).setCell ⟨b,2,none⟩ v2).setCell ⟨b,3,none⟩ v3).setCell ⟨b,4,none⟩ v4).setCell ⟨b,5,none⟩ v5).heap[k]?=w.heap[k]?:=by
 rw[vB _ _ _ _ hk,vB _ _ _ _ hk,vB _ _ _ _ hk,vB _ _ _ _ hk,vB _ _ _ _ hk,vB _ _ _ _ hk]
theorem au.iL {w:World} {a:Option Addr} {len cap m:Nat} {T T':TypeId} {rs:List (List Fv)} {S:Nat->Prop} (h:au w a len cap m T rs S) {b:Nat} {cs:Array Value} (hb:w.heap[b]?=some (.cells cs T' (0,0))) (h1:¬T'=T) (h2:¬T'=9):au w a len cap m T rs (fun k=>S k/\¬k=b):=by
 obtain⟨a1,a2,a3,a4⟩:=h;refine⟨a1,a2,a3,a4.imp id ?_⟩;rintro⟨g,cur,H,e,h5⟩;refine⟨g,cur,H,e,h5.blk,⟨h5.inS,fun q=>?_⟩,h5.len,fun j r hj i f hi=>?_,h5.inj⟩
 ·subst q;have:=h5.blk;rw[hb] at this;cases this;exact h1 rfl
 ·obtain⟨v,q1,q2⟩:=h5.cell j r hj i f hi;refine⟨v,q1,?_⟩;cases f with
  | l zs=>
   obtain⟨a',l',c',k1,k2,k3,k4,k5,k6⟩:=q2;refine⟨a',l',c',k1,k2,k3,k4,k5,k6.imp id ?_⟩;rintro⟨z1,z2,z3,cu,z4,z5⟩;refine⟨z1,⟨z2,fun q=>?_⟩,z3,cu,z4,z5⟩;rw[q] at z4;rw[hb] at z4
   cases z4
   exact h2 rfl
  | _=>exact q2
theorem j0 {w:World} {base n m:Nat} {T T':TypeId} {v u:Value} {xs:List Value} {b i:Nat} {cs:Array Value} (h:w.ownsRow base T m v n xs) (hb:w.heap[b]?=some (.cells cs T' (0,0))) (hT:¬T'=T):(w.setCell ⟨b,i,none⟩ u).ownsRow base T m v n xs:=by
 refine⟨h.1,h.2.imp id ?_⟩;rintro⟨g,cap,cur,h1,h2,h3,h4⟩;refine⟨g,cap,cur,h1,h2,(vB _ _ _ _ (fun e=>?_)).trans h3,h4⟩;subst e;rw[hb] at h3;cases h3;exact hT rfl
theorem aN.set {w:World} {S:Nat->Prop} {m:Nat} {rs:List (List Fv)} {vss:List (List Value)} {H:Nat->Nat->Nat} (h:aN w S m rs vss H) {b i:Nat} {cs:Array Value} {T':TypeId} {u:Value} (hb:w.heap[b]?=some (.cells cs T' (0,0))) (hT:¬T'=9):aN (w.setCell ⟨b,i,none⟩ u) S m rs vss H:=
 h.aH (fun k cu _ q=>vB _ _ _ _ (fun e=>by subst e;rw[hb] at q;cases q;exact hT rfl)) (fun _ _ s=>s)
theorem az.j6 {S:Nat->Prop} {W w:World} {vb:Option Nat} (hg:W.grownBy w vb) (h:∀g,vb=some g->S g):az S W w:=⟨hg.os,hg.tape,hg.output,hg.size,fun k hk hn=>hg.block k hk (fun e=>hn (h k e.symm))⟩
theorem bz {w:World} {base n m:Nat} {T:TypeId} {v:Value} {xs:List Value} (h:w.ownsRow base T m v n xs):∃a l c,v=.slice a l c:=by
 rcases h.2 with ⟨rfl,_⟩|⟨g,cap,cur,rfl,_⟩
 ·exact⟨_,_,_,rfl⟩
 ·exact⟨_,_,_,rfl⟩
abbrev Cps (b:Nat) (X:World):Nat->Prop:=fun k=>k=b\/X.heap.size<=k
theorem lX {X wr W w5:World} {b3 k m:Nat} {T TC:TypeId} {v:Value} {xs:List Value} {cs:Array Value} (hO:wr.ownsRow X.heap.size T m v k xs) (hBo:wr.heap[b3]?=some (.cells cs TC (0,0))) (hb3:b3<X.heap.size) (hb:Below wr.heap.size wr W) (hg:W.grownBy w5 v.ownBlock):w5.heap[b3]?=some (.cells cs TC (0,0)):=
 (hg.block b3 (vN (ae hBo) hb.size) (fun e=>by have:=(hO.lt b3 e.symm).1;omega)).trans ((hb.block _ (ae hBo)).trans hBo)
theorem mY {X wr W w5:World} {b3 k m f:Nat} {T TC:TypeId} {v v':Value} {rs:List (List Fv)} {vss:List (List Value)} {H:Nat->Nat->Nat} {cs:Array Value} {r:List Fv} {vs:List Value} {hh:Nat} (hK:az (Cps b3 X) X wr) (hO:wr.ownsRow X.heap.size T m v k vss.flatten) (hV:aN wr (fun k=>X.heap.size<=k) m rs vss H) (hBo:wr.heap[b3]?=some (.cells cs TC (0,0))) (hb3:b3<X.heap.size)
  (hb:Below wr.heap.size wr W) (hown:w5.ownsRow X.heap.size T m v' (k+1) (vss.flatten++vs)) (hg:W.grownBy w5 v.ownBlock) (hT:¬T=9) (hTC:¬TC=T) (hTS:¬TC=9) (hr:r.length=m) (hvs:vs.length=m) (hc:∀(i:Nat) f,r[i]?=some f->∃v,vs[i]?=some v/\f.Fr W hh (fun k=>X.heap.size<=k) v) (hfr:∀(i:Nat) zs,r[i]?=some (.l zs)->zs≠[]->wr.heap.size<=hh)
  (h1:∀(i i':Nat) zs zs',r[i]?=some (.l zs)->zs≠[]->r[i']?=some (.l zs')->zs'≠[]->i=i'):
  az (Cps b3 X) X (w5.setCell ⟨b3,f,none⟩ v')/\(w5.setCell ⟨b3,f,none⟩ v').ownsRow X.heap.size T m v' (k+1) (vss++[vs]).flatten/\(∃H',aN (w5.setCell ⟨b3,f,none⟩ v') (fun k=>X.heap.size<=k) m (rs++[r]) (vss++[vs]) H')/\(w5.setCell ⟨b3,f,none⟩ v').heap[b3]?=some (.cells (cs.setIfInBounds f v') TC (0,0)):=by
 have hb5:=lX hO hBo hb3 hb hg;refine⟨?_,?_,⟨_,(hV.app hb (bf hO hb) hT hg hr hvs hc hfr h1).set hb5 hTS⟩,aG hb5 v'⟩
 ·exact ((hK.trans (az.cU hb)).trans (az.j6 hg (fun g e=>.inr (hO.lt g e).1))).set (.inl rfl)
 ·rw[List.flatten_append];refine j0 ?_ hb5 hTC;simpa using hown
structure vj (w:World) (d:Ad) (c:Cr) (S:Nat->Prop):Prop where
 n:au w d.a1 d.l1 d.c1 7 56 c.n S
 k:au w d.a2 d.l2 d.c2 4 115 c.k S
 v:au w d.a3 d.l3 d.c3 8 105 c.v S
 x:au w d.a4 d.l4 d.c4 5 118 c.x S
 p:au w d.a5 d.l5 d.c5 6 107 c.p S
def EmF (B:Nat) (T:TypeId):Fact:=fun v w=> ∃b,v=.slice (some ⟨b,0,none⟩) 0 0/\B<=b/\w.heap[b]?=some (.cells #[] T (0,0))
theorem EmF.mono (B:Nat) (T:TypeId):Fact.cf (EmF B T):=by
 rintro v w w' ⟨b,h1,h2,h3⟩ hb;exact⟨b,h1,h2,(hb.block _ (ae h3)).trans h3⟩
def RwF (B len m:Nat) (T:TypeId) (rs:List (List Fv)):Fact:=fun v w=> ∃a c,v=.slice a len c/\au w a len c m T rs (fun k=>B<=k)
theorem RwF.mono (B len m:Nat) (T:TypeId) (rs:List (List Fv)):Fact.cf (RwF B len m T rs):=by
 rintro v w w' ⟨a,c,h1,h2⟩ hb;exact⟨a,c,h1,h2.below hb⟩
def CpF (B l2 l4:Nat) (c:Cl):Fact:=fun v w=> ∃a2 c2 a4 c4,v=.agg #[.slice none 0 0,.slice a2 l2 c2,.slice none 0 0,.slice a4 l4 c4,.slice none 0 0,.int .i64 c.now]/\au w a2 l2 c2 4 115 (c.ks.map kdF) (fun k=>B<=k)/\au w a4 l4 c4 5 118 (c.xs.map xdF) (fun k=>B<=k)
theorem CpF.mono (B l2 l4:Nat) (c:Cl):Fact.cf (CpF B l2 l4 c):=by
 rintro v w w' ⟨a2,c2,a4,c4,h1,h2,h3⟩ hb;exact⟨a2,c2,a4,c4,h1,h2.below hb,h3.below hb⟩
def FrF (B:Nat):Fact:=fun v w=> ∃b,v=.pointer (some ⟨b,0,none⟩)/\B<=b/\w.heap[b]?=some (.cells #[.slice none 0 0,.slice none 0 0,.slice none 0 0,.slice none 0 0,.slice none 0 0,.int .i64 0] 36 (0,0))
theorem FrF.mono (B:Nat):Fact.cf (FrF B):=by
 rintro v w w' ⟨b,h1,h2,h3⟩ hb;exact⟨b,h1,h2,(hb.block _ (ae h3)).trans h3⟩

def Rv (vb:Option Nat) (sp:Tmp):Gi.Rs:=fun s w w'=>match s with
 | none=>w.grownBy w' vb
 | some t=>if t=sp then w.grownBy w' vb else Below w.heap.size w w'
theorem cY {w w':World} (vb:Option Nat) (h:Below w.heap.size w w'):w.grownBy w' vb:=⟨h.os,h.tape,h.output,h.size,fun k hk _=>h.block k hk⟩
theorem Rv.below {vb:Option Nat} {sp:Tmp} {s:Option Tmp} {w w':World} (h:Rv vb sp s w w') (h1:¬s=none) (h2:¬s=some sp):Below w.heap.size w w':=by
 cases s with
 | none=>exact absurd rfl h1
 | some t=>
  simp only[Rv] at h;rw[if_neg (fun e=>h2 (by rw[e]))] at h;exact h
theorem Rv.rel (vb:Option Nat) (sp:Tmp):Gi.Rel (Rv vb sp) sp:=by
 refine⟨fun w=>cY vb (vG _ _),fun {a b c} h k=>?_,fun h=>World.grownBy.size h,fun w=>cY vb (vG _ _).drew,fun s {a b} h=>?_,fun s {a b} h1 h2 h=>Rv.below h h1 h2⟩
 ·have h:World.grownBy a b vb:=h;have k:World.grownBy b c vb:=k;exact⟨k.os.trans h.os,k.tape.trans h.tape,k.output.trans h.output,vI h.size k.size,fun i hi hn=>(k.block i (vN hi h.size) hn).trans (h.block i hi hn)⟩
 ·cases s with
  | none=>exact h
  | some t=>
   show World.grownBy a b vb
   simp only[Rv] at h
   split at h
   ·exact h
   ·exact cY vb h
theorem Rv.other {vb:Option Nat} {sp t:Tmp} {w w':World} (ht:¬t=sp) (h:Below w.heap.size w w'):Rv vb sp (some t) w w':=by
 show (if t=sp then w.grownBy w' vb else Below w.heap.size w w');rw[if_neg ht];exact h
theorem Rv.this {vb:Option Nat} {sp:Tmp} {w w':World} (h:w.grownBy w' vb):Rv vb sp (some sp) w w':=by
 show (if sp=sp then w.grownBy w' vb else Below w.heap.size w w');rw[if_pos rfl];exact h
theorem qj {w:World} {b:Nat} {vs:List Value} {T:TypeId} (h:w.heap[b]?=some (.cells vs.toArray T (0,0))):∀(j:Nat) u,vs[j]?=some u->w.cell? ((⟨b,0,none⟩:Addr).add j)=some u:=by
 intro j u hu;rw[wv,aB h,we];simpa using hu
def TvF (B:Nat) (x:Vd):Gi.Fact:=fun u w _ _=> ∃a l c,u=.agg #[.string x.n,.int .i64 x.c,.string x.z,.string x.k,.bool x.x,.string x.m,.bool x.y,.slice a l c]/\bE w a l c x.zs (fun k=>B<=k)
def BsF (B:Nat) (x:Vd):Gi.Fact:=fun u w _ _=> ∃b a l c,u=.slice (some ⟨b,0,none⟩) 1 1/\B<=b/\w.heap[b]?=some (.cells #[.string x.n,.int .i64 x.c,.string x.z,.string x.k,.bool x.x,.string x.m,.bool x.y,.slice a l c] 105 (0,0))/\bE w a l c x.zs (fun k=>B<=k)
def ApF (B k:Nat) (rs:List (List Fv)) (vss:List (List Value)):Gi.Fact:=fun u w _ _=> ∃H' vs,w.ownsRow B 105 8 u (k+1) (vss++[vs]).flatten/\aN w (fun k=>B<=k) 8 rs (vss++[vs]) H'
theorem TvF.mono {vb:Option Nat} {sp:Tmp} {ex:Gi.Ex} {d:Option Tmp} {B:Nat} {x:Vd} (hv:∀g,vb=some g->g<B):Gi.Fact.cf (Rv vb sp) ex d (TvF B x):=by
 rintro s _ _ _ v w w' l h ⟨a,l,c,h1,h2⟩ hb;have hb:w.grownBy w' vb:=(Rv.rel vb sp).sub s hb;exact⟨a,l,c,h1,h2.aH (fun k hk s=>hb.block k hk (fun e=>by have s1:B<=k:=s;have:=hv k e.symm;omega)) (fun _ _ s=>s)⟩
theorem BsF.mono {vb:Option Nat} {sp:Tmp} {ex:Gi.Ex} {d:Option Tmp} {B:Nat} {x:Vd} (hv:∀g,vb=some g->g<B):Gi.Fact.cf (Rv vb sp) ex d (BsF B x):=by
 rintro s _ _ _ v w w' l h ⟨b,a,l,c,h1,h2,h3,h4⟩ hb;have hb:w.grownBy w' vb:=(Rv.rel vb sp).sub s hb;exact⟨b,a,l,c,h1,h2,(hb.block _ (ae h3) (fun e=>by have:=hv b e.symm;omega)).trans h3,h4.aH (fun k hk s=>hb.block k hk (fun e=>by have s1:B<=k:=s;have:=hv k e.symm;omega)) (fun _ _ s=>s)⟩
theorem ApF.mono {vb:Option Nat} {sp:Tmp} {ex:Gi.Ex} {B k:Nat} {rs:List (List Fv)} {vss:List (List Value)} :Gi.Fact.cf (Rv vb sp) ex (some sp) (ApF B k rs vss):=by
 rintro s h1 h2 _ v w w' l h ⟨H',vs,h3,h4⟩ hb;have hb:=Rv.below hb h1 h2;exact⟨H',vs,bf h3 hb,h4.below hb⟩

theorem kC (d:Ad) (c:Cl) (w:World) (hr:aI w d c.raw) (hs:Sm c):
  Calls Tryz.prog 20 #[.agg #[.slice d.a1 d.l1 d.c1,.slice d.a2 d.l2 d.c2,.slice d.a3 d.l3 d.c3,.slice d.a4 d.l4 d.c4,.slice d.a5 d.l5 d.c5,.int .i64 c.now]] w fun e w'=> ∃d',e=.returned (.agg #[.slice d'.a1 d'.l1 d'.c1,.slice d'.a2 d'.l2 d'.c2,.slice d'.a3 d'.l3 d'.c3,.slice d'.a4 d'.l4 d'.c4,.slice d'.a5 d'.l5 d'.c5,.int .i64 c.now])/\vj w' d' c.raw (fun k=>w.heap.size<=k)/\Below w.heap.size w w':=by
 obtain⟨a1,l1,y1,a2,l2,y2,a3,l3,y3,a4,l4,y4,a5,l5,y5⟩:=d;dsimp only;obtain⟨HR,hl1,hm1,hl2,hm2,hl3,hm3,hl4,hm4,hl5,hm5⟩:=kM;clear hr;have HS:=aa hs;clear hs;obtain⟨i2,hi2⟩:=vO.1 lH;obtain⟨i4,hi4⟩:=vO.1 lE;obtain⟨i1,hi1⟩:=vO.1 fz;obtain⟨i3,hi3⟩:=vO.1 lF;obtain⟨i5,hi5⟩:=vO.1 lG;have HI1:=aa hi1;have HI2:=aa hi2;have HI3:=aa hi3;have HI4:=aa hi4;have HI5:=aa hi5;clear hi1 hi2 hi3 hi4 hi5;obtain⟨W,hW0⟩:∃W,W=(w.alloc (.cells (clo6 a1 l1 y1 a2 l2 y2 a3 l3 y3 a4 l4 y4 a5 l5 y5 c.now) 36)).alloc (.cells (clo6 none 0 0 none 0 0 none 0 0 none 0 0 none 0 0 0) 36):=⟨_,rfl⟩;have HB:Hid (Below w.heap.size w W):=by rw[hW0];exact aD _ _ _
 have Bk:Hid (W.heap[w.heap.size]?=some (.cells (clo6 a1 l1 y1 a2 l2 y2 a3 l3 y3 a4 l4 y4 a5 l5 y5 c.now) 36 (0,0))):=by rw[hW0];exact dE _ _ _
 obtain⟨Br,hWs⟩:=se;go_enter Tryz.func20,Tryz.ntmps20;go_wp2_with fail;rw[<-hW0];clear hW0;rename_i K0 hK0;refine bg an rfl rfl an ?_;refine Grow.step (EmF W.heap.size 115) rfl (EmF.mono _ _) ?_ ?_
 ·exact mJ
 refine' Grow.stepC _ rfl ?_ ?_;rotate_left 1
 ·exact ir
 refine' Grow.stepC _ rfl ?_ ?_;rotate_left 1
 ·refine Obl.plain rfl ?_;intro ac wg K hsz hW hf hK;clear hsz;have e10:=hf 10 ak;simp[aq,vH] at e10;exact fq
 refine Grow.step (RwF W.heap.size l2 4 115 (c.ks.map kdF)) rfl (RwF.mono _ _ _ _ _) ?_ ?_
 ·refine Obl.plain rfl ?_;intro ac wg K hsz hW hf hK;clear hsz;have e9:=hf 9 ak;simp[aq,vH] at e9;have e11:=hf 11 ak;simp[aq,vH] at e11;clear hf;obtain⟨b0,e9,hB0,hg0⟩:=e9;have hz:i2.zero=some (.agg #[.string ⟨#[]⟩,.bool false,.bool false,.string ⟨#[]⟩])/\i2.size=4/\i2.bytes=40:=by have:=HI2.2;simp only[xz] at this;exact this
  refine iS (.tmp 9) (.tmp 11) 31 115 rfl i2 (.agg #[.string ⟨#[]⟩,.bool false,.bool false,.string ⟨#[]⟩]) Tryz.underlying31 HI2.1 hz.1 hz.2.1 hz.2.2 rfl ak ak (by simpa[Act.eval] using e9) hg0 (by simpa[Act.eval] using e11) (HR.k.below (HB.trans (hW.mono HB.size))) (eT mT _) (show l2<=8 by have:=HS.k;omega) ak ?_;exact sD
 refine Grow.step (EmF W.heap.size 118) rfl (EmF.mono _ _) ?_ ?_
 ·exact mJ
 refine' Grow.stepC _ rfl ?_ ?_;rotate_left 1
 ·exact ir
 refine' Grow.stepC _ rfl ?_ ?_;rotate_left 1
 ·refine Obl.plain rfl ?_;intro ac wg K hsz hW hf hK;clear hsz;have e14:=hf 14 ak;simp[aq,vH] at e14;exact fq
 refine Grow.step (RwF W.heap.size l4 5 118 (c.xs.map xdF)) rfl (RwF.mono _ _ _ _ _) ?_ ?_
 ·refine Obl.plain rfl ?_;intro ac wg K hsz hW hf hK;clear hsz;have e13:=hf 13 ak;simp[aq,vH] at e13;have e15:=hf 15 ak;simp[aq,vH] at e15;clear hf;obtain⟨b0,e13,hB0,hg0⟩:=e13;have hz:i4.zero=some (.agg #[.string ⟨#[]⟩,.int .i64 0,.string ⟨#[]⟩,.bool false,.string ⟨#[]⟩])/\i4.size=5/\i4.bytes=64:=by have:=HI4.2;simp only[xz] at this;exact this
  refine iS (.tmp 13) (.tmp 15) 33 118 rfl i4 (.agg #[.string ⟨#[]⟩,.int .i64 0,.string ⟨#[]⟩,.bool false,.string ⟨#[]⟩]) Tryz.underlying33 HI4.1 hz.1 hz.2.1 hz.2.2 rfl ak ak (by simpa[Act.eval] using e13) hg0 (by simpa[Act.eval] using e15) (HR.x.below (HB.trans (hW.mono HB.size))) (eT l_ _) (show l4<=8 by have:=HS.x;omega) ak ?_;exact sD
 refine' Grow.stepC _ rfl ?_ ?_;rotate_left 1
 ·exact ir
 refine' Grow.stepC _ rfl ?_ ?_;rotate_left 1
 ·refine Obl.plain rfl ?_;intro ac wg K hsz hW hf hK;clear hsz;have e17:=hf 17 ak;simp[aq,vH] at e17;exact fq
 refine Grow.step (CpF W.heap.size l2 l4 c) rfl (CpF.mono _ _ _ _) ?_ ?_
 ·refine Obl.plain rfl ?_;intro ac wg K hsz hW hf hK;clear hsz;have e12:=hf 12 ak;simp[aq,vH] at e12;have e16:=hf 16 ak;simp[aq,vH] at e16;have e18:=hf 18 ak;simp[aq,vH] at e18;clear hf;obtain⟨p2,q2,e12,h12⟩:=e12;obtain⟨p4,q4,e16,h16⟩:=e16;have H12:=aa h12;have H16:=aa h16;clear h12 h16;go_simp;exact hK _ _ (vG _ _) ⟨p2,q2,p4,q4,rfl,H12.out,H16.out⟩
 refine Grow.step (FrF W.heap.size) rfl (FrF.mono _) ?_ ?_
 ·exact mJ
 refine Grow.done ?_;intro q wz hW hf;simp only[wP] at hf;obtain⟨⟨b3,h3,hb3,hg3⟩,⟨p2,q2,p4,q4,h19,hR2,hR4⟩,-⟩:=hf;obtain⟨t0,t1,t2,t3,t4,t5⟩:=cs6 hg3;have f0:=ar hg3 0;have f1:=ar hg3 1;have f2:=ar hg3 2;have f3:=ar hg3 3;have f4:=ar hg3 4;have f5:=ar hg3 5;have BoX:=aa (u6 (v0:=.slice none 0 0) (v1:=.slice p2 l2 q2) (v2:=.slice none 0 0) (v3:=.slice p4 l4 q4) (v4:=.slice none 0 0) (v5:=.int .i64 c.now) hg3);have HWX:Hid (Below W.heap.size W ((((((wz.setCell ⟨b3,0,none⟩ (.slice none 0 0)).setCell ⟨b3,1,none⟩ (.slice p2 l2 q2)).setCell ⟨b3,2,none⟩ (.slice none 0 0)).setCell ⟨b3,3,none⟩ (.slice p4 l4 q4)).setCell ⟨b3,4,none⟩ (.slice none 0 0)).setCell ⟨b3,5,none⟩ (.int .i64 c.now))):=ah hb3 (ah hb3 (ah hb3 (ah hb3 (ah hb3 (ah hb3 hW)))));have R2:Hid (au ((((((wz.setCell ⟨b3,0,none⟩ (.slice none 0 0)).setCell ⟨b3,1,none⟩ (.slice p2 l2 q2)).setCell ⟨b3,2,none⟩ (.slice none 0 0)).setCell ⟨b3,3,none⟩ (.slice p4 l4 q4)).setCell ⟨b3,4,none⟩ (.slice none 0 0)).setCell ⟨b3,5,none⟩ (.int .i64 c.now)) p2 l2 q2 4 115 (c.ks.map kdF) (fun k=>W.heap.size<=k/\¬k=b3)):=(hR2.iL hg3 ak ak).aH (fun k hk s=>dy s.2) (fun k _ s=>s);have R4:Hid (au ((((((wz.setCell ⟨b3,0,none⟩ (.slice none 0 0)).setCell ⟨b3,1,none⟩ (.slice p2 l2 q2)).setCell ⟨b3,2,none⟩ (.slice none 0 0)).setCell ⟨b3,3,none⟩ (.slice p4 l4 q4)).setCell ⟨b3,4,none⟩ (.slice none 0 0)).setCell ⟨b3,5,none⟩ (.int .i64 c.now)) p4 l4 q4 5 118 (c.xs.map xdF) (fun k=>W.heap.size<=k/\¬k=b3)):=(hR4.iL hg3 ak ak).aH (fun k hk s=>dy s.2) (fun k _ s=>s);clear hg3 hR2 hR4 hW;intro K hK;rw[if_pos (by rfl)];simp only[aU,xD,Act.put,wq,wM,wT,h3,h19];simp only[xF];go_simp;refine hK _ _ ?_;refine hK0 _ _ ?_;clear hK hK0 K K0;generalize ((((((wz.setCell ⟨b3,0,none⟩ (.slice none 0 0)).setCell ⟨b3,1,none⟩ (.slice p2 l2 q2)).setCell ⟨b3,2,none⟩ (.slice none 0 0)).setCell ⟨b3,3,none⟩ (.slice p4 l4 q4)).setCell ⟨b3,4,none⟩ (.slice none 0 0)).setCell ⟨b3,5,none⟩ (.int .i64 c.now))=X at BoX HWX R2 R4 ⊢;clear t0 t1 t2 t3 t4 t5 f0 f1 f2 f3 f4 f5;have HBX:=aa (HB.trans (HWX.mono HB.size));replace Bk:=aa ((HWX.block _ (ae Bk.out)).trans Bk.out);replace Br:=aa ((HWX.block _ (ae Br.out)).trans Br.out);have hb3X:=ae BoX.out;clear HB;go_wp2;go_loopw [4] (fun vi wr=> ∃(k:Nat) (vss:List (List Value)) (H:Nat->Nat->Nat) (v:Value),k<=l1/\vi=.int .i64 k/\Hid (az (Cps b3 X) X wr)/\Hid (wr.ownsRow X.heap.size 56 7 v k vss.flatten)/\Hid (aN wr (fun k=>X.heap.size<=k) 7 ((c.ns.take k).map ndF) vss H)/\Hid (wr.heap[b3]?=some (.cells #[v,.slice p2 l2 q2,.slice none 0 0,.slice p4 l4 q4,.slice none 0 0,.int .i64 c.now] 36 (0,0)))) (fun vi _=>l1 - (intOf vi).toNat);case atStart=>exact⟨0,[],fun _ _=>0,.slice none 0 0,by omega,rfl,az.refl _ _,wK _ _ _ _,aN.nil _ _ _ _,BoX⟩
 case round=>
  obtain⟨k,vss,H,v,hk,rfl,HK,HO,HV,Bo⟩:=hrel;obtain⟨hXs,HBW,BkR,hKs⟩:=oF;by_cases hlt:k<l1
  ·obtain⟨b,o,x,rfl,hb0,hx,hat⟩:=bJ HR.n hlt;obtain⟨va,vl,vc,hvr,z0,z1,c0,c1,c2,c3,c4,c5,c6⟩:=aO hat;have hz8:vl<=8001:=by have h1:=hvr.1;have h2:=HS.ns k x hx;omega
   have HX:=aa hx;have HT:=aa hvr;have HZz0:=aa z0;have HZz1:=aa z1;clear hat hx hvr z0 z1;replace c0:=(aj HBW.out hb0).trans c0;replace c1:=(aj HBW.out hb0).trans c1;replace c2:=(aj HBW.out hb0).trans c2;replace c3:=(aj HBW.out hb0).trans c3;replace c4:=(aj HBW.out hb0).trans c4;replace c5:=(aj HBW.out hb0).trans c5;replace c6:=(aj HBW.out hb0).trans c6;have hbr:=vN hb0 HBW.size;have hkr:=ae BkR.out;have hor:=ae Bo.out;have hz:i1.zero=some (.agg #[.string ⟨#[]⟩,.string ⟨#[]⟩,.int .i64 0,.int .i64 0,.int .i64 0,.bool false,.slice none 0 0])/\i1.size=7/\i1.bytes=88:=by have:=HI1.2;simp only[xz] at this;exact this
   obtain⟨k0,k1,k2,k3,k4,k5⟩:=cs6 BkR;go_wp2_with (first|(at_builtin;refine eA rfl _ _ rfl (wr.heap.size+1) rfl (bV _ _ _) va vl vc rfl x.zs (HT.below (HBW.trans ((aD _ _ _).mono HBW.size))) hz8 ?_));intro a' l' c' w2 hT2 hb2;obtain⟨hn2,-,hbx⟩:=mg hb2;obtain⟨g,hg⟩:=hT2.fr;obtain⟨hs2,hsl⟩:=rX;have hb4:Below wr.heap.size wr ((w2.setCell ⟨wr.heap.size,6,none⟩ (.slice a' l' c')).alloc (.cells (nov x a' l' c') 56)):=(ah (vD _) hbx).alloc gV _;have HF4:Hid (LFr ((w2.setCell ⟨wr.heap.size,6,none⟩ (.slice a' l' c')).alloc (.cells (nov x a' l' c') 56)) g (fun k=>X.heap.size<=k) x.zs (.slice a' l' c')):=hg.aH (fun cu _ q=>(vS _ _ _ (by simp[wm];exact ae q)).trans (vB _ _ _ _ (fun e=>by subst e;rw[hn2] at q;cases q))) (fun _ s=>by have:=hsl _ s;show X.heap.size<=g;omega);obtain⟨HG,HB4,HO4⟩:=rW;obtain⟨n0,n1,n2,n3,n4,n5,n6⟩:=cs7 hn2;have fn3:=ar hn2 3;have fn6:=ar hn2 6;have bo2:=(hbx.block _ hor).trans Bo.out;obtain⟨o0,o1,o2,o3,o4,o5⟩:=cs6 bo2;clear hn2 hbx hT2 hg hb2 hsl hb4 bo2 k0 k1 k2 k3 k4 k5 c0 c1 c2 c3 c4 c5 c6;go_wp2_with (first|(at_builtin;refine wpList_append_own _ rfl _ _ 30 rfl X.heap.size 56 i1 (.agg #[.string ⟨#[]⟩,.string ⟨#[]⟩,.int .i64 0,.int .i64 0,.int .i64 0,.bool false,.slice none 0 0]) 7 88 Tryz.underlying30 HI1.1 hz.1 hz.2.1 hz.2.2 rfl ak _ _ _ rfl HO4.out ⟨w2.heap.size,0,none⟩ 1 1 [.string x.n,.string x.z,.int .i64 x.c,.int .i64 x.s,.int .i64 x.u,.bool x.d,.slice a' l' c'] rfl rfl ?c1 ?c2 ?c3 ?c4 ?c5 ?_));case c1=>exact en _ _ (by simp[wm]) _ _
   case c2=>intro u hu;simp only[wH,wS,or_false] at hu;rcases hu with rfl|rfl|rfl|rfl|rfl|rfl|rfl <;> rfl
   case c3=>unfold maxLen;have:=HS.n;omega
   case c4=>have:=HS.n;omega
   case c5=>simp[wm];omega
   rintro v' w5 hown5 hgrow -;obtain⟨v1',v2',v3',rfl⟩:=bz hown5;clear n0 n1 n2 n3 fn3 n4 n5 n6 fn6 o0 o1 o2 o3 o4 o5;have bo5:=lX HO.out Bo.out hb3X HB4.out hgrow;obtain⟨hs1,hs2',⟨H',hs3⟩,hs4⟩:=mY (f:=0) (r:=ndF x) (vs:=[.string x.n,.string x.z,.int .i64 x.c,.int .i64 x.s,.int .i64 x.u,.bool x.d,.slice a' l' c']) (hh:=g) HK.out HO.out HV.out Bo.out hb3X HB4.out hown5 hgrow ak ak ak rfl rfl (tz HZz0.out HZz1.out HF4.out) (fun i zs hi hz=>HG.out zs (nB hi).2.symm hz) (fun i i' zs zs' h1 _ h2 _=>(nB h1).1.trans (nB h2).1.symm);have e1:(c.ns.take (k+1)).map ndF=(c.ns.take k).map ndF++[ndF x]:=by rw[wA,HX.out];simp
   exact s_
  ·have hkl:k=l1:=af
   have h5:=HV.out;rw[vK af] at h5;obtain⟨p1,q1,hv,hR⟩:=h5.own HO.out bU ak (fun g hg=>(HO.lt g hg).1);have hl5:(c.ns.map ndF).length=l1:=by simpa using hl1
   rw[hl5] at hv hR;subst hv;have R1:=aa (hR.iL Bo.out ak ak);replace R2:=aa (R2.aH (fun k hk s=>HK.block k hk (fun q9=>by rcases q9 with q9|q9;exact s.2 q9;omega)) (fun _ _ s=>s));replace R4:=aa (R4.aH (fun k hk s=>HK.block k hk (fun q9=>by rcases q9 with q9|q9;exact s.2 q9;omega)) (fun _ _ s=>s));replace Br:=aa ((HK.block (w.heap.size+1) af (fun s=>by rcases s with s|s <;> omega)).trans Br.out);replace Bk:=BkR;replace BoX:=Bo;replace HBX:=HBW;have hb3X1:=ae BoX.out;clear BkR Bo HBW h5 hR HV HO HK hl5 hkl hk hKs hXs;generalize wr=X1 at*;obtain⟨k0,k1,k2,k3,k4,k5⟩:=cs6 Bk;go_wp2;clear k0 k1 k2 k3 k4 k5 hlt;go_loopw [6] (fun vi wr=> ∃(k:Nat) (vss:List (List Value)) (H:Nat->Nat->Nat) (v:Value),k<=l3/\vi=.int .i64 k/\Hid (az (Cps b3 X1) X1 wr)/\Hid (wr.ownsRow X1.heap.size 105 8 v k vss.flatten)/\Hid (aN wr (fun k=>X1.heap.size<=k) 8 ((c.vs.take k).map vdF) vss H)/\Hid (wr.heap[b3]?=some (.cells #[.slice p1 l1 q1,.slice p2 l2 q2,v,.slice p4 l4 q4,.slice none 0 0,.int .i64 c.now] 36 (0,0)))) (fun vi _=>l3 - (intOf vi).toNat);case atStart=>exact⟨0,[],fun _ _=>0,.slice none 0 0,by omega,rfl,az.refl _ _,wK _ _ _ _,aN.nil _ _ _ _,BoX⟩
   case round=>
    obtain⟨k,vss,H,v,hk,rfl,HK,HO,HV,Bo⟩:=hrel;obtain⟨hXs,HBW,BkR,hKs⟩:=oF;by_cases hlt:k<l3
    ·obtain⟨b,o,x,rfl,hb0,hx,hat⟩:=bo HR.v hlt;obtain⟨va,vl,vc,hvr,z0,z2,z3,z5,c0,c1,c2,c3,c4,c5,c6,c7⟩:=aF hat;have hz8:vl<=8001:=by have h1:=hvr.1;have h2:=HS.vs k x hx;omega
     have HX:=aa hx;have HT:=aa hvr;have HZz0:=aa z0;have HZz2:=aa z2;have HZz3:=aa z3;have HZz5:=aa z5;clear hat hx hvr z0 z2 z3 z5;replace c0:=(aj HBW.out hb0).trans c0;replace c1:=(aj HBW.out hb0).trans c1;replace c2:=(aj HBW.out hb0).trans c2;replace c3:=(aj HBW.out hb0).trans c3;replace c4:=(aj HBW.out hb0).trans c4;replace c5:=(aj HBW.out hb0).trans c5;replace c6:=(aj HBW.out hb0).trans c6;replace c7:=(aj HBW.out hb0).trans c7;have hbr:=vN hb0 HBW.size;have hkr:=ae BkR.out;have hor:=ae Bo.out;have hz:i3.zero=some (.agg #[.string ⟨#[]⟩,.int .i64 0,.string ⟨#[]⟩,.string ⟨#[]⟩,.bool false,.string ⟨#[]⟩,.bool false,.slice none 0 0])/\i3.size=8/\i3.bytes=112:=by have:=HI3.2;simp only[xz] at this;exact this
     obtain⟨k0,k1,k2,k3,k4,k5⟩:=cs6 BkR;have hvb:=fun g hg=>(HO.lt g hg).2;go_wp2_with fail;clear k0 k1 k2 k3 k4 k5;rename_i K0 hK0;refine Gi.bg (R:=Rv v.ownBlock 59) (ex:=fun _=>none) (Rv.rel _ _) an rfl rfl an an ?_;refine' Gi.Grow.stepC _ rfl ?_ ?_;rotate_left 1
     ·exact pA
     refine' Gi.Grow.stepC _ rfl ?_ ?_;rotate_left 1
     ·refine Gi.Obl.plain rfl ?_;intro ac wg K lo hi hsz hW hpr hf hap hK;clear hsz hap hpr;have hW:wr.grownBy wg v.ownBlock:=hW;have e50:=hf 50 ak;simp[Gi.aq,vH] at e50;clear hf;obtain⟨o0,o1,o2,o3,o4,o5⟩:=cs6 ((hW.block b3 hor (fun e=>by have:=(HO.lt _ e.symm).1;omega)).trans Bo.out);exact gg
     refine' Gi.Grow.stepC _ rfl ?_ ?_;rotate_left 1
     ·refine Gi.Obl.plain rfl ?_;intro ac wg K lo hi hsz hW hpr hf hap hK;clear hsz hap hpr;have hW:wr.grownBy wg v.ownBlock:=hW;have e1:=hf 1 ak;simp[Gi.aq,vH] at e1;clear hf;exact gg
     refine' Gi.Grow.stepC _ rfl ?_ ?_;rotate_left 1
     ·refine Gi.Obl.plain rfl ?_;intro ac wg K lo hi hsz hW hpr hf hap hK;clear hsz hap hpr;have hW:wr.grownBy wg v.ownBlock:=hW;have e52:=hf 52 ak;simp[Gi.aq,vH] at e52;clear hf;obtain⟨k0,k1,k2,k3,k4,k5⟩:=cs6 ((hW.block w.heap.size hkr (fun e=>by have:=(HO.lt _ e.symm).1;omega)).trans BkR.out);exact gg
     refine' Gi.Grow.stepC _ rfl ?_ ?_;rotate_left 1
     ·refine Gi.Obl.plain rfl ?_;intro ac wg K lo hi hsz hW hpr hf hap hK;clear hsz hap hpr;have hW:wr.grownBy wg v.ownBlock:=hW;have e6:=hf 6 ak;simp[Gi.aq,vH] at e6;clear hf;exact gg
     refine' Gi.Grow.stepC _ rfl ?_ ?_;rotate_left 1
     ·refine Gi.Obl.plain rfl ?_;intro ac wg K lo hi hsz hW hpr hf hap hK;clear hsz hap hpr;have hW:wr.grownBy wg v.ownBlock:=hW;have e53:=hf 53 ak;simp[Gi.aq,vH] at e53;have e54:=hf 54 ak;simp[Gi.aq,vH] at e54;clear hf;exact gg
     refine' Gi.Grow.stepC _ rfl ?_ ?_;rotate_left 1
     ·refine Gi.Obl.plain rfl ?_;intro ac wg K lo hi hsz hW hpr hf hap hK;clear hsz hap hpr;have hW:wr.grownBy wg v.ownBlock:=hW;have e55:=hf 55 ak;simp[Gi.aq,vH] at e55;clear hf;have c0g:=(wL (hW.block b hbr (fun e=>by have:=(HO.lt _ e.symm).1;omega))).trans c0;have c1g:=(wL (hW.block b hbr (fun e=>by have:=(HO.lt _ e.symm).1;omega))).trans c1;have c2g:=(wL (hW.block b hbr (fun e=>by have:=(HO.lt _ e.symm).1;omega))).trans c2;have c3g:=(wL (hW.block b hbr (fun e=>by have:=(HO.lt _ e.symm).1;omega))).trans c3;have c4g:=(wL (hW.block b hbr (fun e=>by have:=(HO.lt _ e.symm).1;omega))).trans c4;have c5g:=(wL (hW.block b hbr (fun e=>by have:=(HO.lt _ e.symm).1;omega))).trans c5;have c6g:=(wL (hW.block b hbr (fun e=>by have:=(HO.lt _ e.symm).1;omega))).trans c6;have c7g:=(wL (hW.block b hbr (fun e=>by have:=(HO.lt _ e.symm).1;omega))).trans c7;exact gg
     refine Gi.Grow.step (TvF wr.heap.size x) rfl (TvF.mono hvb) ?_ ?_
     ·refine Gi.Obl.plain rfl ?_;intro ac wg K lo hi hsz hW hpr hf hap hK;clear hsz hap hpr;have hW:wr.grownBy wg v.ownBlock:=hW;have e56:=hf 56 ak;simp[Gi.aq,vH] at e56;clear hf;have hBg:=HBW.grown hW HBW.size (fun g hg=>by have:=(HO.lt g hg).1;omega);go_simp;refine (Ap.uf x.n x.c x.z x.k x.x x.m x.y va vl vc x.zs _ (HT.below hBg) hz8).mono ?_;rintro e w6 ⟨a',l',c',rfl,ho1,ho2,hb6⟩;have hws:=hW.size;exact hK _ _ (Rv.other ak hb6) ⟨a',l',c',rfl,bE.cX ⟨ho1,ho2⟩ (fun k _ s=>vI hws s)⟩
     refine Gi.Grow.step (BsF wr.heap.size x) rfl (BsF.mono hvb) ?_ ?_
     ·refine Gi.Obl.plain rfl ?_;intro ac wg K lo hi hsz hW hpr hf hap hK;clear hsz hap hpr;have hW:wr.grownBy wg v.ownBlock:=hW;have e57:=hf 57 ak;simp[Gi.aq,vH] at e57;clear hf;obtain⟨a',l',c',e57,ho⟩:=e57;have HO7:=aa ho;clear ho;go_simp;exact hK _ _ (Rv.other ak (ai _ _)) ⟨_,a',l',c',rfl,hW.size,vP,HO7.below (ai _ _)⟩
     refine Gi.Grow.step (ApF X1.heap.size k ((c.vs.take (k+1)).map vdF) vss) rfl (ApF.mono) ?_ ?_
     ·refine Gi.Obl.plain rfl ?_;intro ac wg K lo hi hsz hW hpr hf hap hK;clear hsz hap;have hW:wr.grownBy wg v.ownBlock:=hW;have e51:=hf 51 ak;simp[Gi.aq,vH] at e51;have e58:=hf 58 ak;simp[Gi.aq,vH] at e58;clear hf;have hbW:=hpr rfl;clear hpr;obtain⟨b5,a',l',c',e58,hb5,hg5,ho5⟩:=e58;obtain⟨g,hg⟩:=ho5.fr;have hws:=hW.size;refine wp_append_own wg (.tmp 51) (.tmp 58) 32 rfl X1.heap.size 105 i3 (.agg #[.string ⟨#[]⟩,.int .i64 0,.string ⟨#[]⟩,.string ⟨#[]⟩,.bool false,.string ⟨#[]⟩,.bool false,.slice none 0 0]) 8 112 Tryz.underlying32 HI3.1 hz.1 hz.2.1 hz.2.2 rfl ak v k vss.flatten (by simpa[Act.eval] using e51) (bf HO.out hbW) ⟨b5,0,none⟩ 1 1 [.string x.n,.int .i64 x.c,.string x.z,.string x.k,.bool x.x,.string x.m,.bool x.y,.slice a' l' c'] (by simpa[Act.eval] using e58) rfl (qj hg5) (by intro u hu;simp only[wH,wS,or_false] at hu;rcases hu with rfl|rfl|rfl|rfl|rfl|rfl|rfl|rfl <;> rfl) (by unfold maxLen;have:=HS.v;omega) (by have:=HS.v;omega) af ?_;intro v' w' hown hgr _;have hV:=HV.app (r:=vdF x) (vs:=[.string x.n,.int .i64 x.c,.string x.z,.string x.k,.bool x.x,.string x.m,.bool x.y,.slice a' l' c']) (hh:=g) hbW (bf HO.out hbW) ak hgr rfl rfl (rT HZz0.out HZz2.out HZz3.out HZz5.out (hg.aH (S':=fun k=>X1.heap.size<=k) (fun cu _ q=>rfl) (fun _ s=>by have s1:wr.heap.size<=g:=s;show X1.heap.size<=g;omega))) (fun i zs hi hz=>by obtain⟨_,rfl⟩:=ni hi;exact (hg.lt hz).1) (fun i i' zs zs' h1 _ h2 _=>(ni h1).1.trans (ni h2).1.symm);have e1:(c.vs.take (k+1)).map vdF=(c.vs.take k).map vdF++[vdF x]:=by rw[wA,HX.out];simp
      rw[<-e1] at hV;exact hK _ _ (Rv.this hgr) ⟨_,[.string x.n,.int .i64 x.c,.string x.z,.string x.k,.bool x.x,.string x.m,.bool x.y,.slice a' l' c'],by rw[List.flatten_append];simpa using hown,hV⟩
     refine' Gi.Grow.stepC _ rfl ?_ ?_;rotate_left 1
     ·exact pA
     refine Gi.Grow.done ?_;intro q wz lo hi hW hf hap;clear hap;have hW:wr.grownBy wz v.ownBlock:=hW;simp only[wP] at hf;obtain⟨h60,h59,-⟩:=hf;have h60:=h60 bM;obtain⟨H',vs',hs2,hs3⟩:=h59 bM;obtain⟨v',hv'⟩:∃v',q 59=v':=⟨_,rfl⟩;rw[hv'] at hs2;obtain⟨v1',v2',v3',rfl⟩:=bz hs2;have bo5:=(hW.block b3 hor (fun e=>by have:=(HO.lt _ e.symm).1;omega)).trans Bo.out;have HS1:=aa (((HK.trans (az.j6 hW (fun g e=>.inr (HO.lt g e).1))).set (i:=2) (v:=.slice v1' v2' v3') (.inl rfl)));have HS2:=aa (j0 (i:=2) (u:=.slice v1' v2' v3') hs2 bo5 ak);have HS3:=aa (hs3.set (i:=2) (u:=.slice v1' v2' v3') bo5 ak);have HS4:=aa (aG (i:=2) bo5 (.slice v1' v2' v3'));obtain⟨o0,o1,o2,o3,o4,o5⟩:=cs6 bo5;have fo0:=ar bo5 0;have fo2:=ar bo5 2;have fo4:=ar bo5 4;clear bo5 hs2 hs3 hW c0 c1 c2 c3 c4 c5 c6 c7;intro K hK;rw[if_pos (by rfl)];simp only[Gi.aU,xD,Act.put,wq,wM,wT,h60,hv'];simp only[xF];go_simp;refine hK _ _ ?_;refine hK0 _ _ ?_;clear hK hK0 K K0;go_wp2;exact⟨⟨k+1,_,H',_,by omega,by go_num,HS1,HS2,HS3,HS4⟩,by simp[intOf];omega⟩
    ·have hkl:k=l3:=af
     have h5:=HV.out;rw[vK af] at h5;obtain⟨p3,q3,hv,hR⟩:=h5.own HO.out bU ak (fun g hg=>(HO.lt g hg).1);have hl5:(c.vs.map vdF).length=l3:=by simpa using hl3
     rw[hl5] at hv hR;subst hv;have R3:=aa (hR.iL Bo.out ak ak);replace R2:=aa (R2.aH (fun k hk s=>HK.block k hk (fun q9=>by rcases q9 with q9|q9;exact s.2 q9;omega)) (fun _ _ s=>s));replace R4:=aa (R4.aH (fun k hk s=>HK.block k hk (fun q9=>by rcases q9 with q9|q9;exact s.2 q9;omega)) (fun _ _ s=>s));replace R1:=aa (R1.aH (fun k hk s=>HK.block k hk (fun q9=>by rcases q9 with q9|q9;exact s.2 q9;omega)) (fun _ _ s=>s));replace Br:=aa ((HK.block (w.heap.size+1) af (fun s=>by rcases s with s|s <;> omega)).trans Br.out);replace Bk:=BkR;replace BoX:=Bo;replace HBX:=HBW;have hb3X2:=ae BoX.out;clear BkR Bo HBW h5 hR HV HO HK hl5 hkl hk hKs hXs;generalize wr=X2 at*;obtain⟨k0,k1,k2,k3,k4,k5⟩:=cs6 Bk;go_wp2;clear k0 k1 k2 k3 k4 k5 hlt;go_loopw [7] (fun vi wr=> ∃(k:Nat) (vss:List (List Value)) (H:Nat->Nat->Nat) (v:Value),k<=l5/\vi=.int .i64 k/\Hid (az (Cps b3 X2) X2 wr)/\Hid (wr.ownsRow X2.heap.size 107 6 v k vss.flatten)/\Hid (aN wr (fun k=>X2.heap.size<=k) 6 ((c.ps.take k).map pdF) vss H)/\Hid (wr.heap[b3]?=some (.cells #[.slice p1 l1 q1,.slice p2 l2 q2,.slice p3 l3 q3,.slice p4 l4 q4,v,.int .i64 c.now] 36 (0,0)))) (fun vi _=>l5 - (intOf vi).toNat);case atStart=>exact⟨0,[],fun _ _=>0,.slice none 0 0,by omega,rfl,az.refl _ _,wK _ _ _ _,aN.nil _ _ _ _,BoX⟩
     case round=>
      obtain⟨k,vss,H,v,hk,rfl,HK,HO,HV,Bo⟩:=hrel;obtain⟨hXs,HBW,BkR,hKs⟩:=oF;by_cases hlt:k<l5
      ·obtain⟨b,o,x,rfl,hb0,hx,hat⟩:=bB HR.p hlt;obtain⟨va,vl,vc,hvr,z0,z2,z4,c0,c1,c2,c3,c4,c5⟩:=aL hat;have hz8:vl<=8001:=by have h1:=hvr.1;have h2:=HS.ps k x hx;omega
       have HX:=aa hx;have HT:=aa hvr;have HZz0:=aa z0;have HZz2:=aa z2;have HZz4:=aa z4;clear hat hx hvr z0 z2 z4;replace c0:=(aj HBW.out hb0).trans c0;replace c1:=(aj HBW.out hb0).trans c1;replace c2:=(aj HBW.out hb0).trans c2;replace c3:=(aj HBW.out hb0).trans c3;replace c4:=(aj HBW.out hb0).trans c4;replace c5:=(aj HBW.out hb0).trans c5;have hbr:=vN hb0 HBW.size;have hkr:=ae BkR.out;have hor:=ae Bo.out;have hz:i5.zero=some (.agg #[.string ⟨#[]⟩,.int .i64 0,.string ⟨#[]⟩,.slice none 0 0,.string ⟨#[]⟩,.int .i64 0])/\i5.size=6/\i5.bytes=88:=by have:=HI5.2;simp only[xz] at this;exact this
       obtain⟨k0,k1,k2,k3,k4,k5⟩:=cs6 BkR;go_wp2_with (first|(at_builtin;refine eA rfl _ _ rfl (wr.heap.size+1) rfl (bV _ _ _) va vl vc rfl x.zs (HT.below (HBW.trans ((aD _ _ _).mono HBW.size))) hz8 ?_));intro a' l' c' w2 hT2 hb2;obtain⟨hn2,-,hbx⟩:=mg hb2;obtain⟨g,hg⟩:=hT2.fr;obtain⟨hs2,hsl⟩:=rX;have hb4:Below wr.heap.size wr ((w2.setCell ⟨wr.heap.size,3,none⟩ (.slice a' l' c')).alloc (.cells (pov x a' l' c') 107)):=(ah (vD _) hbx).alloc gV _;have HF4:Hid (LFr ((w2.setCell ⟨wr.heap.size,3,none⟩ (.slice a' l' c')).alloc (.cells (pov x a' l' c') 107)) g (fun k=>X2.heap.size<=k) x.zs (.slice a' l' c')):=hg.aH (fun cu _ q=>(vS _ _ _ (by simp[wm];exact ae q)).trans (vB _ _ _ _ (fun e=>by subst e;rw[hn2] at q;cases q))) (fun _ s=>by have:=hsl _ s;show X2.heap.size<=g;omega);obtain⟨HG,HB4,HO4⟩:=rW;obtain⟨n0,n1,n2,n3,n4,n5⟩:=cs6 hn2;have fn3:=ar hn2 3;have bo2:=(hbx.block _ hor).trans Bo.out;obtain⟨o0,o1,o2,o3,o4,o5⟩:=cs6 bo2;clear hn2 hbx hT2 hg hb2 hsl hb4 bo2 k0 k1 k2 k3 k4 k5 c0 c1 c2 c3 c4 c5;go_wp2_with (first|(at_builtin;refine wpList_append_own _ rfl _ _ 34 rfl X2.heap.size 107 i5 (.agg #[.string ⟨#[]⟩,.int .i64 0,.string ⟨#[]⟩,.slice none 0 0,.string ⟨#[]⟩,.int .i64 0]) 6 88 Tryz.underlying34 HI5.1 hz.1 hz.2.1 hz.2.2 rfl ak _ _ _ rfl HO4.out ⟨w2.heap.size,0,none⟩ 1 1 [.string x.n,.int .i64 x.c,.string x.z,.slice a' l' c',.string x.d,.int .i64 x.p] rfl rfl ?c1 ?c2 ?c3 ?c4 ?c5 ?_));case c1=>exact en _ _ (by simp[wm]) _ _
       case c2=>intro u hu;simp only[wH,wS,or_false] at hu;rcases hu with rfl|rfl|rfl|rfl|rfl|rfl <;> rfl
       case c3=>unfold maxLen;have:=HS.p;omega
       case c4=>have:=HS.p;omega
       case c5=>simp[wm];omega
       rintro v' w5 hown5 hgrow -;obtain⟨v1',v2',v3',rfl⟩:=bz hown5;clear n0 n1 n2 n3 fn3 n4 n5 o0 o1 o2 o3 o4 o5;have bo5:=lX HO.out Bo.out hb3X2 HB4.out hgrow;obtain⟨hs1,hs2',⟨H',hs3⟩,hs4⟩:=mY (f:=4) (r:=pdF x) (vs:=[.string x.n,.int .i64 x.c,.string x.z,.slice a' l' c',.string x.d,.int .i64 x.p]) (hh:=g) HK.out HO.out HV.out Bo.out hb3X2 HB4.out hown5 hgrow ak ak ak rfl rfl (tx HZz0.out HZz2.out HZz4.out HF4.out) (fun i zs hi hz=>HG.out zs (ny hi).2.symm hz) (fun i i' zs zs' h1 _ h2 _=>(ny h1).1.trans (ny h2).1.symm);have e1:(c.ps.take (k+1)).map pdF=(c.ps.take k).map pdF++[pdF x]:=by rw[wA,HX.out];simp
       exact s_
      ·have hkl:k=l5:=af
       have h5:=HV.out;rw[vK af] at h5;obtain⟨p5,q5,hv,hR⟩:=h5.own HO.out bU ak (fun g hg=>(HO.lt g hg).1);have hl5:(c.ps.map pdF).length=l5:=by simpa using hl5
       rw[hl5] at hv hR;subst hv;have R5:=aa (hR.iL Bo.out ak ak);replace R2:=aa (R2.aH (fun k hk s=>HK.block k hk (fun q9=>by rcases q9 with q9|q9;exact s.2 q9;omega)) (fun _ _ s=>s));replace R4:=aa (R4.aH (fun k hk s=>HK.block k hk (fun q9=>by rcases q9 with q9|q9;exact s.2 q9;omega)) (fun _ _ s=>s));replace R1:=aa (R1.aH (fun k hk s=>HK.block k hk (fun q9=>by rcases q9 with q9|q9;exact s.2 q9;omega)) (fun _ _ s=>s));replace R3:=aa (R3.aH (fun k hk s=>HK.block k hk (fun q9=>by rcases q9 with q9|q9;exact s.2 q9;omega)) (fun _ _ s=>s));replace Br:=aa ((HK.block (w.heap.size+1) af (fun s=>by rcases s with s|s <;> omega)).trans Br.out);replace Bk:=BkR;replace BoX:=Bo;replace HBX:=HBW;clear BkR Bo HBW h5 hR HV HO HK hl5 hkl hk hKs hXs;generalize wr=X3 at*;obtain⟨k0,k1,k2,k3,k4,k5⟩:=cs6 Bk;obtain⟨o0,o1,o2,o3,o4,o5⟩:=cs6 BoX;obtain⟨r0,r1,r2,r3,r4,r5⟩:=cs6 Br;have hXs:=HBX.size;obtain⟨fr0,fr1,fr2,fr3,fr4,fr5⟩:=eK;go_wp2;refine bodyPost_ret (v:=.agg #[.slice p1 l1 q1,.slice p2 l2 q2,.slice p3 l3 q3,.slice p4 l4 q4,.slice p5 l5 q5,.int .i64 c.now]) (by simp[results,Tryz.results20,go_sem, *]) rfl ⟨⟨p1,l1,q1,p2,l2,q2,p3,l3,q3,p4,l4,q4,p5,l5,q5⟩,rfl,⟨?_,?_,?_,?_,?_⟩,sb1 (sb1 (sb1 (sb1 (sb1 (sb1 (HBX.out))))))⟩
       ·exact (R1.aH (S':=fun k=>w.heap.size<=k) (fun k hk s=>dy (by have s1:X.heap.size<=k:=s.1;omega)) (fun k _ s=>by have s1:X.heap.size<=k:=s.1;show w.heap.size<=k;omega))
       ·exact (R2.aH (S':=fun k=>w.heap.size<=k) (fun k hk s=>dy (by have s1:W.heap.size<=k:=s.1;omega)) (fun k _ s=>by have s1:W.heap.size<=k:=s.1;show w.heap.size<=k;omega))
       ·exact (R3.aH (S':=fun k=>w.heap.size<=k) (fun k hk s=>dy (by have s1:X1.heap.size<=k:=s.1;omega)) (fun k _ s=>by have s1:X1.heap.size<=k:=s.1;show w.heap.size<=k;omega))
       ·exact (R4.aH (S':=fun k=>w.heap.size<=k) (fun k hk s=>dy (by have s1:W.heap.size<=k:=s.1;omega)) (fun k _ s=>by have s1:W.heap.size<=k:=s.1;show w.heap.size<=k;omega))
       ·exact (R5.aH (S':=fun k=>w.heap.size<=k) (fun k hk s=>dy (by have s1:X2.heap.size<=k:=s.1;omega)) (fun k _ s=>by have s1:X2.heap.size<=k:=s.1;show w.heap.size<=k;omega))

structure Co where
 c:Cl
 n:ByteArray
 p:Int
def cl0:Cl:=⟨[],[],[],[],[],0⟩
def co0 (p:Int):Co:=⟨cl0,⟨#[]⟩,p⟩
def ad0:Ad:=⟨none,0,0,none,0,0,none,0,0,none,0,0,none,0,0⟩
theorem uv (w:World) (S:Nat->Prop):bF w ad0 cl0.raw S:=⟨fun _=>1,au.nil _ _ _ _ _ (by decide),au.nil _ _ _ _ _ (by decide),au.nil _ _ _ _ _ (by decide),au.nil _ _ _ _ _ (by decide),au.nil _ _ _ _ _ (by decide)⟩
def vh (Is:Co->Prop) (w:World) (e:Ending) (w':World):Prop:=∃g o,e=.returned (.agg #[.slice g.a1 g.l1 g.c1,.slice g.a2 g.l2 g.c2,.slice g.a3 g.l3 g.c3,.slice g.a4 g.l4 g.c4,.slice g.a5 g.l5 g.c5,.int .i64 o.c.now,.string o.n,.int .i64 o.p])/\Is o/\bF w' g o.c.raw (fun k=>w.heap.size<=k)/\Below w.heap.size w w'
def uH (Is:Co->Prop) (w:World) (e:Ending) (w':World):Prop:=∃g o,e=.returned (.agg #[.slice g.a1 g.l1 g.c1,.slice g.a2 g.l2 g.c2,.slice g.a3 g.l3 g.c3,.slice g.a4 g.l4 g.c4,.slice g.a5 g.l5 g.c5,.int .i64 o.c.now,.string o.n,.int .i64 o.p])/\Is o/\aI w' g o.c.raw/\Below w.heap.size w w'

theorem ez (g g':Ad) (o:Co) (w:World) (hr:aI w g o.c.raw) (hr':aI w g' o.c.raw):
  Calls Tryz.prog 8 #[.agg #[.slice g.a1 g.l1 g.c1,.slice g.a2 g.l2 g.c2,.slice g.a3 g.l3 g.c3,.slice g.a4 g.l4 g.c4,.slice g.a5 g.l5 g.c5,.int .i64 o.c.now,.string o.n,.int .i64 o.p],.agg #[.slice g'.a1 g'.l1 g'.c1,.slice g'.a2 g'.l2 g'.c2,.slice g'.a3 g'.l3 g'.c3,.slice g'.a4 g'.l4 g'.c4,.slice g'.a5 g'.l5 g'.c5,.int .i64 o.c.now,.string o.n,.int .i64 o.p]] w fun e w'=>e=.returned (.bool true)/\Below w.heap.size w w':=by
 have HR:=aa hr;have HR':=aa hr';have HB:=aa (vG w.heap.size w);clear hr hr';go_enter Tryz.func8,Tryz.ntmps8;go_wp2_with fail;refine (er g g' o.c _ (HR.below (HB.trans ((aD _ _ _).mono HB.size))) (HR'.below (HB.trans ((aD _ _ _).mono HB.size)))).mono ?_;rintro e w1 ⟨rfl,hb⟩;obtain⟨HA0,HA1,hbx⟩:=bN hb;have Ba:=aa HA0;have Bb:=aa HA1;replace HB:=upB HB hbx;clear hb hbx HA0 HA1;obtain⟨a0,a1,a2,a3,a4,a5,a6,a7⟩:=cs8 Ba;obtain⟨b0,b1,b2,b3,b4,b5,b6,b7⟩:=cs8 Bb;go_wp2;go_ret;exact⟨rfl,HB.out⟩

theorem ix (g:Ad) (o:Co) (N:Int) (S:Nat->Prop) (w:World) (ho:bF w g o.c.raw S) (hS:∀k,S k->k<w.heap.size) (hN:0<N) (hb:cO N o.c.raw<=1152921504606846976):
  Calls Tryz.prog 11 #[.agg #[.slice g.a1 g.l1 g.c1,.slice g.a2 g.l2 g.c2,.slice g.a3 g.l3 g.c3,.slice g.a4 g.l4 g.c4,.slice g.a5 g.l5 g.c5,.int .i64 o.c.now,.string o.n,.int .i64 o.p],.int .i64 N] w fun e w'=>e=.returned (.int .i64 (cO N o.c.raw))/\bF w' g (mkC N o.c.raw) S/\az S w w':=by
 have HO:=aa (ho.below (ai w (.cells #[.slice g.a1 g.l1 g.c1,.slice g.a2 g.l2 g.c2,.slice g.a3 g.l3 g.c3,.slice g.a4 g.l4 g.c4,.slice g.a5 g.l5 g.c5,.int .i64 o.c.now,.string o.n,.int .i64 o.p] 38)));have HS:=aa hS;clear ho hS;go_enter Tryz.func11,Tryz.ntmps11;go_wp2_with fail;refine (dI g o.c N S _ HO.out (fun k s=>by have:=HS.out k s;simp;omega) hN hb).mono ?_;rintro e w1 ⟨rfl,ho,hk⟩;have HO1:=aa ho;have HK:=aa ((az.cU (S:=S) (ai w (.cells #[.slice g.a1 g.l1 g.c1,.slice g.a2 g.l2 g.c2,.slice g.a3 g.l3 g.c3,.slice g.a4 g.l4 g.c4,.slice g.a5 g.l5 g.c5,.int .i64 o.c.now,.string o.n,.int .i64 o.p] 38))).trans hk);clear ho hk;go_wp2;go_ret;exact⟨rfl,HO1.out,HK.out⟩

theorem iH (g:Ad) (o:Co) (N:Int) (w:World) (hr:aI w g (mkC N o.c.raw)) (hN:0<N) (hb:cO N o.c.raw<=1152921504606846976):
  Calls Tryz.prog 12 #[.agg #[.slice g.a1 g.l1 g.c1,.slice g.a2 g.l2 g.c2,.slice g.a3 g.l3 g.c3,.slice g.a4 g.l4 g.c4,.slice g.a5 g.l5 g.c5,.int .i64 o.c.now,.string o.n,.int .i64 o.p],.int .i64 N] w fun e w'=>e=.returned (.int .i64 (cO N o.c.raw))/\Below w.heap.size w w':=by
 have HR:=aa (hr.below (ai w (.cells #[.slice g.a1 g.l1 g.c1,.slice g.a2 g.l2 g.c2,.slice g.a3 g.l3 g.c3,.slice g.a4 g.l4 g.c4,.slice g.a5 g.l5 g.c5,.int .i64 o.c.now,.string o.n,.int .i64 o.p] 38)));clear hr;obtain⟨M,hM⟩:∃M,M=cO N o.c.raw:=⟨_,rfl⟩;have hM0:¬M<0:=by rw[hM];have:=iw N o.c.raw;omega
 have HM:=aa hM;clear hM;go_enter Tryz.func12,Tryz.ntmps12;go_wp2_with fail;refine (fR g o.c o.c.now N _ HR.out hN hb).mono ?_;rintro e w1 ⟨rfl,hb1⟩;rw[<-HM.out];have HB:=aa (aJ hb1).2;clear hb1;go_wp2;go_ret;exact⟨by rw[<-HM.out];rfl,HB.out⟩

theorem dq {m:Nat} {vss:List (List Value)} (hl:∀(j:Nat) vs,vss[j]?=some vs->vs.length=m) {k:Nat} (hk:k<=vss.length):(vss.take k).flatten.length=k*m:=by
 rw[cZ (m:=m) (fun j vs h=>?_),vX,Nat.min_eq_left hk];rw[wb] at h;split at h
 ·exact hl j vs h
 ·cases h
theorem fA {m:Nat} {vss:List (List Value)} (hl:∀(j:Nat) vs,vss[j]?=some vs->vs.length=m) {k:Nat} :(vss.drop k).flatten.length=(vss.length - k)*m:=by
 rw[cZ (m:=m) (fun j vs h=>?_),wI];rw[wZ] at h;exact hl _ vs h
theorem ik {vss:List (List Value)} {k i:Nat} {u:Value} (h:(vss.take k).flatten[i]?=some u):vss.flatten[i]?=some u:=by
 have h1:vss.flatten=(vss.take k).flatten++(vss.drop k).flatten:=mq
 rw[h1,wh (vz.1 h).1];exact h
theorem iJ {m:Nat} {vss:List (List Value)} (hl:∀(j:Nat) vs,vss[j]?=some vs->vs.length=m) {k i:Nat} {u:Value} (hk:k<=vss.length) (h:(vss.drop k).flatten[i]?=some u):vss.flatten[k*m+i]?=some u:=by
 have h1:vss.flatten=(vss.take k).flatten++(vss.drop k).flatten:=mq
 rw[h1,wu (by rw[dq hl hk];omega),dq hl hk,Nat.add_sub_cancel_left];exact h
theorem bS {P:Value->Prop} {vss:List (List Value)} (h:∀u∈vss.flatten,P u) (k:Nat):(∀u∈(vss.take k).flatten,P u)/\∀u∈(vss.drop k).flatten,P u:=by
 have h1:vss.flatten=(vss.take k).flatten++(vss.drop k).flatten:=mq
 exact⟨fun u hu=>h u (by rw[h1];exact List.mem_append_left _ hu),fun u hu=>h u (by rw[h1];exact List.mem_append_right _ hu)⟩

theorem jc (p:Int) (w:World):
  Calls Tryz.prog 19 #[.int .i64 p] w fun e w'=>e=.returned (.agg #[.slice none 0 0,.slice none 0 0,.slice none 0 0,.slice none 0 0,.slice none 0 0,.int .i64 0,.string ⟨#[]⟩,.int .i64 p])/\Below w.heap.size w w':=by
 go_enter Tryz.func19,Tryz.ntmps19;go_wp2;exact bodyPost_ret (v:=.agg #[.slice none 0 0,.slice none 0 0,.slice none 0 0,.slice none 0 0,.slice none 0 0,.int .i64 0,.string ⟨#[]⟩,.int .i64 p]) (by simp[results,Tryz.results19,go_sem]) rfl ⟨rfl,ai _ _⟩

def wo {α:Type} (nm:α->ByteArray) (t:ByteArray) (xs:List α):List α:=xs.filter fun x=> !((nm x).toList==t.toList)
theorem nV {α:Type} {nm:α->ByteArray} {t:ByteArray} {xs:List α} {k:Nat} {x:α} (h:xs[k]?=some x) (hn:((nm x).toList==t.toList)=false):wo nm t (xs.take (k+1))=wo nm t (xs.take k)++[x]:=by
 unfold wo;rw[wA,h,List.filter_append];simp[hn]
theorem ug {α:Type} {nm:α->ByteArray} {t:ByteArray} {xs:List α} {k:Nat} {x:α} (h:xs[k]?=some x) (hn:((nm x).toList==t.toList)=true):wo nm t (xs.take (k+1))=wo nm t (xs.take k):=by
 unfold wo;rw[wA,h,List.filter_append];simp[hn]
theorem rS {α:Type} (nm:α->ByteArray) (t:ByteArray) (xs:List α):(wo nm t xs).length<=xs.length:=List.length_filter_le _ _
structure Sel {α β:Type} (xs ys:List α) (vss ws:List β) (k:Nat) (f:Nat->Nat):Prop where
 len:ws.length=ys.length
 y:∀j,j<ys.length->ys[j]?=xs[f j]?
 v:∀j,j<ys.length->ws[j]?=vss[f j]?
 lt:∀j,j<ys.length->f j<k
 inj:∀i j,i<ys.length->j<ys.length->f i=f j->i=j
theorem Sel.nil {α β:Type} (xs:List α) (vss:List β) (k:Nat) (f:Nat->Nat):Sel xs [] vss [] k f:=⟨rfl,fun j h=>by simp at h,fun j h=>by simp at h,fun j h=>by simp at h,fun i j h=>by simp at h⟩
theorem Sel.up {α β:Type} {xs ys:List α} {vss ws:List β} {k:Nat} {f:Nat->Nat} (h:Sel xs ys vss ws k f):Sel xs ys vss ws (k+1) f:=⟨h.len,h.y,h.v,fun j hj=>Nat.lt_succ_of_lt (h.lt j hj),h.inj⟩
theorem Sel.push {α β:Type} {xs ys:List α} {vss ws:List β} {k:Nat} {f:Nat->Nat} (h:Sel xs ys vss ws k f) {x:α} {u:β} (hx:xs[k]?=some x) (hu:vss[k]?=some u):Sel xs (ys++[x]) vss (ws++[u]) (k+1) (fun j=>if j=ys.length then k else f j):=by
 have hl:=h.len;refine⟨by simp[hl],fun j hj=>?_,fun j hj=>?_,fun j hj=>?_,fun i j hi hj e=>?_⟩
 ·by_cases e:j=ys.length
  ·subst e;simp[hx]
  ·have hj':j<ys.length:=by simp at hj;omega
   rw[wh hj',if_neg e];exact h.y j hj'
 ·by_cases e:j=ys.length
  ·subst e;rw[if_pos rfl,hu,wu af,hl,Nat.sub_self];rfl
  ·have hj':j<ys.length:=by simp at hj;omega
   rw[wh af,if_neg e];exact h.v j hj'
 ·by_cases e:j=ys.length
  ·simp only[if_pos e];omega
  ·have hj':j<ys.length:=by simp at hj;omega
   simp only[if_neg e];have:=h.lt j hj';omega
 ·by_cases e1:i=ys.length <;> by_cases e2:j=ys.length
  ·omega
  ·have hj':j<ys.length:=by simp at hj;omega
   simp only[if_pos e1,if_neg e2] at e;have:=h.lt j hj';omega
  ·have hi':i<ys.length:=by simp at hi;omega
   simp only[if_pos e2,if_neg e1] at e;have:=h.lt i hi';omega
  ·simp only[if_neg e1,if_neg e2] at e;exact h.inj i j (by simp at hi;omega) (by simp at hj;omega) e
theorem Sel.oo {w:World} {S:Nat->Prop} {m k:Nat} {α:Type} {F:α->List Fv} {xs ys:List α} {vss ws:List (List Value)} {H:Nat->Nat->Nat} {f:Nat->Nat} (h:Sel xs ys vss ws k f) (hv:aN w S m (xs.map F) vss H):aN w S m (ys.map F) ws (fun j=>H (f j)):=
 hv.vp f (by rw[h.len,wj]) (fun j hj=>by rw[wj] at hj;rw[vL,vL,h.y j hj]) (fun j hj=>by rw[wj] at hj;exact h.v j hj) (fun i j hi hj e=>h.inj i j (by simpa using hi) (by simpa using hj) e)
theorem nW {vs:List Value} {a0 a1 a2 a3 a4 a5 a6:Value} (hl:vs.length=7) (h0:vs[0]?=some a0) (h1:vs[1]?=some a1) (h2:vs[2]?=some a2) (h3:vs[3]?=some a3) (h4:vs[4]?=some a4) (h5:vs[5]?=some a5) (h6:vs[6]?=some a6):vs=[a0,a1,a2,a3,a4,a5,a6]:=by
 apply List.ext_getElem?;intro i;rcases i with _|_|_|_|_|_|_|i
 ·exact h0
 ·exact h1
 ·exact h2
 ·exact h3
 ·exact h4
 ·exact h5
 ·exact h6
 ·rw[wG af,wG aW]
theorem dx {w:World} {S:Nat->Prop} {m g:Nat} {rs:List (List Fv)} {vss:List (List Value)} {H:Nat->Nat->Nat} (hV:aN w S m rs vss H) (hc:∀(k:Nat) u,vss.flatten[k]?=some u->w.cell? ⟨g,k,none⟩=some u) {k:Nat} {vs:List Value} (hk:vss[k]?=some vs) {i:Nat} {u:Value} (hi:i<m) (hu:w.cell? ⟨g,k*m+i,none⟩=some u):vs[i]?=some u:=by
 have hl:=hV.all k vs hk;have h1:vs[i]?=some (vs[i]'(by omega)):=vF _;have h2:=hc _ _ (fa hV.all hk h1);rw[hu] at h2;rw[h1];exact h2.symm

theorem dn.u7 {w2 w3 w4:World} {d:Ad} {c:Cr} {B:Nat} {P:Nat->Nat} (h:dn w2 d c (fun k=>B<=k) P) (hB:B<=w2.heap.size) {a:Option Addr} {l cp:Nat} {rs:List (List Fv)} (hN:au w3 a l cp 7 56 rs (fun k=>((B<=k/\P k=1)/\k<w2.heap.size)\/w2.heap.size+1<=k)) (hb:Below w2.heap.size w2 w3) (hk:∀k,B<=k->¬k=w2.heap.size->w4.heap[k]?=w3.heap[k]?):bF w4 ⟨a,l,cp,d.a2,d.l2,d.c2,d.a3,d.l3,d.c3,d.a4,d.l4,d.c4,d.a5,d.l5,d.c5⟩ ⟨rs,c.k,c.v,c.x,c.p⟩ (fun k=>B<=k):=by
 refine⟨fun k=>if w2.heap.size+1<=k then 1 else P k,?_,?_,?_,?_,?_⟩
 ·refine hN.aH (fun k _ s=>hk k (by rcases s with s|s;exact s.1.1;omega) (by rcases s with s|s <;> omega)) (fun k _ s=>?_);rcases s with s|s
  ·exact⟨s.1.1,by show (if w2.heap.size+1<=k then 1 else P k)=1;rw[if_neg af];exact s.1.2⟩
  ·exact⟨by show B<=k;omega,if_pos s⟩
 ·exact h.k.aH (fun k hl s=>(hk k s.1 af).trans (hb.block k hl)) (fun k hl s=>⟨s.1,by show (if w2.heap.size+1<=k then 1 else P k)=2;rw[if_neg af];exact s.2⟩)
 ·exact h.v.aH (fun k hl s=>(hk k s.1 af).trans (hb.block k hl)) (fun k hl s=>⟨s.1,by show (if w2.heap.size+1<=k then 1 else P k)=3;rw[if_neg af];exact s.2⟩)
 ·exact h.x.aH (fun k hl s=>(hk k s.1 af).trans (hb.block k hl)) (fun k hl s=>⟨s.1,by show (if w2.heap.size+1<=k then 1 else P k)=4;rw[if_neg af];exact s.2⟩)
 ·exact h.p.aH (fun k hl s=>(hk k s.1 af).trans (hb.block k hl)) (fun k hl s=>⟨s.1,by show (if w2.heap.size+1<=k then 1 else P k)=5;rw[if_neg af];exact s.2⟩)
theorem ib (p:Int):cO 1 (co0 p).c.raw<=1152921504606846976:=by simp[co0,cl0,Cl.raw,cO,aA]

def ph1 (t:ByteArray) (p:Pd):Pd:=if p.d.toList==t.toList then ⟨p.n,p.c,p.z,p.zs,p.d,1⟩ else p
theorem rF {t:ByteArray} {p:Pd} (h:p.d=t):ph1 t p=⟨p.n,p.c,p.z,p.zs,p.d,1⟩:=by unfold ph1;rw[aP h];rfl
theorem tK {t:ByteArray} {p:Pd} (h:¬p.d=t):ph1 t p=p:=by unfold ph1;rw[bk h];rfl
def cE (c:Cl) (t:ByteArray):Nat->Prop
 | 0=>8000<t.size
 | 1=>¬8000<t.size/\¬bq c
 | 2=>¬8000<t.size/\bq c/\hit Nd.n c.ns t=false
 | _=>False
def c_ (c:Cl) (t:ByteArray) (n:Nd):Prop:=¬8000<t.size/\bq c/\c.ns[pl Nd.n c.ns t]?=some n/\n.n=t
theorem cE.uniq {c:Cl} {t:ByteArray} {i j:Nat} (h:cE c t i) (h':cE c t j):i=j:=by
 rcases i with _|_|_|i <;> rcases j with _|_|_|j <;> first
  | rfl
  | exact absurd h h'.1
  | exact absurd h' h.1
  | exact absurd h.2.1 h'.2
  | exact absurd h'.2.1 h.2
  | exact h.elim
  | exact h'.elim
theorem c_.no {c:Cl} {t:ByteArray} {n:Nd} {i:Nat} (h:c_ c t n) (h':cE c t i):False:=by
 rcases i with _|_|_|i
 ·exact h.1 h'
 ·exact h'.2 h.2.1
 ·have h9:=h'.2.2;rw[(cq h.2.1.2.1.1.2.2 h.2.2.1 h.2.2.2).2] at h9;cases h9
 ·exact h'
theorem c_.uniq {c:Cl} {t:ByteArray} {n m:Nd} (h:c_ c t n) (h':c_ c t m):n=m:=by
 have h1:=h.2.2.1;rw[h'.2.2.1] at h1;exact (vC h1).symm
def phL (t:ByteArray) (ps:List Pd) (k:Nat):List Pd:=(ps.map (ph1 t)).take k++ps.drop k
theorem kW {t:ByteArray} {ps:List Pd} {k:Nat} (h:k<ps.length):(phL t ps k)[k]?=ps[k]?:=by
 unfold phL;exact pN
theorem jZ {t:ByteArray} {ps:List Pd} {k:Nat} {x:Pd} (hx:ps[k]?=some x):phL t ps (k+1)=(phL t ps k).set k (ph1 t x):=by
 have hk:k<ps.length:=(vz.1 hx).1;unfold phL;have h1:((ps.map (ph1 t)).take k).length=k:=by simp;omega
 exact sO
theorem rD {t:ByteArray} {ps:List Pd} {k:Nat} (h:ps.length<=k):phL t ps k=ps.map (ph1 t):=by
 unfold phL;rw[vK (by simpa using h),wW h,List.append_nil]
theorem az.uW {S:Nat->Prop} {w w1:World} {g i:Nat} {v:Value} (h:az S w w1) (hg:S g):az S w (w1.setCell ⟨g,i,none⟩ v):=
 ⟨h.os,h.tape,h.output,by simpa[wm] using h.size,fun k hk hn=>(vB _ _ _ _ (show¬k=g from fun e=>hn (by rw[e];exact hg))).trans (h.block k hk hn)⟩
theorem au.beside {w w':World} {a a':Option Addr} {l cp l' cp' m:Nat} {T:TypeId} {rs rs':List (List Fv)} {S S':Nat->Prop} (hn:au w a' l' cp' m T rs' S') (hp:au w a l cp 6 107 rs S) (hk:az (fun k=>0<l/\a=some ⟨k,0,none⟩) w w') (hT:¬107=T):au w' a' l' cp' m T rs' S':=by
 by_cases h0:0<l
 ·obtain⟨h1,h2,h3,h4⟩:=hp;rcases h4 with h4|⟨g,cur,H,rfl,h6⟩
  ·rw[h4] at h1;simp at h1;omega
  ·exact (hn.iL h6.blk hT ak).aH (fun k hk2 s=>hk.block k hk2 (fun q=>s.2 (by have h9:=q.2;cases h9;rfl))) (fun _ _ s=>s.1)
 ·exact hn.aH (fun k hk2 s=>hk.block k hk2 (fun q=>h0 q.1)) (fun _ _ s=>s)
def uG (a:Option Addr) (l cp:Nat) (t:ByteArray) (ps:List Pd) (S:Nat->Prop) (w:World) (e:Ending) (w':World):Prop:=(∃v,e=.returned v)/\au w' a l cp 6 107 ((ps.map (ph1 t)).map pdF) S/\az (fun k=>0<l/\a=some ⟨k,0,none⟩) w w'

theorem gU {α:Type} {l:List α} {k:Nat} {x:α} (h:l[k]?=some x):l.set k x=l:=by
 obtain⟨hk,rfl⟩:=vz.1 h;exact List.set_getElem_self hk

theorem ky (b:Nat) (a1 a2 a3 a4 a:Option Addr) (l1 y1 l2 y2 l3 y3 l4 y4 l cp:Nat) (now:Int) (t:ByteArray) (ps:List Pd) (S:Nat->Prop) (w:World) (hb:w.heap[b]?=some (.cells #[.slice a1 l1 y1,.slice a2 l2 y2,.slice a3 l3 y3,.slice a4 l4 y4,.slice a l cp,.int .i64 now] 36 (0,0))) (ho:au w a l cp 6 107 (ps.map pdF) S) (hS:∀g,0<l->a=some ⟨g,0,none⟩->¬g=b):
  Calls Tryz.prog 22 #[.pointer (some ⟨b,0,none⟩),.string t,.bool false] w (uG a l cp t ps S w):=by
 have hpl:ps.length=l:=by simpa using ho.1
 have hlm:l<=9223372036854775807:=vI ho.2.1 ho.2.2.1;have Bc:=aa hb;have HO0:Hid (au w a l cp 6 107 ((phL t ps 0).map pdF) S):=by show au _ _ _ _ _ _ _ _;simpa[phL] using ho
 clear hb ho;go_enter Tryz.func22,Tryz.ntmps22;go_wp2;go_loopw [6] (fun vi wr=> ∃k:Nat,k<=l/\vi=.int .i64 k/\Hid (au wr a l cp 6 107 ((phL t ps k).map pdF) S)/\Hid (az (fun k=>0<l/\a=some ⟨k,0,none⟩) w wr)) (fun vi _=>l - (intOf vi).toNat);case atStart=>exact⟨0,by omega,rfl,HO0,az.refl _ _⟩
 case round=>
  obtain⟨k,hk,rfl,HO,HK⟩:=hrel;clear HO0;replace Bc:=aa ((HK.block _ (ae Bc.out) (fun h=>hS _ h.1 h.2 rfl)).trans Bc.out);by_cases hlt:k<l
  ·obtain⟨x,hx0⟩:∃x,ps[k]?=some x:=⟨_,vF af⟩;have HX0:=aa hx0;have hLk:((phL t ps k).map pdF)[k]?=some (pdF x):=by rw[vL,kW af,hx0];rfl
   obtain⟨g,rfl,hS2⟩:=HO.st (az.refl S wr) hLk;obtain⟨b2,o2,x2,hae,hbl,hx2,hat⟩:=bB HO.row hlt;cases hae;rw[kW af,hx0] at hx2;obtain rfl:=vC hx2;obtain⟨va,vl,vc,-,-,-,-,-,-,-,-,c4,c5⟩:=aL hat;have hf5:=hS2.bW (k*6+5);have HST:=aa hS2;have hne:¬g=b:=hS g af rfl;have hne2:¬b=g:=fun e=>hne e.symm;rw[we] at c4 c5;have hk1:(k:Int)<l:=af
   clear hat hx2 hx0 hS2 hLk;by_cases he:x.d=t
   ·have hq:=aP he;have HHE:=aa he;clear he;obtain⟨c0,c1,c2,c3,c4,c5⟩:=cs6 Bc;have ltc_0:=ae Bc.out;go_wp2;have h2:=HST.ec (i:=5) rfl 1;obtain⟨⟨cur2,H2,h3,_⟩,h4,_⟩:=h2;have hR:au (wr.setCell ⟨g,k*6+5,none⟩ (.int .i64 1)) (some ⟨g,0,none⟩) l cp 6 107 ((phL t ps (k+1)).map pdF) S:=by
     rw[jZ HX0.out,xh,rF HHE.out];exact⟨by rw[List.length_set];exact HO.1,HO.2.1,HO.2.2.1,.inr ⟨g,cur2,H2,rfl,h3⟩⟩
    have HR2:=aa hR;have HK2:=aa (HK.uW (i:=k*6+5) (v:=.int .i64 1) (show 0<l/\(some ⟨g,0,none⟩:Option Addr)=some ⟨g,0,none⟩ from ⟨by omega,rfl⟩));clear hR h3 h4;clear c0 c1 c2 c3 c4 c5 ltc_0;obtain⟨W,hW0⟩:∃W,W=wr.setCell ⟨g,k*6+5,none⟩ (.int .i64 1):=⟨_,rfl⟩;rw[<-hW0] at HR2 HK2 ⊢;clear hW0 c4 c5 hf5;have hne0:=Wd.ne W;refine ag an an ?_;repeat (go_big_quiet_step (first|fail))
    refine wpQuiet_nil ?_;rintro _ ⟨q1,rfl⟩;go_wp2;exact⟨⟨k+1,by omega,by go_num,HR2.below q1.b,HK2.below q1.b⟩,by simp[intOf];omega⟩
   have hq:=bk he;have HHE:=aa he;clear he;obtain⟨c0,c1,c2,c3,c4,c5⟩:=cs6 Bc;have ltc_0:=ae Bc.out;go_wp2;refine⟨⟨k+1,by omega,by go_num,?_,HK.out⟩,by simp[intOf];omega⟩;show au _ _ _ _ _ _ _ _;rw[jZ HX0.out,tK HHE.out,gU (by rw[kW af];exact HX0.out)];exact HO.out
  have hk1:¬(k:Int)<l:=af
  obtain⟨c0,c1,c2,c3,c4,c5⟩:=cs6 Bc;have ltc_0:=ae Bc.out;go_wp2;have HO2:=HO;rw[rD af] at HO2;exact pQ

theorem nG (a:Option Addr) (len cap:Nat) (xs:List Nd) (t:ByteArray) (Q:Nat->Prop) (w:World) (ho:au w a len cap 7 56 (xs.map ndF) Q) (hl:len<=8):
  Calls Tryz.prog 93 #[.slice a len cap,.string t] w fun e w'=> ∃a' l' c',e=.returned (.slice a' l' c')/\au w' a' l' c' 7 56 ((wo Nd.n t xs).map ndF) (fun k=>Q k\/w.heap.size<=k)/\Below w.heap.size w w':=by
 have HR:=aa ho.row;have hxl:xs.length=len:=by simpa using ho.1
 obtain⟨vss,H,hV,hcell⟩:=ho.oo;have HV:=aa hV;have HC:=aa hcell;have hvl:vss.length=xs.length:=by rw[hV.len,wj]
 clear ho hV hcell;obtain⟨i0,hi,hz0,hz1,hz2⟩:=info_parts fz;have HI0:=aa (vA hi (vA hz0 (vA hz1 hz2)));clear hi hz0 hz1 hz2;have hmcalled:∀(v:Value) (w:World),(method 356 56 v "loop.example/g00571/impl.called").run Tryz.prog w=.ok (187,v) w:=fun _ _=>by kernel_rfl
 go_enter Tryz.func93,Tryz.ntmps93;go_wp2;go_loopw [5,10] (fun vo vi wr=> ∃(k:Nat) (ws:List (List Value)) (f:Nat->Nat),k<=len/\vi=.int .i64 k/\Hid (wr.ownsRow w.heap.size 56 7 vo (wo Nd.n t (xs.take k)).length ws.flatten)/\Hid (Sel xs (wo Nd.n t (xs.take k)) vss ws k f)/\Hid (Below w.heap.size w wr)) (fun _ vi _=>len - (intOf vi).toNat);case atStart=>exact⟨0,[],fun _=>0,by omega,rfl,wK _ _ _ _,Sel.nil _ _ _ _,vG _ _⟩
 case round=>
  obtain⟨k,ws,f,hk,rfl,HO,HF,HB⟩:=hrel;have hBs:=HB.size;by_cases hlt:k<len
  ·obtain⟨b,o,x,rfl,hb,hx,hat⟩:=bJ HR.out hlt;obtain⟨va,vl,vc,hvr,z0,z1,c0,c1,c2,c3,c4,c5,c6⟩:=aO hat;have hvk:vss[k]?=some [.string x.n,.string x.z,.int .i64 x.c,.int .i64 x.s,.int .i64 x.u,.bool x.d,.slice va vl vc]:=by
    have hkv:k<vss.length:=af
    have h1:=vF hkv;have hoz:o=0:=by
     have h2:0<(vss[k]).length:=by rw[HV.all k _ h1];decide
     obtain⟨g,e,_,_⟩:=HC.out _ _ (fa HV.all h1 (vF h2));cases e;rfl
    subst hoz;have hc2:∀(j:Nat) u,vss.flatten[j]?=some u->w.cell? ⟨b,j,none⟩=some u:=fun j u hj=>by
     obtain⟨g,e,_,h3⟩:=HC.out j u hj;cases e;exact h3
    rw[h1];refine congrArg some (nW (HV.all k _ h1) (dx HV.out hc2 h1 ak (by simpa using c0)) (dx HV.out hc2 h1 ak (by simpa using c1)) (dx HV.out hc2 h1 ak (by simpa using c2)) (dx HV.out hc2 h1 ak (by simpa using c3)) (dx HV.out hc2 h1 ak (by simpa using c4)) (dx HV.out hc2 h1 ak (by simpa using c5)) (dx HV.out hc2 h1 ak (by simpa using c6)))
   have HX:=aa hx;have HVK:=aa hvk;replace c0:=(aj HB.out hb).trans c0;replace c1:=(aj HB.out hb).trans c1;replace c2:=(aj HB.out hb).trans c2;replace c3:=(aj HB.out hb).trans c3;replace c4:=(aj HB.out hb).trans c4;replace c5:=(aj HB.out hb).trans c5;replace c6:=(aj HB.out hb).trans c6;have hbr:b<wr.heap.size:=vN hb hBs;clear hat hx hvk hvr z0 z1;have hn8:=rS Nd.n t (xs.take k);have hn9:(wo Nd.n t (xs.take k)).length<=k:=by rw[vX] at hn8;omega
   go_wp2_with fail;refine (cP x va vl vc _).mono ?_;rintro e w1 ⟨rfl,hb1⟩;obtain⟨hn1,hbx⟩:=aJ hb1;obtain⟨n0,n1,n2,n3,n4,n5,n6⟩:=cs7 hn1;have hs1:=ae hn1;have HO1:=aa (bf HO.out hbx);have HB1:=aa (HB.trans (hbx.mono hBs));clear hb1 hbx hn1 c0 c1 c2 c3 c4 c5 c6;cases hq:(x.n.toList==t.toList)
   ·have hq2:(x.n.toList !=t.toList)=true:=by simp[bne,hq]
    go_wp2_with (first|(at_builtin;refine wpList_append_own _ rfl _ _ 143 rfl w.heap.size 56 i0 (.agg #[.string ⟨#[]⟩,.string ⟨#[]⟩,.int .i64 0,.int .i64 0,.int .i64 0,.bool false,.slice none 0 0]) 7 88 Tryz.underlying143 HI0.1 HI0.2.1 HI0.2.2.1 HI0.2.2.2 rfl ak _ _ _ rfl (HO1.alloc _) ⟨w1.heap.size,0,none⟩ 1 1 [.string x.n,.string x.z,.int .i64 x.c,.int .i64 x.s,.int .i64 x.u,.bool x.d,.slice va vl vc] rfl rfl ?c1 ?c2 ?c3 ?c4 ?c5 ?_));case c1=>exact cV _ _ _
    case c2=>intro u hu;simp only[wH,wS,or_false] at hu;rcases hu with rfl|rfl|rfl|rfl|rfl|rfl|rfl <;> rfl
    case c3=>unfold maxLen;omega
    case c4=>omega
    case c5=>simp;omega
    rintro v' w3 hown3 hgrow -;have HO3:Hid (w3.ownsRow w.heap.size 56 7 v' (wo Nd.n t (xs.take (k+1))).length (ws++([[.string x.n,.string x.z,.int .i64 x.c,.int .i64 x.s,.int .i64 x.u,.bool x.d,.slice va vl vc]]:List (List Value))).flatten):=by
     show World.ownsRow _ _ _ _ _ _ _;rw[nV HX.out hq,wk,List.flatten_append];simpa using hown3
    have hF:=HF.push HX.out HVK.out;rw[<-nV HX.out hq] at hF;have HF3:=aa hF;have HB3:=aa ((HB1.trans ((ai _ _).mono HB1.size)).grown hgrow bU (fun g hg=>(HO1.lt g hg).1));clear hown3 hgrow hF;go_wp2;exact⟨⟨k+1,_,_,by omega,by go_num,HO3,HF3,HB3⟩,by simp[intOf];omega⟩
   ·have hq2:(x.n.toList !=t.toList)=false:=by simp[bne,hq]
    have HF3:=aa HF.up;rw[<-ug HX.out hq] at HF3 HO1;go_wp2;exact⟨⟨k+1,ws,f,by omega,by go_num,HO1,HF3,HB1⟩,by simp[intOf];omega⟩
  ·obtain rfl:len=k:=af
   have h5:=HF.out;have HO5:=HO;rw[vK af] at h5 HO5;have h6:=(h5.oo (HV.below HB.out)).aH (w':=wr) (S':=fun k=>Q k\/w.heap.size<=k) (fun _ _ _ _=>rfl) (fun _ _ s=>.inl s);obtain⟨a',c',e,hR⟩:=h6.own HO5.out aW ak (fun g hg=>.inr (HO5.lt g hg).1);subst e;have HR5:=aa hR;clear h5 h6 hR HF HO HO5;go_wp2;go_ret;exact⟨a',_,c',rfl,by simpa using HR5.out,HB.out⟩

theorem fm (w:World) (t t' ty e e':TypeId) (i:TypeInfo) (ht:Tryz.prog.underlying t=some (.slice e)) (ht':Tryz.prog.underlying t'=some (.slice e')) (hi:Tryz.prog.info? e=some i) (a:Option Addr) (l c:Nat) (b:Value):(wV #[t,t'] ty #[.slice a l c,b]).run Tryz.prog w=(wV #[t,t] ty #[.slice a l c,b]).run Tryz.prog w:=by
 simp[wV,run_underlying ht,run_underlying ht',sizeOf,typeInfo,hi]
theorem ch {w:World} {ops:Array Oper} {rest:List Oper} {o:Oper} {a:Act} {Q:Exit->Act->World->Prop} (hgd:o.guard=none) (s x:Operand) (t t':TypeId)
  (ho:o.op=.call { callee:=.builtin .append,args:=#[s,x],argTypes:=#[t,t'] })
  (base:Nat) (e e':TypeId) (i:TypeInfo) (z:Value) (size bytes:Nat) (ht:Tryz.prog.underlying t=some (.slice e)) (ht':Tryz.prog.underlying t'=some (.slice e')) (hi:Tryz.prog.info? e=some i) (hz:i.zero=some z)
  (hsize:i.size=size) (hby:i.bytes=bytes) (hzs:z.cells.size=size) (hsz:0<size)
  (v:Value) (n:Nat) (xs:List Value) (hs:a.eval s=v) (hown:w.ownsRow base e size v n xs)
  (ad:Addr) (m c:Nat) (news:List Value) (hx:a.eval x=.slice (some ad) m c) (hl:news.length=m*size) (hnews:∀j u,news[j]?=some u->w.cell? (ad.add j)=some u) (h1:∀u∈news,u.oneCell'=true)
  (h63:n+m<=maxLen) (hbytes:(n+m)*bytes<=140737488355328) (hbase:base<=w.heap.size)
  (h:∀v' w',w'.ownsRow base e size v' (n+m) (xs++news)->w.grownBy w' v.ownBlock->wpList Tryz.prog ops Q rest (a.put o.dst v') w'):wpList Tryz.prog ops Q (o ::rest) a w:=by
 refine wpList_plain hgd fun K hK=>?_;obtain⟨v',w',hr,h2,h3,h4⟩:=run_append_own (P:=Tryz.prog) w base t o.type e i z size bytes ht hi hz hsize hby hzs hsz v n xs hown ad m c news hl hnews h1 h63 hbytes hbase;obtain⟨va,vl,vc,rfl⟩:∃a l c,v=.slice a l c:=by
  rcases hown.2 with ⟨rfl,_⟩|⟨g,cap,cur,rfl,_⟩
  ·exact⟨_,_,_,rfl⟩
  ·exact⟨_,_,_,rfl⟩
 rw[<-fm w t t' o.type e e' i ht ht' hi] at hr;unfold Oper.wp execOp;simp only[ho,resolve,invoke,builtin,Sem.run_bind,Sem.run_pure,Result.andThen_ok,List.map_toArray,List.map_cons,List.map_nil,hs,hx,hr];exact hK _ _ (h v' w' h2 h3)
theorem cM (w:World) (dT sT ty elem:TypeId) (g o dLen dCap:Nat) (a:Addr) (sLen sCap m:Nat) (cur:Array Value) (t:TypeId) (cs:List Value) (i:TypeInfo)
  (hu:Tryz.prog.underlying dT=some (.slice elem)) (hi:Tryz.prog.info? elem=some i) (hs:i.size=m)
  (hg:w.heap[g]?=some (.cells cur t (0,0))) (hn:cs.length=Nat.min sLen dLen*m)
  (hsrc:∀j v,cs[j]?=some v->w.cell? (a.add j)=some v) (hfit:o+cs.length<=cur.size) (h1:∀v∈cs,v.oneCell'=true):
  (xA #[dT,sT] ty #[.slice (some ⟨g,o,none⟩) dLen dCap,.slice (some a) sLen sCap]).run Tryz.prog w=
   .ok (goInt (Nat.min sLen dLen)) (w.setRow g (cur.toList.take o++cs++cur.toList.drop (o+cs.length)).toArray):=by
 have hl:=run_loadCells_list (P:=Tryz.prog) w a cs hsrc;have hst:=run_storeCells_at Tryz.prog g o t cs 0 cur w hg (by simpa using hfit) h1;rw[hn] at hl;simp[xA,run_underlying hu,Builtin.lenOf,xu,sizeOf,typeInfo,hi,hs,hl,hst]
theorem qP {a b c m:Nat} {X ys cur c1:List Value} (hX:cur.take b=X) (hc:cur.length=c) (h1:a+m<=b) (h2:b+m<=c) (hy:ys.length=m) (h:c1=cur.take (a+m)++X.drop a++cur.drop (a+m+(X.drop a).length)):(c1.take a++(ys++c1.drop (a+m))).take (b+m)=X.take a++ys++X.drop a:=by
 have hXl:X.length=b:=by rw[<-hX,vX];omega
 have e1:c1.take a=X.take a:=by
  rw[h,wX,List.take_append_of_le_length jn,List.take_take,<-hX,List.take_take];congr 1;omega
 have e2:c1.drop (a+m)=X.drop a++cur.drop (a+m+(X.drop a).length):=by
  rw[h,wX];exact List.drop_left' jn
 rw[e1,e2,<-wX,<-wX];exact xx rV
theorem nO {a b m:Nat} {X ys R R2 S:List Value} (hX:R.take a=X.take a) (hXl:X.length=b) (h1:a<=b) (hy:ys.length=m) (h:R2=R.take a++ys++S) (T:List Value):(R2.take (a+m)++X.drop a++T).take (b+m)=X.take a++ys++X.drop a:=by
 have e1:R2.take (a+m)=X.take a++ys:=by
  rw[h,hX];exact xx (by simp only[wk,vX];omega)
 rw[e1];exact xx rV
theorem eY (w:World) (g:Nat) (cs:Array Value):w.grownBy (w.setRow g cs) (some g):=⟨rfl,rfl,rfl,by simp[World.setRow],fun k _ h=>setRow_other w g k cs (fun e=>h (by rw[e]))⟩
theorem ef {ops:Array Oper} {o:Oper} {a:Act} {w:World} {K:Act->World->Prop} {Q:Exit->Act->World->Prop} {E:Prop}
  (hg:o.guard=none) (d x:Operand) (dT sT:TypeId) (hop:o.op=Op.call { callee:=Callee.builtin Builtin.copy,args:=#[d,x],argTypes:=#[dT,sT] })
  (v u:Value) (hd:a.eval d=v) (hx:a.eval x=u) {v':Value} {w':World} (hr:(xA #[dT,sT] o.type #[v,u]).run Tryz.prog w=.ok v' w') (hK:K (a.put o.dst v') w'):
  if wU o (yielded ops a.tmps)=true then Oper.wp Tryz.prog o a w K Q else E:=by
 have hw:wU o (yielded ops a.tmps)=true:=by simp[wU,hg]
 rw[if_pos hw];unfold Oper.wp;simp[execOp,hop,resolve,invoke,builtin,hd,hx,hr,Result.andThen];exact hK

def bD {α:Type} (p:Nat) (x:α) (xs:List α):List α:=xs.take p++[x]++xs.drop p
theorem eW {α:Type} {p:Nat} {x:α} {xs:List α} (h:p<=xs.length):(bD p x xs).length=xs.length+1:=by
 simp only[bD,wk,vX,wI,xq,List.length_nil];omega
theorem ke {α β:Type} (f:α->β) (p:Nat) (x:α) (xs:List α):(bD p x xs).map f=bD p (f x) (xs.map f):=by simp[bD,List.map_take,List.map_drop]
theorem mV {α:Type} {p:Nat} {x:α} {xs:List α} (h:p<=xs.length) (j:Nat) (hj:j<xs.length+1):(bD p x xs)[j]?=(xs++[x])[if j<p then j else if j=p then xs.length else j - 1]?:=by
 unfold bD;by_cases h1:j<p
 ·rw[if_pos h1,wX,wh jn,wh af,wb,if_pos h1]
 ·rw[if_neg h1];by_cases h2:j=p
  ·subst h2;have hl:(xs.take j).length=j:=by rw[vX,Nat.min_eq_left h]
   have e1:(xs.take j++[x]++xs.drop j)[j]?=some x:=by
    rw[wX,wu af,hl,Nat.sub_self];rfl
   rw[e1,if_pos rfl];simp
  ·rw[if_neg h2,wu (by simp only[wk,vX,xq,List.length_nil];omega),wh af,wZ];congr 1;simp only[wk,vX,xq,List.length_nil];omega
theorem nL {α:Type} {m p:Nat} {vss:List (List α)} (h:∀(j:Nat) vs,vss[j]?=some vs->vs.length=m) (hp:p<=vss.length) (vs:List α):(bD p vs vss).flatten=vss.flatten.take (p*m)++vs++vss.flatten.drop (p*m):=by
 have hl:((vss.take p).flatten).length=p*m:=by
  rw[cZ (m:=m) (fun j v hv=>by
   rw[wb] at hv
   split at hv
   ·exact h j v hv
   ·cases hv),vX,Nat.min_eq_left hp]
 have e:vss.flatten=(vss.take p).flatten++(vss.drop p).flatten:=mq
 have e1:vss.flatten.take (p*m)=(vss.take p).flatten:=by rw[e];exact xx hl
 have e2:vss.flatten.drop (p*m)=(vss.drop p).flatten:=by rw[e];exact List.drop_left' hl
 rw[e1,e2];simp[bD]
theorem aN.ins {w:World} {S:Nat->Prop} {m:Nat} {rs:List (List Fv)} {vss:List (List Value)} {H:Nat->Nat->Nat} (h:aN w S m rs vss H) {r:List Fv} {vs:List Value} {hh:Nat->Nat} (hr:r.length=m) (hvs:vs.length=m) (hc:∀(i:Nat) f,r[i]?=some f->∃v,vs[i]?=some v/\f.Fr w (hh i) S v)
  (hn:∀(i:Nat) zs,r[i]?=some (.l zs)->zs≠[]->∀(j:Nat) r' (i':Nat) zs',rs[j]?=some r'->r'[i']?=some (.l zs')->zs'≠[]->¬H j i'=hh i)
  (h1:∀(i i':Nat) zs zs',r[i]?=some (.l zs)->zs≠[]->r[i']?=some (.l zs')->zs'≠[]->i=i') {p:Nat} (hp:p<=rs.length):∃H',aN w S m (bD p r rs) (bD p vs vss) H':=by
 have hl:=h.len;have e1:(bD p r rs).length=rs.length+1:=eW hp;have e2:(bD p vs vss).length=vss.length+1:=eW af;refine⟨_,(h.push hr hvs hc hn h1).vp (fun j=>if j<p then j else if j=p then rs.length else j - 1) af (fun j hj=>mV hp j af) (fun j hj=>?_) (fun j j' hj hj' e=>?_)⟩
 ·have:=mV (x:=vs) (xs:=vss) (p:=p) af j af;rw[hl] at this;exact this
 ·split at e <;> split at e
  ·exact e
  all_goals (try split at e) <;> (try split at e) <;> omega

theorem hU (a:Option Addr) (n cap i base vb:Nat) (X ys:List Value) (w:World) (ho:w.ownsRow base 56 7 (.slice a n cap) n X) (hn:n<=8) (hin:i<=n) (hbs:base<=w.heap.size) (hy:w.heap[vb]?=some (.cells ys.toArray 56 (0,0))) (hyl:ys.length=7) (hy1:∀u∈ys,u.oneCell'=true) (hX1:∀u∈X,u.oneCell'=true) (hne:∀g,a=some ⟨g,0,none⟩->¬vb=g):
  Calls Tryz.prog 119 #[.slice a n cap,.int .i64 i,.slice (some ⟨vb,0,none⟩) 1 1] w fun e w'=> ∃v',e=.returned v'/\w'.ownsRow base 56 7 v' (n+1) (X.take (i*7)++ys++X.drop (i*7))/\w.grownBy w' ((.slice a n cap:Value).ownBlock):=by
 obtain⟨i0,hi,hz0,hz1,hz2⟩:=info_parts fz;have HI0:=aa (vA hi (vA hz0 (vA hz1 hz2)));clear hi hz0 hz1 hz2;have hXl:X.length=n*7:=ho.1;have hnc:n<=cap/\cap<=9223372036854775807:=by
  rcases ho.2 with ⟨h1,h2⟩|⟨g,cp,cur,h1,_,_,h4,h5,_⟩
  ·cases h1;omega
  ·cases h1;unfold maxLen at h5;omega
 have hyn:∀(j:Nat) u,ys[j]?=some u->w.cell? ((⟨vb,0,none⟩:Addr).add j)=some u:=fun j u hu=>by
  rw[wv,aB hy,we];simpa using hu
 have HYN:=aa hyn;have HO:=aa ho;have HY:=aa hy;have hvl:vb<w.heap.size:=ae hy;have HX1:=aa hX1;have HY1:=aa hy1;clear hyn ho hy hX1 hy1;by_cases hie:i=n
 ·subst hie;have e1:X.take (i*7)++ys++X.drop (i*7)=X++ys:=by rw[vK af,List.drop_of_length_le af,List.append_nil]
  rw[e1];clear e1;have hc0:i<=cap:=hnc.1;have hq:cap=i\/¬cap=i:=Classical.em _;rcases hq with rfl|hcap
  ·exact tm
  ·exact tm
 have hil:i<n:=af
 obtain⟨g,cur,rfl,hbg,hg,hcs,htk⟩:∃g cur,a=some ⟨g,0,none⟩/\base<=g/\w.heap[g]?=some (.cells cur 56 (0,0))/\cur.size=cap*7/\cur.toList.take (n*7)=X:=by
  rcases HO.2 with ⟨h1,h2⟩|⟨g,cp,cur,h1,h2,h3,h4,h5,h6,h7⟩
  ·cases h1;omega
  ·cases h1;exact⟨g,cur,rfl,h2,h3,h6,h7⟩
 have hvg:¬vb=g:=hne g rfl;clear hne;have hcell:∀(j:Nat) u,X[j]?=some u->w.cell? ⟨g,j,none⟩=some u:=fun j u hj=>by
  rw[aB hg];rw[<-htk,wb] at hj;split at hj
  ·simpa using hj
  ·cases hj
 have hdl:(X.drop (i*7)).length=(n - i)*7:=by rw[wI,hXl,Nat.sub_mul]
 have hgl:g<w.heap.size:=ae hg;by_cases hroom:n+1<=cap
 ·have hcp1:∀ty dc sc,(xA #[143,143] ty #[.slice (some ⟨g,(i+1)*7,none⟩) (n - i) dc,.slice (some ⟨g,i*7,none⟩) (n+1 - i) sc]).run Tryz.prog w.drew=.ok (goInt (Nat.min (n+1 - i) (n - i))) (w.drew.setRow g (cur.toList.take ((i+1)*7)++X.drop (i*7)++cur.toList.drop ((i+1)*7+(X.drop (i*7)).length)).toArray):=fun ty dc sc=>
   cM w.drew 143 143 ty 56 g ((i+1)*7) (n - i) dc ⟨g,i*7,none⟩ (n+1 - i) sc 7 cur 56 (X.drop (i*7)) i0 Tryz.underlying143 HI0.1 HI0.2.2.1 hg (by rw[hdl];simp only[Nat.min_def];split <;> omega) (fun j u hj=>by
    rw[wZ] at hj;rw[wv]
    exact hcell _ u hj) (by rw[hdl,hcs];omega) (fun u hu=>HX1.out u (List.mem_of_mem_drop hu))
  obtain⟨cur1,hcur1⟩:∃c1:List Value,c1=cur.toList.take ((i+1)*7)++X.drop (i*7)++cur.toList.drop ((i+1)*7+(X.drop (i*7)).length):=⟨_,rfl⟩;rw[<-hcur1] at hcp1;have hc1l:cur1.length=cap*7:=by rw[hcur1];simp only[wk,vX,wI,hXl,xp,hcs];omega
  obtain⟨W1,hW1⟩:∃W1,W1=w.drew.setRow g cur1.toArray:=⟨_,rfl⟩;rw[<-hW1] at hcp1;have hg1:W1.heap[g]?=some (.cells cur1.toArray 56 (0,0)):=by rw[hW1];exact setRow_heap w.drew g _ _ 56 _ hg
  have hv1:W1.heap[vb]?=w.heap[vb]?:=by rw[hW1];exact setRow_other w.drew g vb _ hvg
  have hcp2:∀ty dc,(xA #[143,30] ty #[.slice (some ⟨g,i*7,none⟩) (n+1 - i) dc,.slice (some ⟨vb,0,none⟩) 1 1]).run Tryz.prog W1=.ok (goInt (Nat.min 1 (n+1 - i))) (W1.setRow g (cur1.take (i*7)++ys++cur1.drop (i*7+ys.length)).toArray):=fun ty dc=>by
   have:=cM W1 143 30 ty 56 g (i*7) (n+1 - i) dc ⟨vb,0,none⟩ 1 1 7 cur1.toArray 56 ys i0 Tryz.underlying143 HI0.1 HI0.2.2.1 hg1 (by rw[hyl];simp only[Nat.min_def];split <;> omega) (fun j u hj=>by
    rw[wv,aB (hv1.trans HY.out),we]
    simpa using hj) (by simp only[xC];rw[hc1l,hyl];omega) HY1.out
   simpa using this
  have hov:∀lb cb,(callFunc 140 #[.slice (some ⟨vb,0,none⟩) 1 1,.slice (some ⟨g,(i+1)*7,none⟩) lb cb]).run Tryz.prog w=.ok (.value (.bool false)) w:=fun lb cb=>by
   rw[run_callFunc_extern Tryz.func140 an an an (e:=Extern.SlicesOverlaps.overlaps #[30,30] #[4]) an,
    Lib.run_overlaps_apart w 30 4 56 Tryz.underlying30 7 (fun w=>by kernel_rfl) ⟨vb,0,none⟩ ⟨g,(i+1)*7,none⟩ 1 1 lb cb hvg 56 56 ys.toArray.size cur.size (by simp[World.shape?,HY.out]) (by simp[World.shape?,hg]) (Nat.ne_of_gt (by rw[hcs];omega)) (ar HY.out _) (ar HY.out _)]
   rfl
  have hb2:¬cap=i+1:=af
  have hb4:¬cap=i:=af
  have hb5:¬((i:Int)=(n:Int)):=af
  have hb6:¬((cap:Int)<(n:Int)+1):=af
  have mixed:Tryz.prog.follows .mixedOrders=true:=an
  have hw1:IntKind.i64.wrap ((i:Int)+1)=(i:Int)+1:=by rw[IntKind.wrap_i64];omega
  have hb1:(0:Int)<=(i:Int)+1:=af
  have hin:i<=n:=af
  have htn:((i:Int)+1).toNat=i+1:=af
  have hb3:(i:Int)<=(n:Int)+1:=af
  have u0:=run_underlying Tryz.underlying143;have HG:=aa hg;have HG1:=aa hg1;have HW1:=aa hW1;have HC1:=aa hcur1;have HTK:=aa htk;clear hg hg1 hW1 hcur1 htk hv1 hcell hdl hie;go_enter Tryz.func119,Tryz.ntmps119;go_wp2_with (simp only[hov]);go_region_law_o (refine ef rfl _ _ 143 143 rfl _ _ mj mj (hcp1 (3) (cap - (i+1)) (cap - i)) ?_);go_wp2_with (at_builtin;refine wpList_copy_run _ rfl _ _ 143 30 rfl _ _ rfl rfl (hcp2 _ _) ?_);go_ret;refine⟨_,rfl,⟨?_,Or.inr ⟨g,cap,(cur1.take (i*7)++(ys++cur1.drop (i*7+7))).toArray,rfl,hbg,setRow_heap W1 g _ _ _ _ HG1.out,hroom,by unfold maxLen;omega,?_,?_⟩⟩,?_⟩
  ·simp only[wk,vX,wI];omega
  ·simp only[xC,wk,vX,wI,hc1l];omega
  ·have e:=qP (a:=i*7) (b:=n*7) (c:=cap*7) (m:=7) (c1:=cur1) HTK.out (by rw[xp,hcs]) af af hyl (by rw[HC1.out,show (i+1)*7=i*7+7 by omega]);rw[show (n+1)*7=n*7+7 by omega];simpa using e
  ·have h1:w.grownBy w.drew (some g):=⟨rfl,rfl,rfl,vD _,fun _ _ _=>rfl⟩;have h2:w.drew.grownBy W1 (some g):=by rw[HW1.out];exact eY w.drew g _
   exact (h1.trans h2).trans (eY W1 g _)
 have hcn:cap=n:=af
 subst hcn;obtain⟨N,hN⟩:∃N,N=w.heap.size:=⟨_,rfl⟩;obtain⟨G,hG⟩:∃G,G=grownCap w (cap+1) cap 56:=⟨_,rfl⟩;obtain⟨ROW,hROW⟩:∃R:Array Value,R=(X.take (i*7)).toArray++Builtin.zeroCells (.agg #[.string ⟨#[]⟩,.string ⟨#[]⟩,.int .i64 0,.int .i64 0,.int .i64 0,.bool false,.slice none 0 0]:Value).cells (cap+1 - i)++Builtin.zeroCells (.agg #[.string ⟨#[]⟩,.string ⟨#[]⟩,.int .i64 0,.int .i64 0,.int .i64 0,.bool false,.slice none 0 0]:Value).cells (G - (cap+1)):=⟨_,rfl⟩;obtain⟨W1,hW1⟩:∃W1,W1=w.drew.alloc (.cells ROW 56):=⟨_,rfl⟩;have hGn:cap+1<=G:=by rw[hG];exact grownCap_ge w _ _ _
 have hG63:G<=9223372036854775807:=by
  have:=grownCap_le_maxLen w (cap+1) cap 56 di;rw[<-hG] at this;unfold maxLen at this;omega
 have hRs:ROW.size=G*7:=by
  rw[hROW];simp only[Array.size_append,xC,vX,size_zeroCells,hXl];rw[show (.agg #[.string ⟨#[]⟩,.string ⟨#[]⟩,.int .i64 0,.int .i64 0,.int .i64 0,.bool false,.slice none 0 0]:Value).cells.size=7 from rfl];omega
 have hRt:ROW.toList.take (i*7)=X.take (i*7):=by
  rw[hROW,Array.toList_append,Array.toList_append,wX];exact xx jn
 have hrz:∀ty,(wV #[143,3] ty #[.slice (some ⟨g,0,none⟩) i cap,.int .i64 ((cap:Int)+1 - (i:Int))]).run Tryz.prog w=.ok (.slice (some ⟨N,0,none⟩) (cap+1) G) W1:=fun ty=>by
  have hold:(xu i0.size i (.slice (some ⟨g,0,none⟩) i cap)).run Tryz.prog w.drew=.ok (X.take (i*7)).toArray w.drew:=by
   rw[HI0.2.2.1];exact run_firstCells_some w.drew 7 i ⟨g,0,none⟩ i cap (X.take (i*7)) jn (fun j v hj=>by
    rw[wv,we];rw[wb] at hj
    split at hj
    ·exact hcell j v hj
    ·cases hj)
  have h:=Lib.run_append_grow_zeros w 143 3 ty 56 i0 _ .i64 .i64 Tryz.underlying143 Tryz.underlying3 HI0.1 HI0.2.1 (some ⟨g,0,none⟩) i cap (X.take (i*7)) hold (cap+1 - i) af (by rw[HI0.2.2.1];decide) af af (by rw[HI0.2.2.2];omega) (by rw[HI0.2.2.2];exact growslice_fits af af);rw[show i+(cap+1 - i)=cap+1 by omega,<-hG,<-hROW,<-hW1,<-hN] at h;rw[show (cap:Int)+1 - (i:Int)=((cap+1 - i:Nat):Int) by omega];exact h
 have hgN:W1.heap[N]?=some (.cells ROW 56 (0,0)):=by rw[hW1,hN];exact Go.heap_alloc_new w.drew _
 have hg1:W1.heap[g]?=w.heap[g]?:=by rw[hW1];exact Go.heap_alloc_old w.drew _ hgl
 have hv1:W1.heap[vb]?=w.heap[vb]?:=by rw[hW1];exact Go.heap_alloc_old w.drew _ hvl
 obtain⟨R2,hR2⟩:∃R2:List Value,R2=ROW.toList.take (i*7)++ys++ROW.toList.drop (i*7+ys.length):=⟨_,rfl⟩;obtain⟨W2,hW2⟩:∃W2,W2=W1.setRow N R2.toArray:=⟨_,rfl⟩;have hcpA:∀ty dc,(xA #[143,30] ty #[.slice (some ⟨N,i*7,none⟩) (cap+1 - i) dc,.slice (some ⟨vb,0,none⟩) 1 1]).run Tryz.prog W1=.ok (goInt (Nat.min 1 (cap+1 - i))) W2:=fun ty dc=>by
  rw[hW2,hR2];exact cM W1 143 30 ty 56 N (i*7) (cap+1 - i) dc ⟨vb,0,none⟩ 1 1 7 ROW 56 ys i0 Tryz.underlying143 HI0.1 HI0.2.2.1 hgN (by rw[hyl];simp only[Nat.min_def];split <;> omega) (fun j u hj=>by
   rw[wv,aB (hv1.trans HY.out),we]
   simpa using hj) (by rw[hRs,hyl];omega) HY1.out
 have hR2l:R2.length=G*7:=by
  rw[hR2];simp only[wk,vX,wI,xp,hRs,hyl];omega
 have hgN2:W2.heap[N]?=some (.cells R2.toArray 56 (0,0)):=by rw[hW2];exact setRow_heap W1 N _ _ 56 _ hgN
 have hgn:¬g=N:=af
 have hg2:W2.heap[g]?=w.heap[g]?:=by rw[hW2,setRow_other W1 N g _ hgn];exact hg1
 obtain⟨R3,hR3⟩:∃R3:List Value,R3=R2.take ((i+1)*7)++X.drop (i*7)++R2.drop ((i+1)*7+(X.drop (i*7)).length):=⟨_,rfl⟩;obtain⟨W3,hW3⟩:∃W3,W3=W2.drew.setRow N R3.toArray:=⟨_,rfl⟩;have hcpB:∀ty dc sc,(xA #[143,143] ty #[.slice (some ⟨N,(i+1)*7,none⟩) (cap - i) dc,.slice (some ⟨g,i*7,none⟩) (cap - i) sc]).run Tryz.prog W2.drew=.ok (goInt (Nat.min (cap - i) (cap - i))) W3:=fun ty dc sc=>by
  have:=cM W2.drew 143 143 ty 56 N ((i+1)*7) (cap - i) dc ⟨g,i*7,none⟩ (cap - i) sc 7 R2.toArray 56 (X.drop (i*7)) i0 Tryz.underlying143 HI0.1 HI0.2.2.1 hgN2 (by rw[hdl];simp only[Nat.min_def];split <;> omega) (fun j u hj=>by
   rw[wZ] at hj;have hc:=hcell _ u hj;rw[wv];rw[<-hc]
   exact wL (w:=w) (w':=W2.drew) hg2) (by rw[hdl,xC,hR2l];omega) (fun u hu=>HX1.out u (List.mem_of_mem_drop hu))
  rw[hW3,hR3];simpa only[List.toList_toArray] using this
 have hW3o:∀k,¬k=N->W3.heap[k]?=W1.heap[k]?:=fun k hk=>by rw[hW3,setRow_other W2.drew N k _ hk];exact (congrArg (fun z:World=>z.heap[k]?) hW2).trans (setRow_other W1 N k _ hk)
 have hfin:w.grownBy W3 (some g):=by
  have h0:w.grownBy w.drew (some g):=⟨rfl,rfl,rfl,vD _,fun _ _ _=>rfl⟩;have h1:w.grownBy W1 (some g):=by rw[hW1];exact h0.trans (World.grownBy_alloc w.drew _ _)
  refine⟨?_,?_,?_,?_,fun k hk hkg=>(hW3o k af).trans (h1.block k hk hkg)⟩
  ·rw[hW3,hW2];exact h1.os
  ·rw[hW3,hW2];exact h1.tape
  ·rw[hW3,hW2];exact h1.output
  ·rw[hW3,hW2];exact vI h1.size (by simp[World.setRow])
 have hrow:W3.ownsRow base 56 7 (.slice (some ⟨N,0,none⟩) (cap+1) G) (cap+1) (X.take (i*7)++ys++X.drop (i*7)):=by
  refine⟨?_,Or.inr ⟨N,G,R3.toArray,rfl,by omega,by rw[hW3];exact setRow_heap W2.drew N _ _ 56 _ hgN2,hGn,by unfold maxLen;omega,?_,?_⟩⟩
  ·simp only[wk,vX,wI];omega
  ·rw[hR3];simp only[xC,wk,vX,wI,hR2l];omega
  ·have e:=nO (a:=i*7) (b:=cap*7) (m:=7) (R2:=R2) hRt hXl af hyl hR2 (R2.drop ((i+1)*7+(X.drop (i*7)).length));rw[hR3,show (cap+1)*7=cap*7+7 by omega,show (i+1)*7=i*7+7 by omega];rw[show (i+1)*7=i*7+7 by omega] at e;simpa using e
 have hGi:¬G=i:=af
 have hGim:¬G=i+1:=af
 have hci:¬cap=i:=af
 have hz2:¬((i:Int)=(cap:Int)):=af
 have hz3:(cap:Int)<(cap:Int)+1:=af
 have mixed:Tryz.prog.follows .mixedOrders=true:=an
 have hw1:IntKind.i64.wrap ((i:Int)+1)=(i:Int)+1:=by rw[IntKind.wrap_i64];omega
 have hb1:(0:Int)<=(i:Int)+1:=af
 have hin:i<=cap:=af
 have htn:((i:Int)+1).toNat=i+1:=af
 have hb3:(i:Int)<=(cap:Int):=af
 have u0:=run_underlying Tryz.underlying143;have HF:=aa (vA hrow hfin);clear hN hrow hfin hW3o hW3 hW2 hR3 hg2 hgN2 hR2l hR2 hv1 hg1 hgN hRt hRs hW1 hROW hG hcell hdl hie hg htk hcs HO;go_enter Tryz.func119,Tryz.ntmps119;go_wp2_with (first
  | (at_builtin;refine Lib.wpList_append_run _ rfl _ _ _ _ rfl _ _ rfl rfl _ _ (hrz _) ?_)
  | (at_builtin;refine wpList_copy_run _ rfl _ _ 143 30 rfl _ _ rfl rfl (hcpA _ _) ?_))
 go_region_law_o (refine ef rfl _ _ 143 143 rfl _ _ mj mj (hcpB 3 (G - (i+1)) (cap - i)) ?_);go_wp2;go_ret;exact⟨_,rfl,HF.1,HF.2⟩

theorem fN (a:Option Addr) (n cap:Nat) (X:List Value) (w:World) (hn:n<=8) (hXl:X.length=n*7) (hX1:∀u∈X,u.oneCell'=true) (hXc:∀(j:Nat) u,X[j]?=some u->∃g,a=some ⟨g,0,none⟩/\w.cell? ⟨g,j,none⟩=some u):
  Calls Tryz.prog 120 #[.slice a n cap] w fun e w'=> ∃a' c',e=.returned (.slice a' n c')/\w'.ownsRow w.heap.size 56 7 (.slice a' n c') n X/\Below w.heap.size w w':=by
 obtain⟨i0,hi,hz0,hz1,hz2⟩:=info_parts fz;have HI0:=aa (vA hi (vA hz0 (vA hz1 hz2)));clear hi hz0 hz1 hz2;have HX1:=aa hX1;have HXC:=aa hXc;have heq:∀w:World,(binOp .eql 143 (.slice a n cap) (.slice none 0 0)).run Tryz.prog w=.ok (.bool a.isNone) w:=fun w=>Lib.run_eql_slice_nil w 143 56 a n cap 0 0 Tryz.underlying143;clear hX1 hXc;cases a with
 | none=>
  obtain rfl:X=[]:=by
   rcases X with _|⟨u,X⟩
   ·rfl
   ·obtain⟨g,e,_⟩:=HXC.out 0 u rfl
    cases e
  obtain rfl:n=0:=by simp at hXl;omega
  go_enter Tryz.func120,Tryz.ntmps120
  go_wp2
  go_ret;exact⟨none,0,rfl,wK _ _ _ _,vG _ _⟩
 | some ad=>
  obtain⟨ab,ao,asp⟩:=ad
  have hnew:∀(j:Nat) u,X[j]?=some u->(w.alloc (.cells #[] 56)).cell? ((⟨ab,ao,asp⟩:Addr).add j)=some u:=fun j u hu=>by
   obtain⟨g,e,hc⟩:=HXC.out j u hu
   cases e
   rw[wv,we];have hlt:=bn hc;rw[<-hc];exact wL (heap_alloc_old w _ hlt)
  have HN:=aa hnew;have HO:Hid ((w.alloc (.cells #[] 56)).ownsRow w.heap.size 56 7 (.slice (some ⟨w.heap.size,0,none⟩) 0 0) 0 []):=World.ownsRow_made w #[] 0 (vD _) (Nat.zero_le _) aW;clear hnew HXC
  go_enter Tryz.func120,Tryz.ntmps120
  go_wp2_with (at_builtin;refine ch rfl _ _ 143 143 rfl w.heap.size 56 56 i0 (.agg #[.string ⟨#[]⟩,.string ⟨#[]⟩,.int .i64 0,.int .i64 0,.int .i64 0,.bool false,.slice none 0 0]) 7 88 Tryz.underlying143 Tryz.underlying143 HI0.1 HI0.2.1 HI0.2.2.1 HI0.2.2.2 rfl ak _ _ _ rfl HO.out ⟨ab,ao,asp⟩ n cap X rfl hXl HN.out HX1.out di af aW ?_)
  intro v' w' h1 h2
  obtain⟨a',c',rfl⟩:∃a' c',v'=.slice a' n c':=by
   rcases h1.2 with ⟨rfl,h0⟩|⟨g,cp,cu,rfl,_⟩
   ·exact⟨none,0,by rw[h0]⟩
   ·exact⟨_,_,rfl⟩
  have H1:=aa h1;have H2:=aa h2;clear h1 h2
  go_wp2
  go_ret;refine⟨a',c',rfl,H1.out,((ai w (.cells #[] 56)).grown H2.out aW (fun g hg=>?_))⟩
  simp[xE] at hg
  omega

theorem kp (a:Option Addr) (n cap:Nat) (xs:List Nd) (x:Nd) (va:Option Addr) (vl vc hh:Nat) (Q Q2:Nat->Prop) (w:World) (ho:au w a n cap 7 56 (xs.map ndF) Q) (hn:n<=8) (hxf:∀(i:Nat) f,(ndF x)[i]?=some f->∃v,[.string x.n,.string x.z,.int .i64 x.c,.int .i64 x.s,.int .i64 x.u,.bool x.d,.slice va vl vc][i]?=some v/\f.Fr w hh Q2 v) (hq:∀k,Q k->Q2 k->False):
  Calls Tryz.prog 94 #[.slice a n cap,.agg #[.string x.n,.string x.z,.int .i64 x.c,.int .i64 x.s,.int .i64 x.u,.bool x.d,.slice va vl vc]] w fun e w'=> ∃a' l' c',e=.returned (.slice a' l' c')/\au w' a' l' c' 7 56 ((bD (pl Nd.n xs x.n) x xs).map ndF) (fun k=>(Q k\/Q2 k)\/w.heap.size<=k)/\Below w.heap.size w w':=by
 have HR:=aa ho.row;have hxl:xs.length=n:=by simpa using ho.1
 obtain⟨vss,H,hV,hcell⟩:=ho.oo;have hvl:vss.length=n:=by rw[hV.len,wj,hxl]
 have hfl:vss.flatten.length=n*7:=by rw[cZ hV.all,hvl]
 have HV:=aa hV;have HC:=aa hcell;have HF:=aa hxf;have HQ:=aa hq;clear ho hV hcell hxf hq;have hmcalled:∀(v:Value) (w:World),(method 356 56 v "loop.example/g00571/impl.called").run Tryz.prog w=.ok (187,v) w:=fun _ _=>by kernel_rfl
 obtain⟨j,hj⟩:∃j,j=pl Nd.n xs x.n:=⟨_,rfl⟩;have hjn:j<=n:=by rw[hj,<-hxl];exact List.findIdx_le_length
 have HJ:=aa hj;have HFIN:Hid (∀(w4:World) v4 base,w.heap.size<=base->Below w.heap.size w w4->w4.ownsRow base 56 7 v4 (n+1) (vss.flatten.take (j*7)++[.string x.n,.string x.z,.int .i64 x.c,.int .i64 x.s,.int .i64 x.u,.bool x.d,.slice va vl vc]++vss.flatten.drop (j*7))->∃a' c',v4=.slice a' (n+1) c'/\au w4 a' (n+1) c' 7 56 ((bD (pl Nd.n xs x.n) x xs).map ndF) (fun k=>(Q k\/Q2 k)\/w.heap.size<=k)):=fun w4 v4 base hbs hB4 ho4=>by
  rw[<-nL HV.all af] at ho4;have hV4:=(HV.below hB4).aH (w':=w4) (S':=fun k=>(Q k\/Q2 k)\/w.heap.size<=k) (fun _ _ _ _=>rfl) (fun _ _ s=>.inl (.inl s));obtain⟨H4,hV5⟩:=hV4.ins (p:=j) (r:=ndF x) (vs:=[.string x.n,.string x.z,.int .i64 x.c,.int .i64 x.s,.int .i64 x.u,.bool x.d,.slice va vl vc]) (hh:=fun _=>hh) rfl rfl (fun i f hf=>by
   obtain⟨v,h1,h2⟩:=HF.out i f hf
   exact⟨v,h1,h2.aH (fun cu _ q=>hB4.block _ (ae q)) (fun _ s=>.inl (.inr s))⟩) (fun i zs h hz k r i2 zs2 hr2 hz2 hne e=>by
  obtain⟨v,_,h2⟩:=HF.out i _ h;obtain⟨_,_,_,_,_,_,_,_,h3⟩:=h2;have hkv:k<vss.length:=by rw[HV.len];exact (vz.1 hr2).1
  obtain⟨v',_,h5⟩:=HV.cell k r _ hr2 (vF hkv) i2 _ hz2;obtain⟨_,_,_,_,_,_,_,_,h6⟩:=h5;rcases h3 with h3|⟨_,h3,_⟩
  ·exact hz h3
  ·rcases h6 with h6|⟨_,h6,_⟩
   ·exact hne h6
   ·rw[e] at h6;exact HQ.out _ h6 h3) (fun i i2 zs zs2 h _ h2 _=>by
  rcases i with _|_|_|_|_|_|_|i <;> simp[ndF] at h <;> rcases i2 with _|_|_|_|_|_|_|i2 <;> simp[ndF] at h2 <;> rfl) (by rw[wj];omega)
  have h45:aN w4 (fun k=>(Q k\/Q2 k)\/w.heap.size<=k) 7 ((bD j x xs).map ndF) (bD j [.string x.n,.string x.z,.int .i64 x.c,.int .i64 x.s,.int .i64 x.u,.bool x.d,.slice va vl vc] vss) H4:=by rw[ke];exact hV5
  have hle:((bD j x xs).map ndF).length=n+1:=by rw[wj,eW af,hxl]
  obtain⟨a',c',e,hR⟩:=h45.own ho4 hle.symm ak (fun g hg=>.inr (by have:=(ho4.lt g hg).1;omega));rw[hle] at e hR;rw[hj] at hR;exact⟨a',c',e,hR⟩
 have HCL:Hid (∀W,Below w.heap.size w W->∀(k:Nat) u,vss.flatten[k]?=some u->∃g,a=some ⟨g,0,none⟩/\W.cell? ⟨g,k,none⟩=some u):=fun W hW k u hu=>by
  obtain⟨g,h1,_,h3⟩:=HC.out k u hu;exact⟨g,h1,(aj hW (bn h3)).trans h3⟩
 have HV1:=aa HV.one;clear HV HC HF HQ hj;go_enter Tryz.func94,Tryz.ntmps94;go_wp2_with fail;refine (cP x va vl vc _).mono ?_;rintro e w1 ⟨rfl,hb1⟩;obtain⟨hn1,hbx⟩:=aJ hb1;have HN1:=aa hn1;have HB1:=aa hbx;clear hb1 hn1 hbx;go_wp2_with fail;refine (fJ a n cap xs x.n _ (HR.below HB1.out)).mono ?_;rintro e w2 ⟨rfl,hb2⟩;have HN2:=aa ((hb2.block w.heap.size (ae HN1.out)).trans HN1.out);have HB2:=upB HB1 hb2;clear hb2 HN1 HB1;rw[<-HJ.out];generalize hit Nd.n xs x.n=bb;have hs2:w.heap.size<w2.heap.size:=ae HN2.out;have HBD:Hid (Below w.heap.size w w2.drew):=Below.fM HB2.out;obtain⟨n0,n1,n2,n3,n4,n5,n6⟩:=cs7 (show w2.drew.heap[w.heap.size]?=_ from HN2.out);have hcl1:Calls Tryz.prog 120 #[.slice a n cap] w2.drew fun e w3=> ∃a3 c3,e=.returned (.slice a3 n c3)/\Hid (w3.ownsRow w2.heap.size 56 7 (.slice a3 n c3) n vss.flatten)/\Hid (Below w.heap.size w w3)/\w2.heap.size<=w3.heap.size/\w.heap.size<w3.heap.size/\w3.heap[w.heap.size]?=some (.cells (nov x va vl vc) 56 (0,0)):=by
  refine (fN a n cap vss.flatten w2.drew hn hfl HV1.out (HCL.out _ HBD.out)).mono ?_;rintro e w3 ⟨a3,c3,rfl,ho3,hb3⟩;have hs3:w2.heap.size<=w3.heap.size:=hb3.size;exact⟨a3,c3,rfl,ho3,HBD.trans (hb3.mono HBD.size),hs3,by omega,(hb3.block w.heap.size hs2).trans (show w2.drew.heap[w.heap.size]?=_ from HN2.out)⟩
 have hcl2:Calls Tryz.prog 120 #[.slice a n cap] (w2.alloc (.cells (nov x va vl vc) 56)).drew fun e w3=> ∃a3 c3,e=.returned (.slice a3 n c3)/\Hid (w3.ownsRow (w2.heap.size+1) 56 7 (.slice a3 n c3) n vss.flatten)/\Hid (Below w.heap.size w w3)/\w2.heap.size+1<=w3.heap.size/\Hid (w3.heap[w2.heap.size]?=some (.cells (nov x va vl vc) 56 (0,0))):=by
  have hbl:=Below.fM (HB2.alloc HB2.size (.cells (nov x va vl vc) 56));have hsz:(w2.alloc (.cells (nov x va vl vc) 56)).drew.heap.size=w2.heap.size+1:=aW
  refine (fN a n cap vss.flatten _ hn hfl HV1.out (HCL.out _ hbl)).mono ?_;rintro e w3 ⟨a3,c3,rfl,ho3,hb3⟩;have hs3:=hb3.size;rw[hsz] at ho3 hs3;exact⟨a3,c3,rfl,ho3,hbl.trans (hb3.mono hbl.size),hs3,(hb3.block w2.heap.size (by rw[hsz];omega)).trans (show (w2.alloc (.cells (nov x va vl vc) 56)).drew.heap[w2.heap.size]?=_ from heap_alloc_new w2 _)⟩
 have hin1:∀(w3:World) a3 c3,w3.ownsRow w2.heap.size 56 7 (.slice a3 n c3) n vss.flatten->Below w.heap.size w w3->w2.heap.size<=w3.heap.size->Calls Tryz.prog 119 #[.slice a3 n c3,.int .i64 j,.slice (some ⟨w3.heap.size,0,none⟩) 1 1] (w3.alloc (.cells (nov x va vl vc) 56)) fun e w4=> ∃a' c',e=.returned (.slice a' (n+1) c')/\Hid (au w4 a' (n+1) c' 7 56 ((bD (pl Nd.n xs x.n) x xs).map ndF) (fun k=>(Q k\/Q2 k)\/w.heap.size<=k))/\Hid (Below w.heap.size w w4):=fun w3 a3 c3 ho3 hB3 hs3=>by
  refine (hU a3 n c3 j w2.heap.size w3.heap.size vss.flatten [.string x.n,.string x.z,.int .i64 x.c,.int .i64 x.s,.int .i64 x.u,.bool x.d,.slice va vl vc] (w3.alloc (.cells (nov x va vl vc) 56)) (ho3.alloc _) hn hjn bU (heap_alloc_new w3 _) rfl jm HV1.out (fun g hg e=>by
   have h9:=(ho3.lt g (by rw[hg];rfl)).2
   omega)).mono ?_
  rintro e w4 ⟨v4,rfl,ho4,hg4⟩;have hB5:=(hB3.alloc hB3.size (.cells (nov x va vl vc) 56)).grown hg4 bU (fun g hg=>by
   have h9:=(ho3.lt g hg).1
   omega)
  obtain⟨a',c',rfl,hR⟩:=HFIN.out w4 v4 _ af hB5 ho4;exact⟨a',c',rfl,hR,hB5⟩
 have hin2:∀(w3:World) a3 c3,w3.ownsRow (w2.heap.size+1) 56 7 (.slice a3 n c3) n vss.flatten->Below w.heap.size w w3->w2.heap.size+1<=w3.heap.size->w3.heap[w2.heap.size]?=some (.cells (nov x va vl vc) 56 (0,0))->Calls Tryz.prog 119 #[.slice a3 n c3,.int .i64 j,.slice (some ⟨w2.heap.size,0,none⟩) 1 1] w3 fun e w4=> ∃a' c',e=.returned (.slice a' (n+1) c')/\Hid (au w4 a' (n+1) c' 7 56 ((bD (pl Nd.n xs x.n) x xs).map ndF) (fun k=>(Q k\/Q2 k)\/w.heap.size<=k))/\Hid (Below w.heap.size w w4):=fun w3 a3 c3 ho3 hB3 hs3 hy3=>by
  refine (hU a3 n c3 j (w2.heap.size+1) w2.heap.size vss.flatten [.string x.n,.string x.z,.int .i64 x.c,.int .i64 x.s,.int .i64 x.u,.bool x.d,.slice va vl vc] w3 ho3 hn hjn hs3 hy3 rfl jm HV1.out (fun g hg e=>by
   have h9:=(ho3.lt g (by rw[hg];rfl)).1
   omega)).mono ?_
  rintro e w4 ⟨v4,rfl,ho4,hg4⟩;have hB5:=hB3.grown hg4 af (fun g hg=>by
   have h9:=(ho3.lt g hg).1
   omega)
  obtain⟨a',c',rfl,hR⟩:=HFIN.out w4 v4 _ af hB5 ho4;exact⟨a',c',rfl,hR,hB5⟩
 have C1:=aa hcl1;have C2:=aa hcl2;have I1:=aa hin1;have I2:=aa hin2;clear hcl1 hcl2 hin1 hin2 HFIN HCL HR HJ HBD HB2;have mixed:Tryz.prog.follows .mixedOrders=true:=an
 go_wp2;go_region_with (first
  | (go_at_call 120;refine C1.mono ?_;rintro e w3 ⟨a3,c3,rfl,HO3,HB3,hs3,hw3l,hx3⟩;obtain⟨m0,m1,m2,m3,m4,m5,m6⟩:=cs7 hx3;clear hx3)
  | (go_at_call 120;refine C2.mono ?_;rintro e w3 ⟨a3,c3,rfl,HO3,HB3,hs3,HY3⟩)
  | (go_at_call 119;refine (I1.out w3 a3 c3 HO3.out HB3.out hs3).mono ?_;rintro e w4 ⟨a',c',rfl,HR5,HB5⟩)
  | (go_at_call 119;refine (I2.out w3 a3 c3 HO3.out HB3.out hs3 HY3.out).mono ?_;rintro e w4 ⟨a',c',rfl,HR5,HB5⟩))
 all_goals (
  go_wp2
  go_ret
  exact⟨a',_,c',rfl,HR5.out,HB5.out⟩)

theorem dj {w:World} {b:Nat} {v0 v1 v2 v3 v4 v5 v6 v7 v8 v9 v10 v11 v12 v13 v14:Value} {T:TypeId} (h:w.heap[b]?=some (.cells #[v0,v1,v2,v3,v4,v5,v6,v7,v8,v9,v10,v11,v12,v13,v14] T (0,0))):w.cell? ⟨b,0,none⟩=some v0/\w.cell? ⟨b,1,none⟩=some v1/\w.cell? ⟨b,2,none⟩=some v2/\w.cell? ⟨b,3,none⟩=some v3/\w.cell? ⟨b,4,none⟩=some v4/\w.cell? ⟨b,5,none⟩=some v5/\w.cell? ⟨b,6,none⟩=some v6/\w.cell? ⟨b,7,none⟩=some v7/\w.cell? ⟨b,8,none⟩=some v8/\w.cell? ⟨b,9,none⟩=some v9/\w.cell? ⟨b,10,none⟩=some v10/\w.cell? ⟨b,11,none⟩=some v11/\w.cell? ⟨b,12,none⟩=some v12/\w.cell? ⟨b,13,none⟩=some v13/\w.cell? ⟨b,14,none⟩=some v14:=⟨aB h 0,aB h 1,aB h 2,aB h 3,aB h 4,aB h 5,aB h 6,aB h 7,aB h 8,aB h 9,aB h 10,aB h 11,aB h 12,aB h 13,aB h 14⟩
def nx (c:Cl) (n:Nd):Cl:=⟨bD (pl Nd.n (wo Nd.n n.n c.ns) n.n) n (wo Nd.n n.n c.ns),c.ks,c.vs,c.xs,c.ps,c.now⟩
theorem qK (d:Ad) (c:Cl) (n:Nd) (va:Option Addr) (vl vc:Nat) (u0 now0:Int) (w:World) (hr:aI w d c.raw) (hs:Sm c) (hx:av w va vl vc n.zs) (hvl:vl<=8001) (z0:n.n.size<=9223372036854775807) (z1:n.z.size<=9223372036854775807):
  Calls Tryz.prog 67 #[.agg #[.int .i64 u0,.int .i64 now0,.string n.n,.string n.z,.int .i64 n.c,.int .i64 n.s,.int .i64 n.u,.bool n.d,.slice va vl vc,.slice d.a1 d.l1 d.c1,.slice d.a2 d.l2 d.c2,.slice d.a3 d.l3 d.c3,.slice d.a4 d.l4 d.c4,.slice d.a5 d.l5 d.c5,.int .i64 c.now]] w fun e w'=> ∃d',e=.returned (.agg #[.slice d'.a1 d'.l1 d'.c1,.slice d'.a2 d'.l2 d'.c2,.slice d'.a3 d'.l3 d'.c3,.slice d'.a4 d'.l4 d'.c4,.slice d'.a5 d'.l5 d'.c5,.int .i64 c.now])/\bF w' d' (nx c n).raw (fun k=>w.heap.size<=k)/\Below w.heap.size w w':=by
 have HR:=aa hr;have HS:=aa hs;have HX:=aa hx;have HB:=aa (vG w.heap.size w);clear hr hs hx;go_enter Tryz.func67,Tryz.ntmps67;go_wp2_with fail;refine (nJ d c _ (HR.below (HB.trans ((aD _ _ _).mono HB.size))) HS.out).mono ?_;rintro e w1 ⟨d',rfl,ho,hb⟩;have HQ2:=aa hb.size;simp only[ct] at HQ2 ho;obtain⟨HA0,HA1,hbx⟩:=bN hb;have Bg:=aa HA0;have Br:=aa HA1;replace HB:=upB HB hbx;clear hb hbx HA0 HA1;obtain⟨P,hP⟩:=ho;have HP:=aa hP;have hq2:w.heap.size+1+1<=w1.heap.size:=HQ2.out;clear hP;obtain⟨g0,g1,g2,g3,g4,g5,g6,g7,g8,g9,g10,g11,g12,g13,g14⟩:=dj Bg.out;have ltg:=ae Bg.out;have h5:=(HP.n.cX (S':=(fun k=>(w.heap.size+1+1<=k/\P k=1)/\k<w1.heap.size)) (fun k hk s=>⟨s,hk⟩)).below (ai w1 (.cells (clv d' c.now) 36));have hlen:d'.l1<=8:=by have h6:=HP.n.1;have h7:(c.ns.map ndF).length=d'.l1:=h6;rw[wj] at h7;have:=HS.n;omega
 have hbo:Below w1.heap.size w1 (w1.alloc (.cells (clv d' c.now) 36)):=ai w1 (.cells (clv d' c.now) 36);have hpk:=ae Bg.out;have hc1:Calls Tryz.prog 93 #[.slice d'.a1 d'.l1 d'.c1,.string n.n] (w1.alloc (.cells (clv d' c.now) 36)).drew fun e W=> ∃a2 l2 c2,e=.returned (.slice a2 l2 c2)/\Hid (au W a2 l2 c2 7 56 ((wo Nd.n n.n c.ns).map ndF) (fun k=>(fun k=>(w.heap.size+1+1<=k/\P k=1)/\k<w1.heap.size) k\/w1.heap.size+1<=k))/\Hid (Below (w1.alloc (.cells (clv d' c.now) 36)).heap.size (w1.alloc (.cells (clv d' c.now) 36)) W)/\Hid (W.heap[w.heap.size]?=some (.cells #[.int .i64 u0,.int .i64 now0,.string n.n,.string n.z,.int .i64 n.c,.int .i64 n.s,.int .i64 n.u,.bool n.d,.slice va vl vc,.slice d.a1 d.l1 d.c1,.slice d.a2 d.l2 d.c2,.slice d.a3 d.l3 d.c3,.slice d.a4 d.l4 d.c4,.slice d.a5 d.l5 d.c5,.int .i64 c.now] 70 (0,0)))/\Hid (W.heap[w1.heap.size]?=some (.cells (clv d' c.now) 36 (0,0)))/\Hid (W.heap[w.heap.size+1]?=some (.cells (clo6 none 0 0 none 0 0 none 0 0 none 0 0 none 0 0 0) 36 (0,0))):=by
  refine (nG d'.a1 d'.l1 d'.c1 c.ns n.n (fun k=>(w.heap.size+1+1<=k/\P k=1)/\k<w1.heap.size) (w1.alloc (.cells (clv d' c.now) 36)).drew (h5.aH (fun _ _ _=>rfl) (fun _ _ s=>s)) hlen).mono ?_;rintro e W ⟨a2,l2,c2,rfl,hN,hb⟩;have hb':Below (w1.alloc (.cells (clv d' c.now) 36)).heap.size (w1.alloc (.cells (clv d' c.now) 36)) W:=⟨hb.os,hb.tape,hb.output,hb.size,hb.block⟩;have hN':=hN.cX (S':=fun k=>(fun k=>(w.heap.size+1+1<=k/\P k=1)/\k<w1.heap.size) k\/w1.heap.size+1<=k) (fun k _ s=>s.imp id (fun q=>by have q1:(w1.alloc (.cells (clv d' c.now) 36)).drew.heap.size<=k:=q;simpa using q1));exact⟨a2,l2,c2,rfl,hN',hb',(hb'.block _ bU).trans ((hbo.block _ hpk).trans Bg.out),(hb'.block _ aW).trans (heap_alloc_new w1 (.cells (clv d' c.now) 36)),(hb'.block _ bU).trans ((hbo.block _ af).trans Br.out)⟩
 have hc2:∀W,Below (w1.alloc (.cells (clv d' c.now) 36)).heap.size (w1.alloc (.cells (clv d' c.now) 36)) W->Hid (W.heap[w.heap.size]?=some (.cells #[.int .i64 u0,.int .i64 now0,.string n.n,.string n.z,.int .i64 n.c,.int .i64 n.s,.int .i64 n.u,.bool n.d,.slice va vl vc,.slice d.a1 d.l1 d.c1,.slice d.a2 d.l2 d.c2,.slice d.a3 d.l3 d.c3,.slice d.a4 d.l4 d.c4,.slice d.a5 d.l5 d.c5,.int .i64 c.now] 70 (0,0)))/\Hid (W.heap[w1.heap.size]?=some (.cells (clv d' c.now) 36 (0,0)))/\Hid (W.heap[w.heap.size+1]?=some (.cells (clo6 none 0 0 none 0 0 none 0 0 none 0 0 none 0 0 0) 36 (0,0)))->Calls Tryz.prog 95 #[.agg #[.string n.n,.string n.z,.int .i64 n.c,.int .i64 n.s,.int .i64 n.u,.bool n.d,.slice va vl vc]] W fun e W3=> ∃a3 l3 c3,e=.returned (.agg #[.string n.n,.string n.z,.int .i64 n.c,.int .i64 n.s,.int .i64 n.u,.bool n.d,.slice a3 l3 c3])/\Hid (bE W3 a3 l3 c3 n.zs (fun k=>W.heap.size<=k))/\Hid (Below W.heap.size W W3)/\Hid (W3.heap[w.heap.size]?=some (.cells #[.int .i64 u0,.int .i64 now0,.string n.n,.string n.z,.int .i64 n.c,.int .i64 n.s,.int .i64 n.u,.bool n.d,.slice va vl vc,.slice d.a1 d.l1 d.c1,.slice d.a2 d.l2 d.c2,.slice d.a3 d.l3 d.c3,.slice d.a4 d.l4 d.c4,.slice d.a5 d.l5 d.c5,.int .i64 c.now] 70 (0,0)))/\Hid (W3.heap[w1.heap.size]?=some (.cells (clv d' c.now) 36 (0,0)))/\Hid (W3.heap[w.heap.size+1]?=some (.cells (clo6 none 0 0 none 0 0 none 0 0 none 0 0 none 0 0 0) 36 (0,0))):=fun W hb hkp=>by
  refine (gE n va vl vc W (HX.below (HB.trans ((hbo.trans (hb.mono aW)).mono HB.size))) hvl).mono ?_;rintro e W3 ⟨a3,l3,c3,rfl,hO,hb3⟩;exact⟨a3,l3,c3,rfl,hO,hb3,(hb3.block _ (ae hkp.1.out)).trans hkp.1.out,(hb3.block _ (ae hkp.2.1.out)).trans hkp.2.1.out,(hb3.block _ (ae hkp.2.2.out)).trans hkp.2.2.out⟩
 have hc3:∀(W W3:World) a2 l2 c2 a3 l3 c3,Below (w1.alloc (.cells (clv d' c.now) 36)).heap.size (w1.alloc (.cells (clv d' c.now) 36)) W->au W a2 l2 c2 7 56 ((wo Nd.n n.n c.ns).map ndF) (fun k=>(fun k=>(w.heap.size+1+1<=k/\P k=1)/\k<w1.heap.size) k\/w1.heap.size+1<=k)->Below W.heap.size W W3->bE W3 a3 l3 c3 n.zs (fun k=>W.heap.size<=k)->Hid (W3.heap[w.heap.size]?=some (.cells #[.int .i64 u0,.int .i64 now0,.string n.n,.string n.z,.int .i64 n.c,.int .i64 n.s,.int .i64 n.u,.bool n.d,.slice va vl vc,.slice d.a1 d.l1 d.c1,.slice d.a2 d.l2 d.c2,.slice d.a3 d.l3 d.c3,.slice d.a4 d.l4 d.c4,.slice d.a5 d.l5 d.c5,.int .i64 c.now] 70 (0,0)))/\Hid (W3.heap[w1.heap.size]?=some (.cells (clv d' c.now) 36 (0,0)))/\Hid (W3.heap[w.heap.size+1]?=some (.cells (clo6 none 0 0 none 0 0 none 0 0 none 0 0 none 0 0 0) 36 (0,0)))->Calls Tryz.prog 94 #[.slice a2 l2 c2,.agg #[.string n.n,.string n.z,.int .i64 n.c,.int .i64 n.s,.int .i64 n.u,.bool n.d,.slice a3 l3 c3]] W3 fun e W4=> ∃a4 l4 c4,e=.returned (.slice a4 l4 c4)/\Hid (au W4 a4 l4 c4 7 56 ((nx c n).ns.map ndF) (fun k=>(fun k=>(w.heap.size+1+1<=k/\P k=1)/\k<w1.heap.size) k\/w1.heap.size+1<=k))/\Hid (Below w1.heap.size w1 W4)/\Hid (W4.heap[w.heap.size]?=some (.cells #[.int .i64 u0,.int .i64 now0,.string n.n,.string n.z,.int .i64 n.c,.int .i64 n.s,.int .i64 n.u,.bool n.d,.slice va vl vc,.slice d.a1 d.l1 d.c1,.slice d.a2 d.l2 d.c2,.slice d.a3 d.l3 d.c3,.slice d.a4 d.l4 d.c4,.slice d.a5 d.l5 d.c5,.int .i64 c.now] 70 (0,0)))/\Hid (W4.heap[w1.heap.size]?=some (.cells (clv d' c.now) 36 (0,0)))/\Hid (W4.heap[w.heap.size+1]?=some (.cells (clo6 none 0 0 none 0 0 none 0 0 none 0 0 none 0 0 0) 36 (0,0))):=fun W W3 a2 l2 c2 a3 l3 c3 hb hO2 hb3 hO3 hkp=>by
  obtain⟨g,hg⟩:=hO3.fr;have hr2:=(hO2.cX (S':=fun k=>((fun k=>(w.heap.size+1+1<=k/\P k=1)/\k<w1.heap.size) k\/w1.heap.size+1<=k)/\k<W.heap.size) (fun k hk s=>⟨s,hk⟩)).below hb3;have hl2:l2<=8:=by have h6:=hO2.1;rw[wj] at h6;have h7:=rS Nd.n n.n c.ns;have:=HS.n;omega
  have hs1:=hb.size;simp only[ct] at hs1;refine (kp a2 l2 c2 (wo Nd.n n.n c.ns) n a3 l3 c3 g _ (fun k=>W.heap.size<=k) W3 hr2 hl2 (fun i f hf=>by rcases i with _|_|_|_|_|_|_|i <;> simp[ndF] at hf <;> subst hf;exact⟨_,rfl,rfl,z0⟩;exact⟨_,rfl,rfl,z1⟩;exact⟨_,rfl,rfl⟩;exact⟨_,rfl,rfl⟩;exact⟨_,rfl,rfl⟩;exact⟨_,rfl,rfl⟩;exact⟨_,rfl,hg⟩) (fun k q1 q2=>by have q3:=q1.2;have q4:W.heap.size<=k:=q2;omega)).mono ?_;rintro e W4 ⟨a4,l4,c4,rfl,hN,hb4⟩;have hs3:=hb3.size;have hb14:Below w1.heap.size w1 W4:=(hbo.trans (hb.mono aW)).trans ((hb3.mono af).trans (hb4.mono af));have hN':=hN.cX (S':=fun k=>(fun k=>(w.heap.size+1+1<=k/\P k=1)/\k<w1.heap.size) k\/w1.heap.size+1<=k) (fun k _ s=>by
   rcases s with (s|s)|s
   ·exact s.1
   ·have s1:W.heap.size<=k:=s;exact .inr af
   ·have s1:W3.heap.size<=k:=s;exact .inr af)
  exact⟨a4,l4,c4,rfl,hN',hb14,(hb4.block _ (ae hkp.1.out)).trans hkp.1.out,(hb4.block _ (ae hkp.2.1.out)).trans hkp.2.1.out,(hb4.block _ (ae hkp.2.2.out)).trans hkp.2.2.out⟩
 have C1:=aa hc1;have C2:=aa hc2;have C3:=aa hc3;clear hc1 hc2 hc3 h5 HX;have mixed:Tryz.prog.follows .mixedOrders=true:=an
 go_wp2;go_region_with (first
  | (go_at_call 93;refine C1.mono ?_;rintro e w2 ⟨a2,l2,c2,rfl,HO2,HB2,HKP2⟩;obtain⟨p0,p1,p2,p3,p4,p5,p6,p7,p8,p9,p10,p11,p12,p13,p14⟩:=dj HKP2.1.out)
  | (go_at_call 95;refine (C2.out w2 HB2.out HKP2).mono ?_;rintro e w3 ⟨a3,l3,c3,rfl,HO3,HB3,HKP3⟩)
  | (go_at_call 94;refine (C3.out w2 w3 a2 l2 c2 a3 l3 c3 HB2.out HO2.out HB3.out HO3.out HKP3).mono ?_;rintro e w4 ⟨a4,l4,c4,rfl,HO4,HB4,HKP4⟩;obtain⟨o0,o1,o2,o3,o4,o5⟩:=cs6 HKP4.2.1.out;have hol:=ae HKP4.2.1.out;have fo4:=ar HKP4.2.1.out 0))
 all_goals (
  obtain⟨r0,r1,r2,r3,r4,r5⟩:=cs6 HKP4.2.2.out;have fr0:=ar HKP4.2.2.out 0;have fr1:=ar HKP4.2.2.out 1;have fr2:=ar HKP4.2.2.out 2;have fr3:=ar HKP4.2.2.out 3;have fr4:=ar HKP4.2.2.out 4;have fr5:=ar HKP4.2.2.out 5;have hrl:=ae HKP4.2.2.out
  have hne:¬w.heap.size+1=w1.heap.size:=af
  have hne2:¬w1.heap.size=w.heap.size+1:=af
  go_wp2
  refine bodyPost_ret (v:=.agg #[.slice a4 l4 c4,.slice d'.a2 d'.l2 d'.c2,.slice d'.a3 d'.l3 d'.c3,.slice d'.a4 d'.l4 d'.c4,.slice d'.a5 d'.l5 d'.c5,.int .i64 c.now]) (by simp[results,Tryz.results67,go_sem, *]) rfl ⟨⟨a4,l4,c4,d'.a2,d'.l2,d'.c2,d'.a3,d'.l3,d'.c3,d'.a4,d'.l4,d'.c4,d'.a5,d'.l5,d'.c5⟩,rfl,?_,sb1 (sb1 (sb1 (sb1 (sb1 (sb1 (ah (show w.heap.size<=w1.heap.size by omega) (HB.trans (HB4.mono HB.size))))))))⟩;have h9:=HP.u7 hq2 HO4.out HB4.out (w4:=(((((((w4.setCell ⟨w1.heap.size,0,none⟩ (.slice a4 l4 c4)).setCell ⟨w.heap.size+1,0,none⟩ (.slice a4 l4 c4)).setCell ⟨w.heap.size+1,1,none⟩ (.slice d'.a2 d'.l2 d'.c2)).setCell ⟨w.heap.size+1,2,none⟩ (.slice d'.a3 d'.l3 d'.c3)).setCell ⟨w.heap.size+1,3,none⟩ (.slice d'.a4 d'.l4 d'.c4)).setCell ⟨w.heap.size+1,4,none⟩ (.slice d'.a5 d'.l5 d'.c5)).setCell ⟨w.heap.size+1,5,none⟩ (.int .i64 c.now))) (fun k h1 h2=>by rw[vB _ _ _ _ (show k≠w.heap.size+1 by omega),vB _ _ _ _ (show k≠w.heap.size+1 by omega),vB _ _ _ _ (show k≠w.heap.size+1 by omega),vB _ _ _ _ (show k≠w.heap.size+1 by omega),vB _ _ _ _ (show k≠w.heap.size+1 by omega),vB _ _ _ _ (show k≠w.heap.size+1 by omega),vB _ _ _ _ (show k≠w1.heap.size by omega)])
  exact h9.cX (fun k _ s=>by have s1:w.heap.size+1+1<=k:=s;show w.heap.size<=k;omega))

theorem nh {α:Type} {nm:α->ByteArray} {t:ByteArray} {xs:List α} {k:Nat} {x:α} (hr:aC nm xs) (hx:xs[k]?=some x) (hn:nm x=t):wo nm t xs=xs.take k++xs.drop (k+1):=by
 have hk:k<xs.length:=(vz.1 hx).1;have e:xs=xs.take k++x ::xs.drop (k+1):=by
  have h1:xs.drop k=x ::xs.drop (k+1):=by rw[List.drop_eq_getElem_cons hk];congr 1;exact (vz.1 hx).2
  rw[<-h1,List.take_append_drop]
 have hno:∀(j:Nat) y,xs[j]?=some y->¬j=k->(!((nm y).toList==t.toList))=true:=fun j y hj hne=>by
  have:¬nm y=t:=fun q=>hne (hr.inj hj hx (q.trans hn.symm)).1;simp[bk this]
 have h1:(xs.take k).filter (fun x=> !((nm x).toList==t.toList))=xs.take k:=List.filter_eq_self.2 fun y hy=>by
  obtain⟨j,hj⟩:=wR hy;rw[wb] at hj;split at hj
  ·exact hno j y hj af
  ·cases hj
 have h2:(xs.drop (k+1)).filter (fun x=> !((nm x).toList==t.toList))=xs.drop (k+1):=List.filter_eq_self.2 fun y hy=>by
  obtain⟨j,hj⟩:=wR hy;rw[wZ] at hj;exact hno _ y hj af
 unfold wo;conv=>lhs;rw[e]
 rw[List.filter_append,List.filter_cons,h1,h2,aP hn];rfl
theorem rC {α:Type} {nm:α->ByteArray} {ps:List α} {t:ByteArray} {k:Nat} {x y:α} (hr:aC nm ps) (hx:ps[k]?=some x) (hn:nm x=t):bD (pl nm (wo nm t ps) t) y (wo nm t ps)=ps.set k y:=by
 have hk:k<ps.length:=(vz.1 hx).1;have hw:=nh hr hx hn;have hpl:pl nm (wo nm t ps) t=k:=by
  rw[hw];have hlt:∀(j:Nat) z,j<k->(ps.take k++ps.drop (k+1))[j]?=some z->vM (nm z).toList t.toList=true:=fun j z hj hz=>by
   have h1:(ps.take k).length=k:=by rw[vX];omega
   rw[wh af,wb,if_pos hj] at hz;have:=hr.lt hj hz hx;rw[hn] at this;exact this
  by_cases he:k+1<ps.length
  ·have h1:(ps.take k).length=k:=by rw[vX];omega
   have h2:(ps.take k++ps.drop (k+1))[k]?=some ps[k+1]:=by
    rw[wu af,h1,Nat.sub_self,wZ];exact vF he
   refine qh hlt h2 ?_;have h3:=hr.lt (Nat.lt_succ_self k) hx (vF he);rw[hn] at h3;cases h9:vM (nm ps[k+1]).toList t.toList
   ·rfl
   ·have h8:=cA _ _ _ h3 h9;rw[cH] at h8;cases h8
  ·have h4:ps.take k++ps.drop (k+1)=ps.take k:=by rw[wW af,List.append_nil]
   rw[h4];rw[h4] at hlt;have h1:(ps.take k).length=k:=by rw[vX];omega
   rw[gv (fun j z hz=>hlt j z cd hz),h1]
 rw[hpl,hw];unfold bD;have h1:(ps.take k).length=k:=by rw[vX];omega
 rw[xx h1,List.drop_left' h1,List.set_eq_take_append_cons_drop,if_pos hk];simp
theorem qg {c:Cl} {n m:Nd} {k:Nat} (hr:bq c) (hx:c.ns[k]?=some n) (hn:n.n=m.n):nx c m=⟨c.ns.set k m,c.ks,c.vs,c.xs,c.ps,c.now⟩:=by
 unfold nx;rw[rC hr.2.1.1.2.2 hx hn]

def phF (t:ByteArray) (f:Pd->Int) (p:Pd):Pd:=if p.d.toList==t.toList then ⟨p.n,p.c,p.z,p.zs,p.d,f p⟩ else p
theorem iu {t:ByteArray} {f:Pd->Int} {p:Pd} (h:p.d=t):phF t f p=⟨p.n,p.c,p.z,p.zs,p.d,f p⟩:=by unfold phF;rw[aP h];rfl
theorem qi {t:ByteArray} {f:Pd->Int} {p:Pd} (h:¬p.d=t):phF t f p=p:=by unfold phF;rw[bk h];rfl
theorem rE (t:ByteArray):phF t (fun _=>1)=ph1 t:=rfl
def phC (c:Cl) (t:ByteArray) (f:Pd->Int):Cl:=⟨c.ns,c.ks,c.vs,c.xs,c.ps.map (phF t f),c.now⟩
def mpL (h:Pd->Pd) (ps:List Pd) (k:Nat):List Pd:=(ps.map h).take k++ps.drop k
theorem gw {h:Pd->Pd} {ps:List Pd} {k:Nat} (hk:k<ps.length):(mpL h ps k)[k]?=ps[k]?:=by
 unfold mpL;exact pN
theorem eR {h:Pd->Pd} {ps:List Pd} {k:Nat} {x:Pd} (hx:ps[k]?=some x):mpL h ps (k+1)=(mpL h ps k).set k (h x):=by
 have hk:k<ps.length:=(vz.1 hx).1;unfold mpL;have h1:((ps.map h).take k).length=k:=by simp;omega
 exact sO
theorem mO {h:Pd->Pd} {ps:List Pd} {k:Nat} (hk:ps.length<=k):mpL h ps k=ps.map h:=by
 unfold mpL;rw[vK (by simpa using hk),wW hk,List.append_nil]
theorem j7 (h:Pd->Pd) (ps:List Pd):mpL h ps 0=ps:=by simp[mpL]
theorem j8 {h:Pd->Pd} {ps:List Pd} {k:Nat} {x:Pd} (hx:ps[k]?=some x) (e:h x=x):mpL h ps (k+1)=mpL h ps k:=by
 rw[eR hx,e,gU (by rw[gw (vz.1 hx).1];exact hx)]
theorem au.ui {wr wz:World} {g l cp k:Nat} {h:Pd->Pd} {ps:List Pd} {x:Pd} {v:Int} {S:Nat->Prop} (hO:au wr (some ⟨g,0,none⟩) l cp 6 107 ((mpL h ps k).map pdF) S) (hb:Below wr.heap.size wr wz) (hx:ps[k]?=some x) (hh:h x=⟨x.n,x.c,x.z,x.zs,x.d,v⟩):au (wz.setCell ⟨g,k*6+5,none⟩ (.int .i64 v)) (some ⟨g,0,none⟩) l cp 6 107 ((mpL h ps (k+1)).map pdF) S:=by
 have hk:k<ps.length:=(vz.1 hx).1;have hLk:((mpL h ps k).map pdF)[k]?=some (pdF x):=by rw[vL,gw hk,hx];rfl
 obtain⟨g',e,hS⟩:=(hO.below hb).st (az.refl S wz) hLk;cases e;obtain⟨⟨cur2,H2,h3,_⟩,_,_⟩:=hS.ec (i:=5) rfl v;rw[eR hx,xh,hh];exact⟨by rw[List.length_set];exact hO.1,hO.2.1,hO.2.2.1,.inr ⟨g,cur2,H2,rfl,h3⟩⟩
theorem dn.uu {w2 w3 w4:World} {d:Ad} {c:Cr} {B:Nat} {P:Nat->Nat} (h:dn w2 d c (fun k=>B<=k) P) {a:Option Addr} {l cp:Nat} {rs:List (List Fv)} (hN:au w3 a l cp 6 107 rs (fun k=>(B<=k/\P k=5)/\k<w2.heap.size)) (hb:∀k,k<w2.heap.size->¬P k=5->w3.heap[k]?=w2.heap[k]?) (hk:∀k,B<=k->k<w2.heap.size->w4.heap[k]?=w3.heap[k]?):bF w4 ⟨d.a1,d.l1,d.c1,d.a2,d.l2,d.c2,d.a3,d.l3,d.c3,d.a4,d.l4,d.c4,a,l,cp⟩ ⟨c.n,c.k,c.v,c.x,rs⟩ (fun k=>B<=k):=by
 refine⟨P,?_,?_,?_,?_,?_⟩
 ·exact h.n.aH (fun k hl s=>(hk k s.1 hl).trans (hb k hl (by have:=s.2;omega))) (fun k hl s=>s)
 ·exact h.k.aH (fun k hl s=>(hk k s.1 hl).trans (hb k hl (by have:=s.2;omega))) (fun k hl s=>s)
 ·exact h.v.aH (fun k hl s=>(hk k s.1 hl).trans (hb k hl (by have:=s.2;omega))) (fun k hl s=>s)
 ·exact h.x.aH (fun k hl s=>(hk k s.1 hl).trans (hb k hl (by have:=s.2;omega))) (fun k hl s=>s)
 ·exact hN.aH (fun k _ s=>hk k s.1.1 s.2) (fun k _ s=>s.1)

def fD (W:World) (nb vb:Nat) (t:ByteArray) (v:Vd) (ua:Option Addr) (ul uc:Nat):Prop:=W.heap[nb]?=some (.cells #[.string t] 9 (0,0))/\W.heap[vb]?=some (.cells #[.string v.n,.int .i64 v.c,.string v.z,.string v.k,.bool v.x,.string v.m,.bool v.y,.slice ua ul uc] 105 (0,0))
theorem fD.below {W W':World} {nb vb:Nat} {t:ByteArray} {v:Vd} {ua:Option Addr} {ul uc:Nat} (h:fD W nb vb t v ua ul uc) (hb:Below W.heap.size W W'):fD W' nb vb t v ua ul uc:=
 ⟨(hb.block _ (ae h.1)).trans h.1,(hb.block _ (ae h.2)).trans h.2⟩
def gI (p:Pd) (t m:ByteArray):Prop:=p.d=t/\InL p.zs m

theorem rB (p:Pd) (va:Option Addr) (vl vc nb vb:Nat) (t:ByteArray) (v:Vd) (ua:Option Addr) (ul uc:Nat) (w:World) (hr:av w va vl vc p.zs) (hh:fD w nb vb t v ua ul uc):
  Calls Tryz.prog 91 #[.agg #[.string p.n,.int .i64 p.c,.string p.z,.slice va vl vc,.string p.d,.int .i64 p.p],.pointer (some ⟨nb,0,none⟩),.pointer (some ⟨vb,0,none⟩)] w (al (gI p t v.m) w):=by
 have HR:=aa hr;obtain⟨h1,h2⟩:=hh;have n0:=cs1 h1;have hnl:=ae h1;obtain⟨v0,v1,v2,v3,v4,v5,v6,v7⟩:=cs8 h2;have hvl:=ae h2;clear hr h1 h2;by_cases he:p.d=t
 ·have hq:=aP he;have HE:=aa he;clear he;go_enter Tryz.func91,Tryz.ntmps91;go_wp2_with fail;refine (bI va vl vc p.zs v.m _ (HR.below (ai _ _))).mono ?_;rintro e w1 ⟨r,rfl,hi,hb⟩;have HB:=aa ((ai w _).trans (hb.mono aW));clear hb;go_wp2;go_ret;exact⟨r,rfl,⟨fun h=>⟨HE.out,hi.1 h⟩,fun h=>hi.2 h.2⟩,HB.out⟩
 ·have hq:=bk he;have HE:=aa he;clear he;go_enter Tryz.func91,Tryz.ntmps91;go_wp2;go_ret;exact al.f (fun h=>HE.out h.1) (ai _ _)

theorem rz (a:Option Addr) (len cap:Nat) (ps:List Pd) (nb vb:Nat) (t:ByteArray) (v:Vd) (ua:Option Addr) (ul uc:Nat) (w:World) (hr:aE w a len cap 6 (ps.map pdF)) (hh:fD w nb vb t v ua ul uc):
  Calls Tryz.prog 112 #[.slice a len cap,.func (.func 91) #[] #[.pointer (some ⟨nb,0,none⟩),.pointer (some ⟨vb,0,none⟩)]] w fun e w'=>(∃r:Int,e=.returned (.int .i64 r)/\((0<=r/\∃(j:Nat) (p:Pd),ps[j]?=some p/\gI p t v.m)\/(r= -1/\∀(j:Nat) (p:Pd),ps[j]?=some p->¬gI p t v.m)))/\Below w.heap.size w w':=by
 have HR:=aa hr;have HH:=aa hh;have hlc:=vI hr.2.1 hr.2.2.1;have hxl:ps.length=len:=dJ
 clear hr hh;go_enter Tryz.func112,Tryz.ntmps112;go_wp2;go_loopw [8] (fun i wr=> ∃k:Nat,k<=len/\i=.int .i64 k/\Hid (∀(j:Nat) p,j<k->ps[j]?=some p->¬gI p t v.m)/\Hid (Below w.heap.size w wr)) (fun i _=>len - (intOf i).toNat);case atStart=>exact⟨0,by omega,rfl,fun _ _ h=>absurd h af,vG _ _⟩
 case round=>
  obtain⟨k,hk,rfl,HE,HB⟩:=hrel;by_cases hlt:k<len
  ·obtain⟨b,o,p,rfl,hb,hx,hat⟩:=bB (HR.below HB.out) hlt;obtain⟨va,vl,vc,hvr,z0,z2,z4,c0,c1,c2,c3,c4,c5⟩:=aL hat;have HX:=aa hx;have HV:=aa hvr;clear hat hx hvr z0 z2 z4;go_wp2_with fail;refine (rB p va vl vc nb vb t v ua ul uc _ HV.out (HH.below HB.out)).mono ?_;rintro e w1 ⟨r,rfl,hi,hb1⟩;have HI:=aa hi;have HB1:=upB HB hb1;clear hi hb1 c0 c1 c2 c3 c4 c5;cases r
   ·go_wp2;refine⟨⟨k+1,by omega,by go_num,fun j z hj hz=>?_,HB1.out⟩,by simp[intOf];omega⟩;by_cases e:j=k
    ·subst e;rw[HX.out] at hz;obtain rfl:=vC hz;exact fun q=>(by have:=HI.2 q;cases this)
    ·exact HE.out j z af hz
   ·go_wp2;go_ret;exact⟨⟨k,rfl,.inl ⟨by omega,k,p,HX.out,HI.1 bM⟩⟩,HB1.out⟩
  ·obtain rfl:len=k:=af
   go_wp2;go_ret;exact⟨⟨-1,rfl,.inr ⟨rfl,fun j p hj=>HE.out j p jq hj⟩⟩,HB.out⟩

theorem rA (a:Option Addr) (len cap:Nat) (ps:List Pd) (nb vb:Nat) (t:ByteArray) (v:Vd) (ua:Option Addr) (ul uc:Nat) (w:World) (hr:aE w a len cap 6 (ps.map pdF)) (hh:fD w nb vb t v ua ul uc):
  Calls Tryz.prog 90 #[.slice a len cap,.func (.func 91) #[] #[.pointer (some ⟨nb,0,none⟩),.pointer (some ⟨vb,0,none⟩)]] w (al (∃(j:Nat) (p:Pd),ps[j]?=some p/\gI p t v.m) w):=by
 have HR:=aa hr;have HH:=aa hh;clear hr hh;go_enter Tryz.func90,Tryz.ntmps90;go_wp2_with fail;refine (rz a len cap ps nb vb t v ua ul uc _ HR.out HH.out).mono ?_;rintro e w1 ⟨⟨r,rfl,hi⟩,hb⟩;have HB:=aa hb;clear hb;rcases hi with ⟨h0,h1⟩|⟨rfl,h1⟩
 ·have H1:=aa h1;clear h1;go_wp2;go_ret;exact al.t H1.out HB.out
 ·have H1:=aa h1;clear h1;go_wp2;go_ret;exact al.f (fun ⟨j,p,h2,h3⟩=>H1.out j p h2 h3) HB.out

theorem rK (d:Ad) (c:Cl) (v:Vd) (ua:Option Addr) (ul uc:Nat) (t:ByteArray) (w:World) (hr:aI w d c.raw):
  Calls Tryz.prog 66 #[.agg #[.slice d.a1 d.l1 d.c1,.slice d.a2 d.l2 d.c2,.slice d.a3 d.l3 d.c3,.slice d.a4 d.l4 d.c4,.slice d.a5 d.l5 d.c5,.int .i64 c.now],.agg #[.string v.n,.int .i64 v.c,.string v.z,.string v.k,.bool v.x,.string v.m,.bool v.y,.slice ua ul uc],.string t] w (al (∃(j:Nat) (p:Pd),c.ps[j]?=some p/\gI p t v.m) w):=by
 obtain⟨HR,HB⟩:=eH;clear hr;go_enter Tryz.func66,Tryz.ntmps66;go_wp2_with fail;refine (rA d.a5 d.l5 d.c5 c.ps (w.heap.size+1+1) (w.heap.size+1) t v ua ul uc _ (HR.p.below (HB.trans ((bQ _ _ _ _).mono HB.size))) ⟨dC _ _ _ _,dD _ _ _ _⟩).mono ?_;rintro e w1 ⟨r,rfl,hi,hb⟩;obtain⟨HA0,HA1,HA2,hbx⟩:=tE hb;replace HB:=upB HB hbx;clear hb hbx HA0 HA1 HA2;have HI:=aa hi;clear hi;go_wp2;go_ret;exact⟨r,rfl,HI.out,HB.out⟩

def inB (zs:List ByteArray) (t:ByteArray):Bool:=zs.any fun z=>z.toList==t.toList
theorem de {zs:List ByteArray} {t:ByteArray} :inB zs t=true↔InL zs t:=by
 unfold inB;rw[List.any_eq_true];constructor
 ·rintro⟨z,hz,he⟩;obtain⟨j,hj⟩:=wR hz;exact⟨j,by rw[hj,cj he]⟩
 ·rintro⟨j,hj⟩;exact⟨t,wD hj,aP rfl⟩
def me (c:Cl) (t m:ByteArray):Bool:=c.ps.any fun p=>(p.d.toList==t.toList) && inB p.zs m
theorem dS {c:Cl} {t m:ByteArray} :me c t m=true↔∃(j:Nat) (p:Pd),c.ps[j]?=some p/\gI p t m:=by
 unfold me;rw[List.any_eq_true];constructor
 ·rintro⟨p,hp,he⟩;obtain⟨j,hj⟩:=wR hp;rw[vZ] at he;exact⟨j,p,hj,cj he.1,de.1 he.2⟩
 ·rintro⟨j,p,hj,h1,h2⟩;exact⟨p,wD hj,by rw[vZ];exact⟨aP h1,de.2 h2⟩⟩

def gA (c:Cl) (t:ByteArray) (v:Vd):Bool:=inB v.zs t && me c t v.m
def cN (c:Cl) (t:ByteArray) (vs:List Vd):List ByteArray:=(vs.filter (gA c t)).map Vd.n
theorem rH {c:Cl} {t:ByteArray} {xs:List Vd} {k:Nat} {x:Vd} (h:xs[k]?=some x) (hv:gA c t x=true):cN c t (xs.take (k+1))=cN c t (xs.take k)++[x.n]:=by
 unfold cN;exact mE
theorem qo {c:Cl} {t:ByteArray} {xs:List Vd} {k:Nat} {x:Vd} (h:xs[k]?=some x) (hv:gA c t x=false):cN c t (xs.take (k+1))=cN c t (xs.take k):=by
 unfold cN;exact mE
theorem qm {c:Cl} {t:ByteArray} {w:World} {a:Option Addr} {len cap:Nat} {xs:List Vd} (h:aE w a len cap 8 (xs.map vdF)) (j:Nat) (z:ByteArray) (hz:(cN c t xs)[j]?=some z):z.size<=9223372036854775807:=by
 have hm:=wD hz;obtain⟨x,hx,rfl⟩:=List.mem_map.1 hm;obtain⟨i,hi⟩:=wR ((List.mem_filter.1 hx).1);have hl:xs.length=len:=by simpa using h.1
 obtain⟨b,o,y,-,-,hy,hat⟩:=bo h (j:=i) ow;rw[hi] at hy;cases hy;obtain⟨_,_,_,_,z0,_⟩:=aF hat;exact z0
theorem gz (c:Cl) (t:ByteArray):(cN c t c.vs).length<=c.vs.length:=by
 unfold cN;rw[wj];exact List.length_filter_le _ _
def bs (c:Cl):Int:=if c.now+10<1000000 then c.now+10 else 1000000
def fw (c:Cl) (n:Nd):List ByteArray:=if c.now<n.u then cN c n.n c.vs else []
def bA (c:Cl) (n:Nd):Nd:=⟨n.n,n.z,n.c,n.s,bs c,n.d,fw c n⟩
def ki (c:Cl) (n:Nd) (f:Pd->Int):Prop:=∀p,(f p=2/\c.now<n.u/\gM c p (bA c n))\/(f p=1/\¬(c.now<n.u/\gM c p (bA c n)))
theorem ki.ex (c:Cl) (n:Nd):∃f,ki c n f:=by
 classical
 refine⟨fun p=>if c.now<n.u/\gM c p (bA c n) then 2 else 1,fun p=>?_⟩;by_cases h:c.now<n.u/\gM c p (bA c n)
 ·exact .inl ⟨if_pos h,h⟩
 ·exact .inr ⟨if_neg h,h⟩
theorem ki.uniq {c:Cl} {n:Nd} {f g:Pd->Int} (h:ki c n f) (h':ki c n g):f=g:=by
 funext p;rcases h p with ⟨a,b⟩|⟨a,b⟩ <;> rcases h' p with ⟨a',b'⟩|⟨a',b'⟩
 ·rw[a,a']
 ·exact absurd b b'
 ·exact absurd b' b
 ·rw[a,a']
def db (c:Cl) (t:ByteArray) (n:Nd) (f:Pd->Int):Cl:=⟨c.ns.set (pl Nd.n c.ns t) (bA c n),c.ks,c.vs,c.xs,c.ps.map (phF t f),c.now⟩
def fh (c:Cl) (t:ByteArray) (o:Co):Prop:=(∃i,cE c t i/\o=co0 (dk i))\/∃n,c_ c t n/\((n.d=true/\o=co0 (dk 8))\/(n.d=false/\∃f,ki c n f/\o=⟨db c t n f,⟨#[]⟩,0⟩))
theorem fh.same {c:Cl} {t:ByteArray} {o o':Co} (h:fh c t o) (h':fh c t o'):o=o':=by
 rcases h with ⟨i,a,rfl⟩|⟨n,a,h⟩ <;> rcases h' with ⟨j,b,rfl⟩|⟨m,b,h'⟩
 ·rw[a.uniq b]
 ·exact (b.no a).elim
 ·exact (a.no b).elim
 ·obtain rfl:=a.uniq b;rcases h with ⟨h1,rfl⟩|⟨h1,f,hf,rfl⟩ <;> rcases h' with ⟨h2,rfl⟩|⟨h2,g,hg,rfl⟩
  ·rfl
  ·rw[h1] at h2;cases h2
  ·rw[h1] at h2;cases h2
  ·rw[hf.uniq hg]
theorem tJ (t:ByteArray) (f:Pd->Int) (p:Pd):(phF t f p).zs=p.zs:=by unfold phF;split <;> rfl
theorem fh.marks {c:Cl} {t:ByteArray} {o:Co} (h:fh c t o) (hf:fO c):cO 1 o.c.raw<=1152921504606846976:=by
 rcases h with ⟨i,_,rfl⟩|⟨n,a,⟨_,rfl⟩|⟨_,f,_,rfl⟩⟩
 ·exact ib _
 ·exact ib _
 ·refine fO.marks (c:=db c t n f) ⟨?_,fun j y hy=>?_,hf.l2,hf.l3,hf.f3,hf.l4,?_,fun j y hy=>?_⟩
  ·show (c.ns.set _ _).length<=_;rw[List.length_set];exact hf.l1
  ·have hy':(c.ns.set (pl Nd.n c.ns t) (bA c n))[j]?=some y:=hy;rw[cr (vz.1 a.2.2.1).1] at hy';split at hy'
   ·obtain rfl:=vC hy';have h8:(c.vs.length:Int)<=8:=a.2.1.2.1.2.2.1.1;have h9:=gz c n.n;show (fw c n).length<=_;unfold fw;split
    ·omega
    ·simp
   ·exact hf.f1 j y hy'
  ·show (c.ps.map _).length<=_;rw[wj];exact hf.l5
  ·have hy':(c.ps.map (phF t f))[j]?=some y:=hy;rw[vL,vO] at hy';obtain⟨p,h1,rfl⟩:=hy';rw[tJ];exact hf.f5 j p h1
theorem step_eq {c:Cl} {t:ByteArray} {n:Nd} {f:Pd->Int} (h:c_ c t n):phC (nx c (bA c n)) (bA c n).n f=db c t n f:=by
 have e:n.n=t:=h.2.2.2;have h1:=qg (m:=bA c n) h.2.1 h.2.2.1 rfl;unfold phC db;rw[h1];show (⟨_,_,_,_,c.ps.map (phF n.n f),_⟩:Cl)=_;rw[e]
theorem bq.vu {c:Cl} {p:Pd} {k:Nat} (h:bq c) (hp:c.ps[k]?=some p) (hd:¬p.d=⟨#[]⟩):∀(j:Nat) t,p.zs[j]?=some t->∃v,a_ c t v:=by
 have h1:=(ew h.2.1 ((fB h.2.1).1 h.2.2.1)).1 h.2.2.2.1;obtain⟨_,b,_⟩:=h1.1 k p hp;intro j t ht;obtain⟨v,_,_,e3,_⟩:=(b j t ht).2.resolve_left hd;exact⟨v,e3⟩
theorem aT.ne {x:ByteArray} (h:aT x):¬x=⟨#[]⟩:=fun e=>by
 rw[e] at h;have h8:=h.1;revert h8;decide

theorem hY (u now:Int) (w:World):
  Calls Tryz.prog 64 #[.agg #[.int .i64 u,.int .i64 now]] w fun e w'=>e=.returned (.bool (decide (now<u)))/\Below w.heap.size w w':=by
 go_enter Tryz.func64,Tryz.ntmps64;go_wp2;go_ret;exact⟨rfl,ai _ _⟩

theorem lB (u now:Int) (w:World) (h0:0<=now) (h1:now<=1000000):
  Calls Tryz.prog 32 #[.agg #[.int .i64 u,.int .i64 now]] w fun e w'=>e=.returned (.int .i64 (if now+10<1000000 then now+10 else 1000000))/\Below w.heap.size w w':=by
 by_cases hl:now+10<1000000
 ·rw[if_pos hl];have hl2:¬1000000<now+10:=af
  exact kT
 ·rw[if_neg hl];by_cases he:now+10=1000000
  ·have hl2:¬1000000<now+10:=af
   exact kT
  ·have hl2:1000000<now+10:=af
   exact kT

theorem nM (d:Ad) (c:Cl) (m:Nd) (ma:Option Addr) (ml mc:Nat) (u0 now0:Int) (t:ByteArray) (v:Vd) (w:World) (hr:aI w d c.raw) (hm:av w ma ml mc m.zs) (hT:bq c) (hv:a_ c t v):
  Calls Tryz.prog 96 #[.agg #[.int .i64 u0,.int .i64 now0,.string m.n,.string m.z,.int .i64 m.c,.int .i64 m.s,.int .i64 m.u,.bool m.d,.slice ma ml mc,.slice d.a1 d.l1 d.c1,.slice d.a2 d.l2 d.c2,.slice d.a3 d.l3 d.c3,.slice d.a4 d.l4 d.c4,.slice d.a5 d.l5 d.c5,.int .i64 c.now],.string t] w (al (InL m.zs v.n) w):=by
 have HR:=aa hr;have HM:=aa hm;have HT:=aa hT;have HV:=aa hv;have hzl:m.zs.length=ml:=hm.1;have hlm:ml<=9223372036854775807:=vI hm.2.1 hm.2.2.1;have HB:=aa (vG w.heap.size w);clear hr hm hT hv;go_enter Tryz.func96,Tryz.ntmps96;go_wp2_with fail;refine (iG d c t w _ HR.out (HB.trans ((ai _ _).mono HB.size)) HT.2.1.2.2.2.1.2.2 HT.2.1.2.2.1.2.2 HT.2.1.ne).mono ?_;rintro e w1 ⟨hb,hf⟩;obtain⟨HA0,hbx⟩:=aJ hb;have Bg:=aa HA0;replace HB:=upB HB hbx;clear hb hbx HA0;rcases hf with ⟨v9,va,vl,vc,hbd,rfl,-⟩|⟨hno,rfl⟩;rotate_left
 ·exact absurd HV.out (hno v)
 obtain rfl:=a_.inj HT.2.1.2.2.2.1.2.2 HT.2.1.2.2.1.2.2 hbd HV.out;clear hbd;obtain⟨g0,g1,g2,g3,g4,g5,g6,g7,g8,g9,g10,g11,g12,g13,g14⟩:=dj Bg.out;have ltg:=ae Bg.out;go_wp2;have hg1:w.heap.size<w1.heap.size:=ltg;clear g0 g1 g2 g3 g4 g5 g6 g7 g8 g9 g10 g11 g12 g13 g14 ltg;obtain⟨V,hV⟩:∃V,V=w1.alloc (.cells (vov v9 va vl vc) 105):=⟨_,rfl⟩;have BgV:=aa ((vS w1 (.cells (vov v9 va vl vc) 105) _ (ae Bg.out)).trans Bg.out);have BvV:=aa (heap_alloc_new w1 (.cells (vov v9 va vl vc) 105));have HBV:=aa (HB.trans ((ai w1 (.cells (vov v9 va vl vc) 105)).mono HB.size));rw[<-hV] at BgV BvV HBV ⊢;clear hV Bg HB;go_loopw [19] (fun vi wr=> ∃k:Nat,k<=ml/\vi=.int .i64 k/\Hid (∀(j:Nat),j<k->¬m.zs[j]?=some v9.n)/\Hid (Below V.heap.size V wr)) (fun vi _=>ml - (intOf vi).toNat);case atStart=>exact⟨0,by omega,rfl,fun j h=>by omega,vG _ _⟩
 case round=>
  obtain⟨k,hk,rfl,HI,HL⟩:=hrel;have Bg:=upK BgV HL.out;have Bv:=upK BvV HL.out;have HB:=aa (HBV.trans (HL.mono HBV.size));have hLs:=HL.size;by_cases hlt:k<ml
  ·have hk1:(k:Int)<ml:=af
   have hk0:¬(k:Int)<0:=af
   obtain⟨z,hz⟩:∃z,m.zs[k]?=some z:=⟨_,vF af⟩;obtain⟨-,-,-,-,h5⟩:=HM.below HB.out;rcases h5 with h5|⟨bm,om,rfl,hbm,hcm⟩
   ·rw[h5] at hz;cases hz
   have hcz:=hcm k z hz;have HZ:=aa hz;clear hz hcm;by_cases he:z=v9.n
   ·have HE:=aa he;have hq:=aP he;clear he;go_wp2_with fail;have Gg:=Bg;have Gv:=Bv;have HW:=HB;have g8:=fun q:Wd wr=>q.slot (o:=8) Gg.out rfl;have v0:=fun q:Wd wr=>q.slot (o:=0) Gv.out rfl;have mz:=fun q:Wd wr=>(q.cell hbm).trans hcz;have hne0:=Wd.ne wr;go_wp2_with fail;refine ag an an ?_;repeat (go_big_quiet_step (first|fail))
    refine wpQuiet_nil ?_;rintro _ ⟨q1,rfl⟩;have HB31:=upB HW q1.b;have Cg:=upK Gg q1.b;have Cv:=upK Gv q1.b;clear hne0 HW HB g8 v0 mz Gg Gv Bg Bv hcz hbm;have HB:=HB31;clear HB31;have Bg:=Cg;clear Cg;have Bv:=Cv;clear Cv;go_wp2;go_ret;exact al.t ⟨k,by rw[HZ.out,HE.out]⟩ HB.out
   have HE:=aa he;have hq:=bk he;clear he;go_wp2_with fail;have Gg:=Bg;have Gv:=Bv;have HW:=HB;have g8:=fun q:Wd wr=>q.slot (o:=8) Gg.out rfl;have v0:=fun q:Wd wr=>q.slot (o:=0) Gv.out rfl;have mz:=fun q:Wd wr=>(q.cell hbm).trans hcz;have hne0:=Wd.ne wr;go_wp2_with fail;refine ag an an ?_;repeat (go_big_quiet_step (first|fail))
   refine wpQuiet_nil ?_;rintro _ ⟨q1,rfl⟩;have HB31:=upB HW q1.b;have Cg:=upK Gg q1.b;have Cv:=upK Gv q1.b;clear hne0 HW HB g8 v0 mz Gg Gv Bg Bv hcz hbm;have HB:=HB31;clear HB31;have Bg:=Cg;clear Cg;have Bv:=Cv;clear Cv;go_wp2;refine⟨⟨k+1,by omega,by go_num,fun j hj hz=>?_,HL.trans (q1.b.mono hLs)⟩,by simp[intOf];omega⟩;by_cases e:j=k
   ·subst e;rw[HZ.out] at hz;exact HE.out (vC hz)
   ·exact HI.out j af hz
  have hk1:¬(k:Int)<ml:=af
  go_wp2;go_ret;exact al.f (fun ⟨j,hj⟩=>HI.out j jq hj) HB.out

theorem qN (d:Ad) (c:Cl) (m:Nd) (ma:Option Addr) (ml mc:Nat) (u0 now0:Int) (p:Pd) (pa:Option Addr) (pq pc:Nat) (r:Int) (w:World) (hr:aI w d c.raw) (hm:av w ma ml mc m.zs) (hp:av w pa pq pc p.zs) (hT:bq c) (hd:m.d=false) (hbd:∀(j:Nat) t,p.zs[j]?=some t->∃v,a_ c t v) (hr2:(r=2/\now0<u0/\gM c p m)\/(r=1/\¬(now0<u0/\gM c p m))):
  Calls Tryz.prog 68 #[.agg #[.int .i64 u0,.int .i64 now0,.string m.n,.string m.z,.int .i64 m.c,.int .i64 m.s,.int .i64 m.u,.bool m.d,.slice ma ml mc,.slice d.a1 d.l1 d.c1,.slice d.a2 d.l2 d.c2,.slice d.a3 d.l3 d.c3,.slice d.a4 d.l4 d.c4,.slice d.a5 d.l5 d.c5,.int .i64 c.now],.agg #[.string p.n,.int .i64 p.c,.string p.z,.slice pa pq pc,.string p.d,.int .i64 p.p]] w fun e w'=>e=.returned (.int .i64 r)/\Below w.heap.size w w':=by
 rw[hd];have HR:=aa hr;have HM:=aa hm;have HP:=aa hp;have HT:=aa hT;have HD:=aa hd;have HBD:=aa hbd;have HRR:=aa hr2;have hpl:p.zs.length=pq:=hp.1;have hlm:pq<=9223372036854775807:=vI hp.2.1 hp.2.2.1;have HB:=aa (vG w.heap.size w);clear hr hm hp hT hbd hr2 hd;go_enter Tryz.func68,Tryz.ntmps68;go_wp2_with fail;obtain⟨q,hq⟩:∃q,q=decide (now0<u0):=⟨_,rfl⟩;have HQ:=aa hq;clear hq;have hg:=hY u0 now0 ((w.alloc (.cells #[.int .i64 u0,.int .i64 now0,.string m.n,.string m.z,.int .i64 m.c,.int .i64 m.s,.int .i64 m.u,.bool false,.slice ma ml mc,.slice d.a1 d.l1 d.c1,.slice d.a2 d.l2 d.c2,.slice d.a3 d.l3 d.c3,.slice d.a4 d.l4 d.c4,.slice d.a5 d.l5 d.c5,.int .i64 c.now] 70)).alloc (.cells (pov p pa pq pc) 107));rw[<-HQ.out] at hg;refine (hg).mono ?_;rintro e w1 ⟨rfl,hb⟩;obtain⟨HA0,HA1,hbx⟩:=bN hb;have Bg:=aa HA0;have Bp:=aa HA1;replace HB:=upB HB hbx;clear hb hbx HA0 HA1;clear hg;cases q
 ·go_wp2;go_ret;refine⟨?_,HB.out⟩;rcases HRR.out with ⟨_,h1,_⟩|⟨h1,_⟩
  ·exact absurd h1 (of_decide_eq_false HQ.symm)
  ·rw[h1];rfl
 obtain⟨p0,p1,p2,p3,p4,p5⟩:=cs6 Bp;have ltp_1:=ae Bp.out;go_wp2;clear p0 p1 p2 p3 p4 p5 ltp_1;have HLV:=aa (of_decide_eq_true HQ.symm);have hp1:w.heap.size+1<w1.heap.size:=ae Bp.out;go_loopw [19] (fun vi wr=> ∃k:Nat,k<=pq/\vi=.int .i64 k/\Hid (∀(j:Nat) t,j<k->p.zs[j]?=some t->∃v,a_ c t v/\InL m.zs v.n)/\Hid (Below w1.heap.size w1 wr)) (fun vi _=>pq - (intOf vi).toNat);case atStart=>exact⟨0,by omega,rfl,fun j t h=>by omega,vG _ _⟩
 case round=>
  obtain⟨k,hk,rfl,HI,HL⟩:=hrel;replace Bg:=aa ((HL.block _ (ae Bg.out)).trans Bg.out);replace Bp:=aa ((HL.block _ (ae Bp.out)).trans Bp.out);replace HB:=aa (HB.trans (HL.mono HB.size));have hLs:=HL.size;by_cases hlt:k<pq
  ·have hk1:(k:Int)<pq:=af
   have hk0:¬(k:Int)<0:=af
   obtain⟨z,hz⟩:∃z,p.zs[k]?=some z:=⟨_,vF af⟩;obtain⟨v,hv⟩:=HBD.out k z hz;obtain⟨-,-,-,-,h5⟩:=HP.below HB.out;rcases h5 with h5|⟨bm,om,rfl,hbm,hcm⟩
   ·rw[h5] at hz;cases hz
   have hcz:=hcm k z hz;have HZ:=aa hz;have HV:=aa hv;clear hz hcm hv;obtain⟨g0,g1,g2,g3,g4,g5,g6,g7,g8,g9,g10,g11,g12,g13,g14⟩:=dj Bg.out;have ltg:=ae Bg.out;go_wp2_with fail;have hg:=nM d c m ma ml mc u0 now0 z v wr (HR.below HB.out) (HM.below HB.out) HT.out HV.out;rw[HD.out] at hg;refine hg.mono ?_;rintro e w2 ⟨q,rfl,hi,hb⟩;clear hg g0 g1 g2 g3 g4 g5 g6 g7 g8 g9 g10 g11 g12 g13 g14;have HH:=aa hi;clear hi;cases q
   ·go_wp2;go_ret;refine⟨?_,HB.trans (hb.mono HB.size)⟩;rcases HRR.out with ⟨_,_,h1⟩|⟨h1,_⟩
    ·obtain⟨v9,h2,h3⟩:=h1 k z HZ.out;obtain rfl:=a_.inj HT.2.1.2.2.2.1.2.2 HT.2.1.2.2.1.2.2 h2 HV.out;have h4:=HH.2 h3;cases h4
    ·rw[h1];rfl
   go_wp2;refine⟨⟨k+1,by omega,by go_num,fun j t hj ht=>?_,HL.trans (hb.mono hLs)⟩,by simp[intOf];omega⟩;by_cases e:j=k
   ·subst e;rw[HZ.out] at ht;obtain rfl:=vC ht;exact⟨v,HV.out,HH.1 bM⟩
   ·exact HI.out j t af ht
  have hk1:¬(k:Int)<pq:=af
  go_wp2;go_ret;refine⟨?_,HB.out⟩;rcases HRR.out with ⟨h1,_⟩|⟨_,h1⟩
  ·rw[h1];rfl
  ·exact absurd ⟨HLV.out,fun j t ht=>HI.out j t jr ht⟩ h1

theorem ly (d:Ad) (c:Cl) (t:ByteArray) (n:Nd) (ma:Option Addr) (ml mc:Nat) (u0 now0:Int) (zs:List ByteArray) (w:World) (hr:aI w d c.raw) (h8:c.vs.length<=8) (hzs:(now0<u0/\zs=cN c t c.vs)\/(¬now0<u0/\zs=[])):
  Calls Tryz.prog 31 #[.agg #[.int .i64 u0,.int .i64 now0,.string t,.string n.z,.int .i64 n.c,.int .i64 n.s,.int .i64 n.u,.bool n.d,.slice ma ml mc,.slice d.a1 d.l1 d.c1,.slice d.a2 d.l2 d.c2,.slice d.a3 d.l3 d.c3,.slice d.a4 d.l4 d.c4,.slice d.a5 d.l5 d.c5,.int .i64 c.now]] w fun e w'=> ∃a l q,e=.returned (.slice a l q)/\bE w' a l q zs (fun k=>w.heap.size<=k)/\Below w.heap.size w w':=by
 obtain⟨a1,l1,y1,a2,l2,y2,a3,l3,y3,a4,l4,y4,a5,l5,y5⟩:=d;dsimp only;obtain⟨HR,hl1,hm1,hl2,hm2,hl3,hm3,hl4,hm4,hl5,hm5⟩:=kM;clear hr;have HB:=aa (vG w.heap.size w);have HZS:=aa hzs;clear hzs;obtain⟨i0,hi,hz0,hz1,hz2⟩:=info_parts d_;have HI0:=aa (vA hi (vA hz0 (vA hz1 hz2)));clear hi hz0 hz1 hz2;have h83:l3<=8:=af
 go_enter Tryz.func31,Tryz.ntmps31;go_wp2_with fail;obtain⟨q,hq⟩:∃q,q=decide (now0<u0):=⟨_,rfl⟩;have HQ:=aa hq;clear hq;have hg:=hY u0 now0 (w.alloc (.cells #[.int .i64 u0,.int .i64 now0,.string t,.string n.z,.int .i64 n.c,.int .i64 n.s,.int .i64 n.u,.bool n.d,.slice ma ml mc,.slice a1 l1 y1,.slice a2 l2 y2,.slice a3 l3 y3,.slice a4 l4 y4,.slice a5 l5 y5,.int .i64 c.now] 70));rw[<-HQ.out] at hg;refine (hg).mono ?_;rintro e w1 ⟨rfl,hb⟩;obtain⟨HA0,hbx⟩:=aJ hb;have Bk:=aa HA0;replace HB:=upB HB hbx;clear hb hbx HA0;clear hg;cases q
 ·have hz9:zs=[]:=by rcases HZS.out with ⟨h1,_⟩|⟨_,h1⟩;exact absurd h1 (of_decide_eq_false HQ.symm);exact h1
  subst hz9;go_wp2;go_ret;refine⟨_,_,_,rfl,?_,HB.out⟩;exact⟨⟨rfl,vD _,by decide,fun j x hx=>by simp at hx,.inl rfl⟩,.inl rfl⟩
 have hz9:zs=cN c t c.vs:=by rcases HZS.out with ⟨_,h1⟩|⟨h1,_⟩;exact h1;have h2:=of_decide_eq_true (show decide (now0<u0)=true from HQ.symm);omega
 subst hz9;have hq1:w.heap.size<w1.heap.size:=ae Bk.out;obtain⟨k0,k1,k2,k3,k4,k5,k6,k7,k8,k9,k10,k11,k12,k13,k14⟩:=dj Bk.out;have ltk:=ae Bk.out;go_wp2;clear k0 k1 k2 k3 k4 k5 k6 k7 k8 k9 k10 k11 k12 k13 k14 ltk;go_loopw [3,14] (fun vo vi wr=> ∃k m9:Nat,k<=l3/\m9<=k/\vi=.int .i64 k/\Hid (wr.ownsRow (w.heap.size+1) 9 1 vo m9 ((cN c t (c.vs.take k)).map vU))/\Hid (Below w.heap.size w wr)/\Hid (wr.heap[w.heap.size]?=some (.cells #[.int .i64 u0,.int .i64 now0,.string t,.string n.z,.int .i64 n.c,.int .i64 n.s,.int .i64 n.u,.bool n.d,.slice ma ml mc,.slice a1 l1 y1,.slice a2 l2 y2,.slice a3 l3 y3,.slice a4 l4 y4,.slice a5 l5 y5,.int .i64 c.now] 70 (0,0)))) (fun _ vi _=>l3 - (intOf vi).toNat);case atStart=>exact⟨0,0,by omega,by omega,rfl,wK _ _ _ _,HB,Bk⟩
 case round=>
  obtain⟨k,m9,hk,hm9,rfl,HO,HB,Bk⟩:=hrel;have hBs:=HB.size;by_cases hlt:k<l3
  ·obtain⟨b,o,v,rfl,hb,hx,hat⟩:=bo (HR.v.below HB.out) hlt;obtain⟨va,vl,vc,hvr,z0,z2,z3,z5,c0,c1,c2,c3,c4,c5,c6,c7⟩:=aF hat;have HXv:=aa hx;have HTv:=aa hvr;have HZv0:=aa z0;have HZv2:=aa z2;have HZv3:=aa z3;have HZv5:=aa z5;clear hat hx z0 z2 z3 z5 hvr;obtain⟨k0,k1,k2,k3,k4,k5,k6,k7,k8,k9,k10,k11,k12,k13,k14⟩:=dj Bk.out;have ltk:=ae Bk.out;have HY:=aa (Bw.refl wr);go_wp2_with fail;clear k0 k1 k2 k3 k4 k5 k6 k7 k8 k9 k10 k11 k12 k13 k14 ltk;refine (bI va vl vc v.zs t _ (HTv.below (ai _ _))).mono ?_;rintro e w2 ⟨r,rfl,hi,hb⟩;obtain⟨HA0,hbx⟩:=aJ hb;replace Bk:=upK Bk hbx;have Bg:=aa HA0;replace HY:=aa (HY.below hbx);replace HB:=upB HB hbx;clear hb hbx HA0;have HI:=aa hi;clear hi c0 c1 c2 c3 c4 c5 c6 c7;cases r
   ·have hon:gA c t v=false:=by unfold gA;rw[xi];exact .inl (by cases h:inB v.zs t;rfl;(have:=HI.2 (de.1 h);cases this))
    have HO3:=aa (bf HO.out HY.out);rw[<-qo HXv.out hon] at HO3;obtain⟨k0,k1,k2,k3,k4,k5,k6,k7,k8,k9,k10,k11,k12,k13,k14⟩:=dj Bk.out;have ltk:=ae Bk.out;obtain⟨g0,g1,g2,g3,g4,g5,g6,g7⟩:=cs8 Bg;have ltg_41:=ae Bg.out;go_wp2;exact⟨⟨k+1,m9,by omega,by omega,by go_num,HO3,HB,Bk⟩,by simp[intOf];omega⟩
   obtain⟨k0,k1,k2,k3,k4,k5,k6,k7,k8,k9,k10,k11,k12,k13,k14⟩:=dj Bk.out;have ltk:=ae Bk.out;obtain⟨g0,g1,g2,g3,g4,g5,g6,g7⟩:=cs8 Bg;have ltg_41:=ae Bg.out;go_wp2_with fail;clear k0 k1 k2 k3 k4 k5 k6 k7 k8 k9 k10 k11 k12 k13 k14 ltk;refine (rK ⟨a1,l1,y1,a2,l2,y2,(some ⟨b,o,none⟩),l3,y3,a4,l4,y4,a5,l5,y5⟩ c v va vl vc t _ (HR.below HB.out)).mono ?_;rintro e w3 ⟨r,rfl,hi2,hb⟩;clear g0 g1 g2 g3 g4 g5 g6 g7 ltg_41;replace Bk:=upK Bk hb;replace Bg:=upK Bg hb;replace HY:=aa (HY.below hb);replace HB:=upB HB hb;clear hb;have HI2:=aa hi2;clear hi2;cases r
   ·have hon:gA c t v=false:=by unfold gA;rw[xi];exact .inr (by cases h:me c t v.m;rfl;(have:=HI2.2 (dS.1 h);cases this))
    have HO3:=aa (bf HO.out HY.out);rw[<-qo HXv.out hon] at HO3;obtain⟨k0,k1,k2,k3,k4,k5,k6,k7,k8,k9,k10,k11,k12,k13,k14⟩:=dj Bk.out;have ltk:=ae Bk.out;obtain⟨g0,g1,g2,g3,g4,g5,g6,g7⟩:=cs8 Bg;have ltg_42:=ae Bg.out;go_wp2;exact⟨⟨k+1,m9,by omega,by omega,by go_num,HO3,HB,Bk⟩,by simp[intOf];omega⟩
   have hon:gA c t v=true:=by unfold gA;rw[de.2 (HI.1 bM),dS.2 (HI2.1 bM)];rfl
   have HO1:=aa (bf HO.out HY.out);have hBs1:=HB.size;have hwl:=HY.le;obtain⟨k0,k1,k2,k3,k4,k5,k6,k7,k8,k9,k10,k11,k12,k13,k14⟩:=dj Bk.out;have ltk:=ae Bk.out;obtain⟨g0,g1,g2,g3,g4,g5,g6,g7⟩:=cs8 Bg;have ltg_42:=ae Bg.out;go_wp2_with (first|(at_builtin;refine wpList_append_own _ rfl _ _ 54 rfl (w.heap.size+1) 9 i0 (.string ⟨#[]⟩) 1 16 Tryz.underlying54 HI0.1 HI0.2.1 HI0.2.2.1 HI0.2.2.2 rfl ak _ _ _ rfl (HO1.alloc _) ⟨w3.heap.size,0,none⟩ 1 1 [.string v.n] rfl rfl ?c1 ?c2 ?c3 ?c4 ?c5 ?_));case c1=>
    exact sG
   case c2=>intro u hu;rw[List.mem_singleton.1 hu];rfl
   case c3=>unfold maxLen;omega
   case c4=>omega
   case c5=>simp;omega
   rintro v' w4 hown3 hgrow -;have HO3:Hid (w4.ownsRow (w.heap.size+1) 9 1 v' (m9+1) ((cN c t (c.vs.take (k+1))).map vU)):=by
    show World.ownsRow _ _ _ _ _ _ _;rw[rH HXv.out hon,List.map_append];exact hown3
   have HB3:=aa ((HB.trans ((ai w3 _).mono hBs1)).grown hgrow bU (fun g hg=>by have:=(HO1.lt g hg).1;omega));have Bk3:Hid (w4.heap[w.heap.size]?=some (.cells #[.int .i64 u0,.int .i64 now0,.string t,.string n.z,.int .i64 n.c,.int .i64 n.s,.int .i64 n.u,.bool n.d,.slice ma ml mc,.slice a1 l1 y1,.slice a2 l2 y2,.slice (some ⟨b,o,none⟩) l3 y3,.slice a4 l4 y4,.slice a5 l5 y5,.int .i64 c.now] 70 (0,0))):=by
    exact (hgrow.block _ bU (fun e=>by have:=(HO1.lt _ e.symm).1;omega)).trans ((vS _ _ _ (ae Bk.out)).trans Bk.out)
   clear hown3 hgrow;go_wp2;exact⟨⟨k+1,m9+1,by omega,by omega,by go_num,HO3,HB3,Bk3⟩,by simp[intOf];omega⟩
  ·have hkl:k=l3:=af
   have HO3:=HO;rw[vK af] at HO3;obtain⟨a',p',rfl,hT⟩:=bE.kZ HO3.out (qm HR.v);have HTO:=aa hT;clear HO3 hT HO;go_wp2;go_ret;exact⟨_,_,_,rfl,HTO.cX (fun k _ s=>by have:w.heap.size+1<=k:=s;show w.heap.size<=k;omega),HB.out⟩

def uK (c:Cl) (t:ByteArray) (E:Nat->Addr) (w0 w:World) (e:Ending) (w':World):Prop:=
 Below w.heap.size w w'/\((∃i,i<9/\cE c t i/\e=.returned (.tuple #[.agg #[.string ⟨#[]⟩,.string ⟨#[]⟩,.int .i64 0,.int .i64 0,.int .i64 0,.bool false,.slice none 0 0],.iface 208 (.pointer (some (E i)))]))\/
  (∃(x:Nd) (va:Option Addr) (vl vc:Nat),c_ c t x/\e=.returned (.tuple #[.agg #[.string x.n,.string x.z,.int .i64 x.c,.int .i64 x.s,.int .i64 x.u,.bool x.d,.slice va vl vc],.nilIface])/\av w0 va vl vc x.zs))

theorem lM (d:Ad) (c:Cl) (t:ByteArray) (E:Nat->Addr) (w0:World) (w:World) (hr0:aI w0 d c.raw) (hb0:Below w0.heap.size w0 w) (hG:Ers w E):
  Calls Tryz.prog 86 #[.agg #[.slice d.a1 d.l1 d.c1,.slice d.a2 d.l2 d.c2,.slice d.a3 d.l3 d.c3,.slice d.a4 d.l4 d.c4,.slice d.a5 d.l5 d.c5,.int .i64 c.now],.string t] w (uK c t E w0 w):=by
 have HR0:=aa hr0;have HB0:=aa hb0;have HR:=aa (hr0.below hb0);obtain⟨HE,HB⟩:=gd;clear hr0 hb0 hG;by_cases hl:8000<t.size
 ·have ev:=(HE.below (aD w (.cells (clv d c.now) 36) (.cells #[.string ⟨#[]⟩,.string ⟨#[]⟩,.int .i64 0,.int .i64 0,.int .i64 0,.bool false,.slice none 0 0] 56))).v0;go_enter Tryz.func86,Tryz.ntmps86;go_wp2_with fail;refine (qC t _ hl).mono ?_;rintro e w1 ⟨rfl,rfl⟩;go_wp2;go_region;go_wp2;exact bodyPost_ret (v:=.tuple #[.agg #[.string ⟨#[]⟩,.string ⟨#[]⟩,.int .i64 0,.int .i64 0,.int .i64 0,.bool false,.slice none 0 0],.iface 208 (.pointer (some (E 0)))]) mm rfl ⟨Below.fM (aD _ _ _),.inl ⟨0,by decide,hl,rfl⟩⟩
 go_enter Tryz.func86,Tryz.ntmps86;go_wp2_with fail;refine (rJ t _ hl).mono ?_;rintro e w1 ⟨rfl,rfl⟩;go_wp2_with fail;refine (lA d c _ (HR.below (HB.trans ((aD _ _ _).mono HB.size))) (HE.below (HB.trans ((aD _ _ _).mono HB.size))).ens).mono ?_;rintro e w1 ⟨r,rfl,hi,hb⟩;obtain⟨HA0,HA1,hbx⟩:=bN hb;have Bk:=aa HA0;have Br:=aa HA1;replace HB:=upB HB hbx;clear hb hbx HA0 HA1;have HI:=aa hi;clear hi;cases r
 ·obtain⟨k0,k1,k2,k3,k4,k5⟩:=cs6 Bk;have ltk_1:=ae Bk.out;obtain⟨r0,r1,r2,r3,r4,r5,r6⟩:=cs7 Br;have ltr_1:=ae Br.out;obtain⟨fr0,fr1,fr2,fr3,fr4,fr5⟩:=eK;have fr6:=ar Br.out 6;have ev:=(HE.below HB.out).v1;have evl:=bn HE.v1;have evn:¬9=w.heap.size+1:=af
  go_wp2;go_region;go_wp2;exact bodyPost_ret (v:=.tuple #[.agg #[.string ⟨#[]⟩,.string ⟨#[]⟩,.int .i64 0,.int .i64 0,.int .i64 0,.bool false,.slice none 0 0],.iface 208 (.pointer (some (E 1)))]) mm rfl ⟨Below.fM (sb1 (sb1 (sb1 (sb1 (sb1 (sb1 (sb1 (HB.out)))))))),.inl ⟨1,by decide,⟨hl,fun h=>(by have:=HI.2 h;cases this)⟩,rfl⟩⟩
 have HT:=aa (HI.1 bM);clear HI;obtain⟨k0,k1,k2,k3,k4,k5⟩:=cs6 Bk;have ltk_1:=ae Bk.out;go_wp2_with fail;refine (dU d c.now c.ns t w0 _ HR0.n (HB0.trans (HB.mono HB0.size))).mono ?_;rintro e w2 ⟨hb,hf⟩;clear k0 k1 k2 k3 k4 k5 ltk_1;replace Bk:=upK Bk hb;replace Br:=upK Br hb;replace HB:=upB HB hb;clear hb;rcases hf with ⟨hh,x,va,vl,vc,hx,hn,rfl,z0,z1,hvr⟩|⟨hh,rfl⟩
 ·have HX:=aa (vA hx (vA hn hvr));clear hx hn z0 z1 hh hvr;obtain⟨k0,k1,k2,k3,k4,k5⟩:=cs6 Bk;have ltk_2:=ae Bk.out;obtain⟨r0,r1,r2,r3,r4,r5,r6⟩:=cs7 Br;have ltr_2:=ae Br.out;obtain⟨fr0,fr1,fr2,fr3,fr4,fr5⟩:=eK;have fr6:=ar Br.out 6;have hrl:w.heap.size+1<w2.heap.size:=ae Br.out;go_wp2;exact bodyPost_ret (v:=.tuple #[.agg #[.string x.n,.string x.z,.int .i64 x.c,.int .i64 x.s,.int .i64 x.u,.bool x.d,.slice va vl vc],.nilIface]) mm rfl ⟨xn (sb1 (sb1 (sb1 (sb1 (sb1 (sb1 (sb1 (HB.out)))))))) gW _,.inr ⟨x,va,vl,vc,⟨hl,HT.out,HX.1,HX.2.1⟩,rfl,HX.2.2⟩⟩
 ·have HH:=aa hh;clear hh;obtain⟨k0,k1,k2,k3,k4,k5⟩:=cs6 Bk;have ltk_2:=ae Bk.out;obtain⟨r0,r1,r2,r3,r4,r5,r6⟩:=cs7 Br;have ltr_2:=ae Br.out;obtain⟨fr0,fr1,fr2,fr3,fr4,fr5⟩:=eK;have fr6:=ar Br.out 6;have ev:=(HE.below HB.out).v2;have evl:=bn HE.v2;have evn:¬3=w.heap.size+1:=af
  have evl2:3<w2.heap.size:=bn ev;have hrl:w.heap.size+1<w2.heap.size:=ae Br.out;go_wp2;go_region;go_wp2;exact bodyPost_ret (v:=.tuple #[.agg #[.string ⟨#[]⟩,.string ⟨#[]⟩,.int .i64 0,.int .i64 0,.int .i64 0,.bool false,.slice none 0 0],.iface 208 (.pointer (some (E 2)))]) mm rfl ⟨Below.fM (xn (sb1 (sb1 (sb1 (sb1 (sb1 (sb1 (sb1 (HB.out)))))))) gW _),.inl ⟨2,by decide,⟨hl,HT.out,HH.out⟩,rfl⟩⟩

end Rc
end Go.Proofs.YtjgjhkkmlaacdaaGreatDoor

namespace Go.Proofs.YtjgjhkkmlaacdaaGreatDoor
open Go.RowKit
namespace Gs

section
variable {SR:World->World->Prop} {t4:Tmp} {Ψ:Fact} {P:Program} {ops:Array Oper} {Q:Exit->Act->World->Prop} {W:World} {a0:Act} {back:Option Oper}
theorem dH {listed:Array Bool} (hs:listed.size=ops.size) (hlt:∀(j:Nat) o,ops[j]?=some o->∀e∈o.after,Region.binds .any e=true->e.on<j) (hr:wC .any ops listed=[]):∀i,i<ops.size->listed.getD i false=true:=by
 intro i;induction i using Nat.strongRecOn with
 | _ i ih=>
  intro hi
  cases hb:listed.getD i false with
  | true=>rfl
  | false=>
   have ho:ops[i]?=some ops[i]:=Array.getElem?_eq_getElem hi;have hm:i∈wC .any ops listed:=mem_ready.2 ⟨by rw[<-bK af];exact hb,_,ho,fun e he hbe=>ih e.on (hlt i _ ho e he hbe) (Nat.lt_trans (hlt i _ ho e he hbe) hi)⟩;rw[hr] at hm
   cases hm

structure At (t4:Tmp) (Ψ:Fact) (front:List Oper) (φs:List Fact) (W:World) (a0:Act) (listed:Array Bool) (a:Act) (w:World):Prop where
 old:Go.Proofs.YtjgjhkkmlaacdaaGreatDoor.At front φs W a0 listed a w
 sto:∀(i:Nat) (o:Oper),front[i]?=some o->o.dst=none->listed.getD i false=true->Ψ (a.tmps.getD t4 undef) w/\∀(i':Nat) (p:Oper),front[i']?=some p->p.dst=some t4->listed.getD i' false=true

theorem uh {listed:Array Bool} {i j:Nat} (h:listed.getD i false=true):(listed.setIfInBounds j true).getD i false=true:=by
 by_cases e:j=i
 ·subst e;simp only[vJ,vY];split
  ·split
   ·rfl
   ·simp[vJ] at h;next hx=>
     have:listed[j]?=none:=Array.getElem?_eq_none_iff.2 af;rw[this] at h
     cases h
  ·contradiction
 ·simpa[vJ,vY,e] using h
theorem ue {listed:Array Bool} {i j:Nat} (e:¬j=i) (h:(listed.setIfInBounds j true).getD i false=true):listed.getD i false=true:=by
 simpa[vJ,vY,e] using h

end
structure Form (W w w':World):Prop where
 low:Below W.heap.size w w'
 form:∀(k:Nat) (cs:Array Value) (T:TypeId),w.heap[k]?=some (.cells cs T (0,0))->∃cs',cs'.size=cs.size/\w'.heap[k]?=some (.cells cs' T (0,0))
end Gs
end Go.Proofs.YtjgjhkkmlaacdaaGreatDoor

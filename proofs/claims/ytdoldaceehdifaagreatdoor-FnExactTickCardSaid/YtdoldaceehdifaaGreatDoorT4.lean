import Derived.Test.YtdoldaceehdifaaGreatDoorT3
import Derived.Deep.AppendLies
import Derived.Laws.CopyRow
import Derived.Laws.Tables
import Derived.Laws.Rows
import Derived.Laws.CopyOwn
import Derived.Stop.LaidErr
import Derived.ChangeVars
import Derived.Deep.Strs
import Derived.Deep.Fields
import Derived.WideShapes
import Derived.ChangeArms
/-
 Things and lists of them in memory of their own, as the program makes them.
-/
set_option maxRecDepth 100000
set_option maxHeartbeats 12800000
open And renaming intro→qD
open Array renaming getElem?_push_size→qN, getD_eq_getD_getElem?→qX, getElem?_eq_some_iff→ra, getElem?_setIfInBounds→rb
open Go.Calls renaming quiet_of_same→qW
open Go.DataW renaming trod_string→rf, trod→rF, trod_int→rS, trod_bool→rX
open Go.Region renaming ready→rC, wanted→rY
open Go.RowKit.Below renaming heap_setCell→qH, refl→qI, heap_alloc→qY, size→rR
open Go.Value renaming string→qV
open Go.World renaming setCell→re, cell?_of_block→rr, ownsRow_nil→rv, cells?_some→rH, cell?→rN
open Int renaming le_trans→qZ, add_assoc→rj
open List renaming getElem?_eq_some_iff→qE, getElem?_eq_getElem→qJ, take_of_length_le→qM, lookup→qS, getElem?_map→qT, getElem?_take→rh, take_add_one→rm, eq_nil_of_length_eq_zero→rn, getElem?_eq_none→rp, setIfInBounds_toArray→rq, not_mem_nil→ru, mem_cons→ry, set_cons_zero→rE, drop_eq_getElem_cons→rM, forall_mem_cons→rP, set_cons_succ→rU
open Nat renaming le_refl→qF, le_trans→qK, lt_of_lt_of_le→qO, le_succ→qU, zero_add→rA
open Option renaming map_eq_some_iff→qL
open Option.some renaming inj→qG, injEq→ri
open Prod.mk renaming injEq→rZ
namespace Go.Proofs.YtdoldaceehdifaaGreatDoor
theorem lA {p:Prop} (h:p:=by simp[results,Tryz.results10,go_sem, *]):p:=h
theorem lz {p:Prop} (h:p:=by simp[results,Tryz.results11,go_sem, *]):p:=h
end Go.Proofs.YtdoldaceehdifaaGreatDoor
namespace Go.Proofs.YtdoldaceehdifaaGreatDoor
theorem ix {p:Prop} (h:p:=by
 obtain⟨f,hf⟩:=choose_lt each;refine⟨some ⟨b,o,none⟩,len,cap,(List.range len).map f,by simpa using hcs,by simp,hl,hm',.inr ⟨b,o,rfl,hblt,fun j r hj=>?_⟩⟩;rw[qT,qT] at hj;by_cases hjl:j<len
 ·rw[List.getElem?_range hjl] at hj;obtain rfl:=qG hj;exact hf j hjl
 ·rw[rp cC] at hj;cases hj):p:=h
theorem pd {p:Prop} (h:p:=by
 obtain⟨k0,k1,k2,k3,k4,k5⟩:=cs6 Bk;have ltk_1:=ab Bk.out;go_wp2_with fail;refine (gH 8 _).mono ?_;rintro e w2 ⟨rfl,hb⟩;clear k0 k1 k2 k3 k4 k5 ltk_1;replace Bk:=upK Bk hb;replace Br:=upK Br hb;replace HB:=upB HB hb;clear hb;obtain⟨r0,r1,r2,r3,r4,r5,r6,r7⟩:=cs8 Br;have ltr_2:=ab Br.out;obtain⟨fr0,fr1,fr2,fr3,fr4,fr5⟩:=er;have fr6:=au Br.out 6;have fr7:=au Br.out 7;have hrl:w.heap.size+1<w2.heap.size:=ab Br.out;go_wp2;exact bodyPost_ret (v:=.agg #[.slice none 0 0,.slice none 0 0,.slice none 0 0,.slice none 0 0,.slice none 0 0,.int .i64 0,.string ⟨#[]⟩,.int .i64 8]) lA rfl ⟨ad0,co0 8,rfl,HV.out,(rl0 _ _),sb1 (sb1 (sb1 (sb1 (sb1 (sb1 (sb1 (sb1 (HB.out))))))))⟩):p:=h
theorem pb {p:Prop} (h:p:=by
 obtain⟨k0,k1,k2,k3,k4,k5⟩:=cs6 Bk;have ltk_1:=ab Bk.out;obtain⟨r0,r1,r2,r3,r4,r5,r6,r7⟩:=cs8 Br;have ltr_1:=ab Br.out;obtain⟨fr0,fr1,fr2,fr3,fr4,fr5⟩:=er;have fr6:=au Br.out 6;have fr7:=au Br.out 7;have hrl:w.heap.size+1<w1.heap.size:=ab Br.out;go_wp2;exact bodyPost_ret (v:=.agg #[.slice none 0 0,.slice none 0 0,.slice none 0 0,.slice none 0 0,.slice none 0 0,.int .i64 0,.string ⟨#[]⟩,.int .i64 8]) lz rfl ⟨ad0,co0 8,rfl,HV.out,pB _ _,sb1 (sb1 (sb1 (sb1 (sb1 (sb1 (sb1 (sb1 (HB.out))))))))⟩):p:=h
theorem eP {p:Prop} (h:p:=by
 go_simp;refine hK _ _ (Rv.other aj (qI _ _)) ?_;with_reducible rfl):p:=h
theorem mb {p:Prop} (h:p:=by
 rw[<-e1] at hV;have HV3:=aa hV;have HB3:=aa ((HB.trans (hb23.mono hBs)).grown hgrow cC (fun g hg=>(HO2.lt g hg).1));clear hown3 hgrow hb23 hV e1;go_wp2;exact⟨⟨k+1,_,_,by omega,by go_num,HO3,HV3,HB3⟩,by simp[intOf];omega⟩):p:=h
theorem oT {p:Prop} (h:p:=by
 rw[<-e1] at hs3;have HS1:=aa hs1;have HS2:=aa hs2';have HS3:=aa hs3;have HS4:=aa hs4;obtain⟨o0,o1,o2,o3,o4,o5⟩:=cs6 bo5;have fo0:=au bo5 0;have fo2:=au bo5 2;have fo4:=au bo5 4;clear hs1 hs2' hs3 hs4 bo5 hown5 hgrow e1;go_wp2;exact⟨⟨k+1,_,H',_,by omega,by go_num,HS1,HS2,HS3,HS4⟩,by simp[intOf];omega⟩):p:=h
theorem ib {p:Prop} (h:p:=by
 cases hi;exact⟨_,(hc 0 ae).trans e0,rfl,show b0.size<=_ by omega⟩):p:=h
theorem lT {p:Prop} (h:p:=by
 rintro e w6 ⟨a',c',rfl,ho,hb6⟩;exact hK _ _ hb6 ⟨a',c',rfl,ho.eA (fun k hk s=>⟨s,hk⟩),rR hW⟩):p:=h
theorem lR {p:Prop} (h:p:=by
 rw[hl5] at HR5;rw[hl5];clear h5 hR HV HO;go_wp2;go_ret;exact⟨a',c',rfl,HR5.out,HB.out⟩):p:=h
theorem oB {p:Prop} (h:p:=by
 intro a' c' w' hR hb6;have hsw:=hW.size;exact hK _ _ hb6 ⟨a',c',rfl,hR.eA (fun k _ s=>by show W.heap.size<=k;rcases s with rfl|s <;> omega)⟩):p:=h
theorem lO {p:Prop} (h:p:=by
 cases hi;exact⟨_,(hc 2 ae).trans e2,rfl,show b2.size<=_ by omega⟩):p:=h
theorem mF {p:Prop} (h:p:=by
 rw[e] at g;exact⟨_,xs[i]'(by omega),qJ hlc,by rw[g,qJ]⟩):p:=h
theorem eW {p:Prop} (h:p:=by
 obtain⟨_,hl0,hc0⟩:=rH k1;have:=hc0 0 ae;rw[qJ ae] at this;rcases Nat.lt_or_ge b w.heap.size with h1|h1
 ·exact h1
 ·simp[Addr.add,rN,Array.getElem?_eq_none h1] at this):p:=h
theorem ea {p:Prop} (h:p:=by
 refine Gi.Obl.plain rfl ?_;intro ac wg K lo hi hsz hW hpr hf hap hK;clear hsz hap hpr;have e1:=hf 1 aj;simp[Gi.av,qS] at e1;clear hf;exact cM):p:=h
theorem eV {p:Prop} (h:p:=by
 obtain⟨_,hl0,hc0⟩:=rH k1;have:=hc0 0 ae;rw[qJ ae] at this;simpa[Addr.add] using World.cell?_spot this):p:=h
theorem d_ {p:Prop} (h:p:=by
 clear hf;obtain⟨k0,k1,k2,k3,k4,k5⟩:=cs6 ((Below.block hW _ (ab Bk.out)).trans Bk.out);exact cM):p:=h
theorem fQ {p:Prop} (h:p:=by
 clear hf;obtain⟨k0,k1,k2,k3,k4,k5⟩:=cs6 ((hW.block _ (ab Bk.out)).trans Bk.out);exact cM):p:=h
theorem eS {p:Prop} (h:p:=by
 have:=hc0 j hj;rw[add_add,Addr.add_lit] at this;rw[Nat.add_assoc];exact this):p:=h
theorem jb {p:Prop} (h:p:=by
 refine Obl.plain rfl ?_;intro ac wg K hsz hW hf hK;clear hsz;have e1:=hf 1 aj;simp[av,qS] at e1;clear hf;exact cM):p:=h
theorem eR {p:Prop} (h:p:=by
 exact⟨none,0,0,[],by simpa using hcs,rfl,qF _,by omega,.inl rfl⟩):p:=h
theorem eQ {p:Prop} (h:p:=by
 subst h0;exact⟨some a,0,cap,[],by simpa using hcs,rfl,hl,hm',.inl rfl⟩):p:=h
theorem mu {p:Prop} (h:p:=by
 refine Gi.Obl.plain rfl ?_;intro ac wg K lo hi hsz hW hpr hf hap hK;clear hsz hap hpr;have hW:wr.grownBy wg v.ownBlock:=hW;have e3:=hf 3 aj;simp[Gi.av,qS] at e3;clear hf;exact eP):p:=h
theorem ja {p:Prop} (h:p:=by
 show World.ownsRow _ _ _ _ _ _ _;rw[List.flatten_append];simpa using hown3):p:=h
theorem er {p:Prop} (h:p:=by
 have fr0:=au Br.out 0;have fr1:=au Br.out 1;have fr2:=au Br.out 2;have fr3:=au Br.out 3;have fr4:=au Br.out 4;have fr5:=au Br.out 5;exact qD fr0 (qD fr1 (qD fr2 (qD fr3 (qD fr4 fr5))))):p:=h
theorem oo {p:Prop} (h:p:=by
 have Ck:=aa ((hk.block (w.heap.size) (ab Bk.out) (fun s=>by have s1:=s.1;have s2:=s.2;have q3:=HQ3.out;have q4:=HQ4.out;have q5:=HQ5.out;omega)).trans Bk.out);have Ca:=aa ((hk.block (w3.heap.size) (ab Ba.out) (fun s=>by have s1:=s.1;have s2:=s.2;have q3:=HQ3.out;have q4:=HQ4.out;have q5:=HQ5.out;omega)).trans Ba.out);have Cx:=aa ((hk.block (w4.heap.size) (ab Bx.out) (fun s=>by have s1:=s.1;have s2:=s.2;have q3:=HQ3.out;have q4:=HQ4.out;have q5:=HQ5.out;omega)).trans Bx.out);have Cg:=aa ((hk.block (w5.heap.size) (ab Bg.out) (fun s=>by have s1:=s.1;have s2:=s.2;have q3:=HQ3.out;have q4:=HQ4.out;have q5:=HQ5.out;omega)).trans Bg.out);exact qD Ck (qD Ca (qD Cx Cg))):p:=h
theorem fw {p:Prop} (h:p:=by
 have hlm:len<=m:=by rw[hmm];split <;> omega
 have hm':cap<=9223372036854775807:=by unfold maxLen at hm;omega
 exact qD hlm hm'):p:=h
theorem lL {p:Prop} (h:p:=by
 have hXs:=HBX.size;have HBW:=aa (HBX.trans (HK.low (X:=w.heap.size) hXs (fun k s=>by rcases s with rfl|s <;> omega)));have BkR:=aa ((HK.block w.heap.size ae (fun s=>by rcases s with s|s <;> omega)).trans Bk.out);have hKs:=HK.size;exact qD hXs (qD HBW (qD BkR hKs))):p:=h
theorem lI {p:Prop} (h:p:=by
 have HG:=aa hg;have HX2:=aa hbx;have HO2:=aa (bK HO.out hbx);have hs2:wr.heap.size<w2.heap.size:=by have:=hb2.size;rw[eh] at this;omega
 exact qD HG (qD HX2 (qD HO2 hs2))):p:=h
theorem nZ {p:Prop} (h:p:=by
 have Br:Hid (W.heap[w.heap.size+1]?=some (.cells (clo6 none 0 0 none 0 0 none 0 0 none 0 0 none 0 0 0) 37 (0,0))):=by rw[hW0];exact bs _ _ _
 have hWs:W.heap.size=w.heap.size+1+1:=by rw[hW0];simp
 exact qD Br hWs):p:=h
theorem nT {p:Prop} (h:p:=by
 have hs2:wr.heap.size+1<w2.heap.size:=by have:=hb2.size;simp at this;omega
 have hsl:∀k,(k=wr.heap.size+1\/wr.heap.size+1+1<=k)->wr.heap.size+1<=k:=fun k s=>by omega
 exact qD hs2 hsl):p:=h
theorem nS {p:Prop} (h:p:=by
 have HV:Hid (bw c n ⟨later c n,⟨#[]⟩,0⟩):=.inr (.inr ⟨HT.out,⟨⟨hi0,hi1⟩,by omega⟩,rfl⟩);have HS:=aa HT.sm;have HQ1:Hid (w.heap.size+1<w1.heap.size):=ab Br.out;exact qD HV (qD HS HQ1)):p:=h
theorem lE {p:Prop} (h:p:=by
 have hz8:vl<=8001:=by have h1:=hvr.1;have h2:=HS.out k x hx;omega
 have HX:=aa hx;have HT:=aa hvr;have HZz0:=aa z0;exact qD hz8 (qD HX (qD HT HZz0))):p:=h
theorem nR {p:Prop} (h:p:=by
 have HG:Hid (∀zs:List ByteArray,x.zs=zs->zs≠[]->wr.heap.size<=g):=fun zs e hz=>by subst e;have:=hsl _ (hg.lt hz).1;omega
 have HB4:=aa hb4;have HO4:=aa (bK HO.out hb4);exact qD HG (qD HB4 HO4)):p:=h
end Go.Proofs.YtdoldaceehdifaaGreatDoor
namespace Go.Proofs.YtdoldaceehdifaaGreatDoor
open Go.RowKit
namespace Rc
open Mk

theorem bN.fr {w:World} {a:Option Addr} {l c:Nat} {zs:List ByteArray} {S:Nat->Prop} (h:bN w a l c zs S):∃g,LFr w g S zs (.slice a l c):=by
 obtain⟨⟨h1,h2,h3,h4,h5⟩,h6⟩:=h;rcases h6 with rfl|⟨g,cur,rfl,hS,hg⟩
 ·exact⟨0,_,_,_,rfl,h1,h2,h3,h4,.inl rfl⟩
 ·refine⟨g,_,_,_,rfl,h1,h2,h3,h4,h5.imp id ?_⟩;rintro⟨b,o,e,hlt,hc⟩;cases e;exact⟨rfl,hS,cur,hg,fun j x hx=>by have:=hc j x hx;rw[aE hg,rA] at this;exact this⟩
theorem LFr.lt {w:World} {h:Nat} {S:Nat->Prop} {zs:List ByteArray} {v:Value} (k:LFr w h S zs v) (hz:zs≠[]):S h/\h<w.heap.size:=by
 obtain⟨a',l',c',h1,h2,h3,h4,h5,h6⟩:=k;rcases h6 with h6|⟨_,q2,cu,q4,_⟩
 ·exact absurd h6 hz
 ·exact⟨q2,ab q4⟩
theorem cE (w:World) (vs:List Value) (T:TypeId):∀(j:Nat) u,vs[j]?=some u->(w.alloc (.cells vs.toArray T)).cell? ((⟨w.heap.size,0,none⟩:Addr).add j)=some u:=by
 intro j u hu;rw[Addr.add_lit,aE (heap_alloc_new w _),rA];simpa using hu
theorem aO.app {w W w':World} {S:Nat->Prop} {m:Nat} {rs:List (List Fv)} {vss:List (List Value)} {H:Nat->Nat->Nat} {base n:Nat} {T:TypeId} {v:Value} {xs:List Value} (h:aO w S m rs vss H) (hb:Below w.heap.size w W) (ho:W.ownsRow base T m v n xs) (hT:¬T=9) (hg:W.grownBy w' v.ownBlock)
  {r:List Fv} {vs:List Value} {hh:Nat} (hr:r.length=m) (hvs:vs.length=m) (hc:∀(i:Nat) f,r[i]?=some f->∃v,vs[i]?=some v/\f.Fr W hh S v) (hfr:∀(i:Nat) zs,r[i]?=some (.l zs)->zs≠[]->w.heap.size<=hh)
  (h1:∀(i i':Nat) zs zs',r[i]?=some (.l zs)->zs≠[]->r[i']?=some (.l zs')->zs'≠[]->i=i'):aO w' S m (rs++[r]) (vss++[vs]) (fun j=>if j=rs.length then fun _=>hh else H j):=
 ((h.below hb).push hr hvs hc (fun i zs a b j r' i' zs' c d e q=>by have q1:=h.lt c d e;have q2:=hfr i zs a b;omega) h1).grown ho hT hg

theorem kU {x:Nd} {i:Nat} {zs:List ByteArray} (h:(ndF x)[i]?=some (.l zs)):i=6/\zs=x.zs:=by
 rcases i with _|_|_|_|_|_|_|i
 ·cases h
 ·cases h
 ·cases h
 ·cases h
 ·cases h
 ·cases h
 ·cases h;exact⟨rfl,rfl⟩
 ·simp[ndF] at h
theorem ph {w:World} {x:Nd} {g:Nat} {Q:Nat->Prop} {a:Option Addr} {l c:Nat} (hn:x.n.size<=9223372036854775807) (hz:x.z.size<=9223372036854775807) (hl:LFr w g Q x.zs (.slice a l c)):∀(i:Nat) f,(ndF x)[i]?=some f->∃v,[.string x.n,.string x.z,.int .i64 x.c,.int .i64 x.s,.int .i64 x.u,.bool x.d,.slice a l c][i]?=some v/\f.Fr w g Q v:=by
 intro i f h;rcases i with _|_|_|_|_|_|_|i
 ·cases h;exact⟨_,rfl,rfl,hn⟩
 ·cases h;exact⟨_,rfl,rfl,hz⟩
 ·cases h;exact⟨_,rfl,rfl⟩
 ·cases h;exact⟨_,rfl,rfl⟩
 ·cases h;exact⟨_,rfl,rfl⟩
 ·cases h;exact⟨_,rfl,rfl⟩
 ·cases h;exact⟨_,rfl,hl⟩
 ·simp[ndF] at h

theorem jz (x:Nd) (va:Option Addr) (vl vc:Nat) (w:World) (hr:an w va vl vc x.zs) (hl:vl<=8001):
  Calls Tryz.prog 92 #[.agg #[.string x.n,.string x.z,.int .i64 x.c,.int .i64 x.s,.int .i64 x.u,.bool x.d,.slice va vl vc]] w fun e w'=> ∃a' l' c',e=.returned (.agg #[.string x.n,.string x.z,.int .i64 x.c,.int .i64 x.s,.int .i64 x.u,.bool x.d,.slice a' l' c'])/\bN w' a' l' c' x.zs (fun k=>w.heap.size<=k)/\Below w.heap.size w w':=by
 obtain⟨HR,HB⟩:=eM;clear hr;go_enter Tryz.func92,Tryz.ntmps92;go_wp2_with fail;refine (Ap.fS va vl vc x.zs _ (HR.below (HB.trans ((aF _ _ _).mono HB.size))) hl).mono ?_;rintro e w1 ⟨a',l',c',rfl,h1,h2,hb⟩;obtain⟨HA0,HA1,hbx⟩:=cx hb;have Bp:=aa HA0;have Br:=aa HA1;replace HB:=upB HB hbx;clear hb hbx HA0 HA1;have HO:Hid (bN w1 a' l' c' x.zs (fun k=>w.heap.size+1+1<=k)):=⟨h1,h2.imp id fun ⟨g,cur,e1,e2,e3⟩=>⟨g,cur,e1,by simpa using e2,e3⟩⟩;clear h1 h2;obtain⟨p0,p1,p2,p3,p4,p5,p6⟩:=cs7 Bp;obtain⟨r0,r1,r2,r3,r4,r5,r6⟩:=cs7 Br;obtain⟨fr0,fr1,fr2,fr3,fr4,fr5⟩:=er;have fp6:=au Bp.out 6;have fr6:=au Br.out 6;go_wp2_with fail;refine bodyPost_ret (v:=.agg #[.string x.n,.string x.z,.int .i64 x.c,.int .i64 x.s,.int .i64 x.u,.bool x.d,.slice a' l' c']) (by simp[results,Tryz.results92,go_sem, *]) rfl ⟨a',l',c',rfl,HO.aG (fun k _ s=>by have s1:w.heap.size+1+1<=k:=s;rw[qH _ _ _ _ (show k≠w.heap.size+1 by omega),qH _ _ _ _ (show k≠w.heap.size+1 by omega),qH _ _ _ _ (show k≠w.heap.size+1 by omega),qH _ _ _ _ (show k≠w.heap.size+1 by omega),qH _ _ _ _ (show k≠w.heap.size+1 by omega),qH _ _ _ _ (show k≠w.heap.size+1 by omega),qH _ _ _ _ (show k≠w.heap.size+1 by omega),qH _ _ _ _ (show k≠w.heap.size by omega)]) (fun k _ s=>by have s1:w.heap.size+1+1<=k:=s;show w.heap.size<=k;omega),sb1 (sb1 (sb1 (sb1 (sb1 (sb1 (sb1 (af (qF _) (HB.out))))))))⟩

theorem ga (a:Option Addr) (len cap:Nat) (xs:List Nd) (w:World) (hr:ay w a len cap 7 (xs.map ndF)) (hl:len<=8) (hs:∀(j:Nat) x,xs[j]?=some x->x.zs.length<=8001):
  Calls Tryz.prog 91 #[.slice a len cap,.func (.func 92) #[] #[]] w fun e w'=> ∃a' c',e=.returned (.slice a' len c')/\aw w' a' len c' 7 72 (xs.map ndF) (fun k=>w.heap.size<=k)/\Below w.heap.size w w':=by
 have HR:=aa hr;have HS:=aa hs;have hxl:xs.length=len:=cQ
 clear hr hs;obtain⟨i0,hi,hz0,hz1,hz2⟩:=info_parts jD;have HI0:=aa (qD hi (qD hz0 (qD hz1 hz2)));clear hi hz0 hz1 hz2;go_enter Tryz.func91,Tryz.ntmps91;go_wp2;go_loopw [5,10] (fun vo vi wr=> ∃(k:Nat) (vss:List (List Value)) (H:Nat->Nat->Nat),k<=len/\vi=.int .i64 k/\Hid (wr.ownsRow w.heap.size 72 7 vo k vss.flatten)/\Hid (aO wr (fun k=>w.heap.size<=k) 7 ((xs.take k).map ndF) vss H)/\Hid (Below w.heap.size w wr)) (fun _ vi _=>len - (intOf vi).toNat);case atStart=>exact⟨0,[],fun _ _=>0,by omega,rfl,rv _ _ _ _,aO.nil _ _ _ _,qI _ _⟩
 case round=>
  obtain⟨k,vss,H,hk,rfl,HO,HV,HB⟩:=hrel;have hBs:=HB.size;by_cases hlt:k<len
  ·obtain⟨b,o,x,rfl,hb,hx,hat⟩:=bp (HR.below HB.out) hlt;obtain⟨va,vl,vc,hvr,z0,z1,c0,c1,c2,c3,c4,c5,c6⟩:=aH hat;obtain⟨hz8,HX,HT,HZz0⟩:=lE;have HZz1:=aa z1;clear hat hx hvr z0 z1;go_wp2_with fail;refine (jz x va vl vc _ (HT.below (ai _ _)) hz8).mono ?_;rintro e w2 ⟨a',l',c',rfl,ho,hb2⟩;obtain⟨-,hbx⟩:=aJ hb2;rw[eh] at ho;obtain⟨g,hg⟩:=ho.fr;obtain⟨HG,HX2,HO2,hs2⟩:=lI;clear ho hb2 hbx hg hb c0 c1 c2 c3 c4 c5 c6;go_wp2_with (first|(at_builtin;refine wpList_append_own _ rfl _ _ 31 rfl w.heap.size 72 i0 (.agg #[.string ⟨#[]⟩,.string ⟨#[]⟩,.int .i64 0,.int .i64 0,.int .i64 0,.bool false,.slice none 0 0]) 7 88 Tryz.underlying31 HI0.1 HI0.2.1 HI0.2.2.1 HI0.2.2.2 rfl aj _ _ _ rfl (HO2.alloc _) ⟨w2.heap.size,0,none⟩ 1 1 [.string x.n,.string x.z,.int .i64 x.c,.int .i64 x.s,.int .i64 x.u,.bool x.d,.slice a' l' c'] rfl rfl ?c1 ?c2 ?c3 ?c4 ?c5 ?_));case c1=>exact cE _ _ _
   case c2=>intro u hu;simp only[ry,ru,or_false] at hu;rcases hu with rfl|rfl|rfl|rfl|rfl|rfl|rfl <;> rfl
   case c3=>unfold maxLen;omega
   case c4=>omega
   case c5=>simp;omega
   rintro v' w3 hown3 hgrow -;have HO3:Hid (w3.ownsRow w.heap.size 72 7 v' (k+1) (vss++([[.string x.n,.string x.z,.int .i64 x.c,.int .i64 x.s,.int .i64 x.u,.bool x.d,.slice a' l' c']]:List (List Value))).flatten):=by
    exact ja
   have hb23:Below wr.heap.size wr (w2.alloc (.cells (nov x a' l' c') 72)):=HX2.trans ((ai _ _).mono (Nat.le_of_lt hs2));have hV:=HV.app (r:=ndF x) (vs:=[.string x.n,.string x.z,.int .i64 x.c,.int .i64 x.s,.int .i64 x.u,.bool x.d,.slice a' l' c']) (hh:=g) hb23 (HO2.alloc _) aj hgrow rfl rfl
    (ph HZz0.out HZz1.out (HG.aG (S':=fun k=>w.heap.size<=k) (fun cu _ q=>qY _ _ _ (ab q)) (fun _ s=>by have s1:wr.heap.size+1<=g:=s;show w.heap.size<=g;omega)))
    (fun i zs hi hz=>by obtain⟨_,rfl⟩:=kU hi;have s1:wr.heap.size+1<=g:=(HG.lt hz).1;omega) (fun i i' zs zs' h1 _ h2 _=>(kU h1).1.trans (kU h2).1.symm)
   have e1:(xs.take (k+1)).map ndF=(xs.take k).map ndF++[ndF x]:=by rw[rm,HX.out];simp
   exact mb
  ·obtain rfl:len=k:=ae
   have h5:=HV.out;rw[qM ae] at h5;obtain⟨a',c',rfl,hR⟩:=h5.own HO.out (by simp[hxl]) aj (fun g hg=>(HO.lt g hg).1);have HR5:=aa hR;have hl5:(xs.map ndF).length=len:=by simpa using hxl
   exact lR

theorem kI {x:Vd} {i:Nat} {zs:List ByteArray} (h:(vdF x)[i]?=some (.l zs)):i=7/\zs=x.zs:=by
 rcases i with _|_|_|_|_|_|_|_|i
 ·cases h
 ·cases h
 ·cases h
 ·cases h
 ·cases h
 ·cases h
 ·cases h
 ·cases h;exact⟨rfl,rfl⟩
 ·simp[vdF] at h
theorem nO {w:World} {x:Vd} {g:Nat} {Q:Nat->Prop} {a:Option Addr} {l c:Nat} (hn:x.n.size<=9223372036854775807) (hz:x.z.size<=9223372036854775807) (hk:x.k.size<=9223372036854775807) (hm:x.m.size<=9223372036854775807) (hl:LFr w g Q x.zs (.slice a l c)):∀(i:Nat) f,(vdF x)[i]?=some f->∃v,[.string x.n,.int .i64 x.c,.string x.z,.string x.k,.bool x.x,.string x.m,.bool x.y,.slice a l c][i]?=some v/\f.Fr w g Q v:=by
 intro i f h;rcases i with _|_|_|_|_|_|_|_|i
 ·cases h;exact⟨_,rfl,rfl,hn⟩
 ·cases h;exact⟨_,rfl,rfl⟩
 ·cases h;exact⟨_,rfl,rfl,hz⟩
 ·cases h;exact⟨_,rfl,rfl,hk⟩
 ·cases h;exact⟨_,rfl,rfl⟩
 ·cases h;exact⟨_,rfl,rfl,hm⟩
 ·cases h;exact⟨_,rfl,rfl⟩
 ·cases h;exact⟨_,rfl,hl⟩
 ·simp[vdF] at h

theorem jx (x:Vd) (va:Option Addr) (vl vc:Nat) (w:World) (hr:an w va vl vc x.zs) (hl:vl<=8001):
  Calls Tryz.prog 94 #[.agg #[.string x.n,.int .i64 x.c,.string x.z,.string x.k,.bool x.x,.string x.m,.bool x.y,.slice va vl vc]] w fun e w'=> ∃a' l' c',e=.returned (.agg #[.string x.n,.int .i64 x.c,.string x.z,.string x.k,.bool x.x,.string x.m,.bool x.y,.slice a' l' c'])/\bN w' a' l' c' x.zs (fun k=>w.heap.size<=k)/\Below w.heap.size w w':=by
 refine (Ap.pT x.n x.c x.z x.k x.x x.m x.y va vl vc x.zs w hr hl).mono ?_;rintro e w' ⟨a',l',c',rfl,h1,h2,hb⟩;exact⟨a',l',c',rfl,⟨h1,h2⟩,hb⟩

theorem fZ (a:Option Addr) (len cap:Nat) (xs:List Vd) (w:World) (hr:ay w a len cap 8 (xs.map vdF)) (hl:len<=8) (hs:∀(j:Nat) x,xs[j]?=some x->x.zs.length<=8001):
  Calls Tryz.prog 93 #[.slice a len cap,.func (.func 94) #[] #[]] w fun e w'=> ∃a' c',e=.returned (.slice a' len c')/\aw w' a' len c' 8 118 (xs.map vdF) (fun k=>w.heap.size<=k)/\Below w.heap.size w w':=by
 have HR:=aa hr;have HS:=aa hs;have hxl:xs.length=len:=cQ
 clear hr hs;obtain⟨i0,hi,hz0,hz1,hz2⟩:=info_parts jB;have HI0:=aa (qD hi (qD hz0 (qD hz1 hz2)));clear hi hz0 hz1 hz2;go_enter Tryz.func93,Tryz.ntmps93;go_wp2;go_loopw [5,10] (fun vo vi wr=> ∃(k:Nat) (vss:List (List Value)) (H:Nat->Nat->Nat),k<=len/\vi=.int .i64 k/\Hid (wr.ownsRow w.heap.size 118 8 vo k vss.flatten)/\Hid (aO wr (fun k=>w.heap.size<=k) 8 ((xs.take k).map vdF) vss H)/\Hid (Below w.heap.size w wr)) (fun _ vi _=>len - (intOf vi).toNat);case atStart=>exact⟨0,[],fun _ _=>0,by omega,rfl,rv _ _ _ _,aO.nil _ _ _ _,qI _ _⟩
 case round=>
  obtain⟨k,vss,H,hk,rfl,HO,HV,HB⟩:=hrel;have hBs:=HB.size;by_cases hlt:k<len
  ·obtain⟨b,o,x,rfl,hb,hx,hat⟩:=bf (HR.below HB.out) hlt;obtain⟨va,vl,vc,hvr,z0,z2,z3,z5,c0,c1,c2,c3,c4,c5,c6,c7⟩:=aA hat;obtain⟨hz8,HX,HT,HZz0⟩:=lE;have HZz2:=aa z2;have HZz3:=aa z3;have HZz5:=aa z5;clear hat hx hvr z0 z2 z3 z5;go_wp2_with fail;refine (jx x va vl vc _ (HT.below (ai _ _)) hz8).mono ?_;rintro e w2 ⟨a',l',c',rfl,ho,hb2⟩;obtain⟨-,hbx⟩:=aJ hb2;rw[eh] at ho;obtain⟨g,hg⟩:=ho.fr;obtain⟨HG,HX2,HO2,hs2⟩:=lI;clear ho hb2 hbx hg hb c0 c1 c2 c3 c4 c5 c6 c7;go_wp2_with (first|(at_builtin;refine wpList_append_own _ rfl _ _ 33 rfl w.heap.size 118 i0 (.agg #[.string ⟨#[]⟩,.int .i64 0,.string ⟨#[]⟩,.string ⟨#[]⟩,.bool false,.string ⟨#[]⟩,.bool false,.slice none 0 0]) 8 112 Tryz.underlying33 HI0.1 HI0.2.1 HI0.2.2.1 HI0.2.2.2 rfl aj _ _ _ rfl (HO2.alloc _) ⟨w2.heap.size,0,none⟩ 1 1 [.string x.n,.int .i64 x.c,.string x.z,.string x.k,.bool x.x,.string x.m,.bool x.y,.slice a' l' c'] rfl rfl ?c1 ?c2 ?c3 ?c4 ?c5 ?_));case c1=>exact cE _ _ _
   case c2=>intro u hu;simp only[ry,ru,or_false] at hu;rcases hu with rfl|rfl|rfl|rfl|rfl|rfl|rfl|rfl <;> rfl
   case c3=>unfold maxLen;omega
   case c4=>omega
   case c5=>simp;omega
   rintro v' w3 hown3 hgrow -;have HO3:Hid (w3.ownsRow w.heap.size 118 8 v' (k+1) (vss++([[.string x.n,.int .i64 x.c,.string x.z,.string x.k,.bool x.x,.string x.m,.bool x.y,.slice a' l' c']]:List (List Value))).flatten):=by
    exact ja
   have hb23:Below wr.heap.size wr (w2.alloc (.cells (vov x a' l' c') 118)):=HX2.trans ((ai _ _).mono (Nat.le_of_lt hs2));have hV:=HV.app (r:=vdF x) (vs:=[.string x.n,.int .i64 x.c,.string x.z,.string x.k,.bool x.x,.string x.m,.bool x.y,.slice a' l' c']) (hh:=g) hb23 (HO2.alloc _) aj hgrow rfl rfl
    (nO HZz0.out HZz2.out HZz3.out HZz5.out (HG.aG (S':=fun k=>w.heap.size<=k) (fun cu _ q=>qY _ _ _ (ab q)) (fun _ s=>by have s1:wr.heap.size+1<=g:=s;show w.heap.size<=g;omega)))
    (fun i zs hi hz=>by obtain⟨_,rfl⟩:=kI hi;have s1:wr.heap.size+1<=g:=(HG.lt hz).1;omega) (fun i i' zs zs' h1 _ h2 _=>(kI h1).1.trans (kI h2).1.symm)
   have e1:(xs.take (k+1)).map vdF=(xs.take k).map vdF++[vdF x]:=by rw[rm,HX.out];simp
   exact mb
  ·obtain rfl:len=k:=ae
   have h5:=HV.out;rw[qM ae] at h5;obtain⟨a',c',rfl,hR⟩:=h5.own HO.out (by simp[hxl]) aj (fun g hg=>(HO.lt g hg).1);have HR5:=aa hR;have hl5:(xs.map vdF).length=len:=by simpa using hxl
   exact lR

theorem kR {x:Pd} {i:Nat} {zs:List ByteArray} (h:(pdF x)[i]?=some (.l zs)):i=3/\zs=x.zs:=by
 rcases i with _|_|_|_|_|_|i
 ·cases h
 ·cases h
 ·cases h
 ·cases h;exact⟨rfl,rfl⟩
 ·cases h
 ·cases h
 ·simp[pdF] at h
theorem pg {w:World} {x:Pd} {g:Nat} {Q:Nat->Prop} {a:Option Addr} {l c:Nat} (hn:x.n.size<=9223372036854775807) (hz:x.z.size<=9223372036854775807) (hd:x.d.size<=9223372036854775807) (hl:LFr w g Q x.zs (.slice a l c)):∀(i:Nat) f,(pdF x)[i]?=some f->∃v,[.string x.n,.int .i64 x.c,.string x.z,.slice a l c,.string x.d,.int .i64 x.p][i]?=some v/\f.Fr w g Q v:=by
 intro i f h;rcases i with _|_|_|_|_|_|i
 ·cases h;exact⟨_,rfl,rfl,hn⟩
 ·cases h;exact⟨_,rfl,rfl⟩
 ·cases h;exact⟨_,rfl,rfl,hz⟩
 ·cases h;exact⟨_,rfl,hl⟩
 ·cases h;exact⟨_,rfl,rfl,hd⟩
 ·cases h;exact⟨_,rfl,rfl⟩
 ·simp[pdF] at h

theorem jy (x:Pd) (va:Option Addr) (vl vc:Nat) (w:World) (hr:an w va vl vc x.zs) (hl:vl<=8001):
  Calls Tryz.prog 96 #[.agg #[.string x.n,.int .i64 x.c,.string x.z,.slice va vl vc,.string x.d,.int .i64 x.p]] w fun e w'=> ∃a' l' c',e=.returned (.agg #[.string x.n,.int .i64 x.c,.string x.z,.slice a' l' c',.string x.d,.int .i64 x.p])/\bN w' a' l' c' x.zs (fun k=>w.heap.size<=k)/\Below w.heap.size w w':=by
 obtain⟨HR,HB⟩:=eM;clear hr;go_enter Tryz.func96,Tryz.ntmps96;go_wp2_with fail;refine (Ap.fS va vl vc x.zs _ (HR.below (HB.trans ((aF _ _ _).mono HB.size))) hl).mono ?_;rintro e w1 ⟨a',l',c',rfl,h1,h2,hb⟩;obtain⟨HA0,HA1,hbx⟩:=cx hb;have Bp:=aa HA0;have Br:=aa HA1;replace HB:=upB HB hbx;clear hb hbx HA0 HA1;have HO:Hid (bN w1 a' l' c' x.zs (fun k=>w.heap.size+1+1<=k)):=⟨h1,h2.imp id fun ⟨g,cur,e1,e2,e3⟩=>⟨g,cur,e1,by simpa using e2,e3⟩⟩;clear h1 h2;obtain⟨p0,p1,p2,p3,p4,p5⟩:=cs6 Bp;obtain⟨r0,r1,r2,r3,r4,r5⟩:=cs6 Br;have fr0:=au Br.out 0;have fr1:=au Br.out 1;have fr2:=au Br.out 2;have fp3:=au Bp.out 3;have fr3:=au Br.out 3;have fr4:=au Br.out 4;have fr5:=au Br.out 5;go_wp2_with fail;refine bodyPost_ret (v:=.agg #[.string x.n,.int .i64 x.c,.string x.z,.slice a' l' c',.string x.d,.int .i64 x.p]) (by simp[results,Tryz.results96,go_sem, *]) rfl ⟨a',l',c',rfl,HO.aG (fun k _ s=>by have s1:w.heap.size+1+1<=k:=s;rw[qH _ _ _ _ (show k≠w.heap.size+1 by omega),qH _ _ _ _ (show k≠w.heap.size+1 by omega),qH _ _ _ _ (show k≠w.heap.size+1 by omega),qH _ _ _ _ (show k≠w.heap.size+1 by omega),qH _ _ _ _ (show k≠w.heap.size+1 by omega),qH _ _ _ _ (show k≠w.heap.size+1 by omega),qH _ _ _ _ (show k≠w.heap.size by omega)]) (fun k _ s=>by have s1:w.heap.size+1+1<=k:=s;show w.heap.size<=k;omega),sb1 (sb1 (sb1 (sb1 (sb1 (sb1 (af (qF _) (HB.out)))))))⟩

theorem f_ (a:Option Addr) (len cap:Nat) (xs:List Pd) (w:World) (hr:ay w a len cap 6 (xs.map pdF)) (hl:len<=8) (hs:∀(j:Nat) x,xs[j]?=some x->x.zs.length<=8001):
  Calls Tryz.prog 95 #[.slice a len cap,.func (.func 96) #[] #[]] w fun e w'=> ∃a' c',e=.returned (.slice a' len c')/\aw w' a' len c' 6 65 (xs.map pdF) (fun k=>w.heap.size<=k)/\Below w.heap.size w w':=by
 have HR:=aa hr;have HS:=aa hs;have hxl:xs.length=len:=cQ
 clear hr hs;obtain⟨i0,hi,hz0,hz1,hz2⟩:=info_parts jC;have HI0:=aa (qD hi (qD hz0 (qD hz1 hz2)));clear hi hz0 hz1 hz2;go_enter Tryz.func95,Tryz.ntmps95;go_wp2;go_loopw [5,10] (fun vo vi wr=> ∃(k:Nat) (vss:List (List Value)) (H:Nat->Nat->Nat),k<=len/\vi=.int .i64 k/\Hid (wr.ownsRow w.heap.size 65 6 vo k vss.flatten)/\Hid (aO wr (fun k=>w.heap.size<=k) 6 ((xs.take k).map pdF) vss H)/\Hid (Below w.heap.size w wr)) (fun _ vi _=>len - (intOf vi).toNat);case atStart=>exact⟨0,[],fun _ _=>0,by omega,rfl,rv _ _ _ _,aO.nil _ _ _ _,qI _ _⟩
 case round=>
  obtain⟨k,vss,H,hk,rfl,HO,HV,HB⟩:=hrel;have hBs:=HB.size;by_cases hlt:k<len
  ·obtain⟨b,o,x,rfl,hb,hx,hat⟩:=bI (HR.below HB.out) hlt;obtain⟨va,vl,vc,hvr,z0,z2,z4,c0,c1,c2,c3,c4,c5⟩:=aM hat;obtain⟨hz8,HX,HT,HZz0⟩:=lE;have HZz2:=aa z2;have HZz4:=aa z4;clear hat hx hvr z0 z2 z4;go_wp2_with fail;refine (jy x va vl vc _ (HT.below (ai _ _)) hz8).mono ?_;rintro e w2 ⟨a',l',c',rfl,ho,hb2⟩;obtain⟨-,hbx⟩:=aJ hb2;rw[eh] at ho;obtain⟨g,hg⟩:=ho.fr;obtain⟨HG,HX2,HO2,hs2⟩:=lI;clear ho hb2 hbx hg hb c0 c1 c2 c3 c4 c5;go_wp2_with (first|(at_builtin;refine wpList_append_own _ rfl _ _ 35 rfl w.heap.size 65 i0 (.agg #[.string ⟨#[]⟩,.int .i64 0,.string ⟨#[]⟩,.slice none 0 0,.string ⟨#[]⟩,.int .i64 0]) 6 88 Tryz.underlying35 HI0.1 HI0.2.1 HI0.2.2.1 HI0.2.2.2 rfl aj _ _ _ rfl (HO2.alloc _) ⟨w2.heap.size,0,none⟩ 1 1 [.string x.n,.int .i64 x.c,.string x.z,.slice a' l' c',.string x.d,.int .i64 x.p] rfl rfl ?c1 ?c2 ?c3 ?c4 ?c5 ?_));case c1=>exact cE _ _ _
   case c2=>intro u hu;simp only[ry,ru,or_false] at hu;rcases hu with rfl|rfl|rfl|rfl|rfl|rfl <;> rfl
   case c3=>unfold maxLen;omega
   case c4=>omega
   case c5=>simp;omega
   rintro v' w3 hown3 hgrow -;have HO3:Hid (w3.ownsRow w.heap.size 65 6 v' (k+1) (vss++([[.string x.n,.int .i64 x.c,.string x.z,.slice a' l' c',.string x.d,.int .i64 x.p]]:List (List Value))).flatten):=by
    exact ja
   have hb23:Below wr.heap.size wr (w2.alloc (.cells (pov x a' l' c') 65)):=HX2.trans ((ai _ _).mono (Nat.le_of_lt hs2));have hV:=HV.app (r:=pdF x) (vs:=[.string x.n,.int .i64 x.c,.string x.z,.slice a' l' c',.string x.d,.int .i64 x.p]) (hh:=g) hb23 (HO2.alloc _) aj hgrow rfl rfl
    (pg HZz0.out HZz2.out HZz4.out (HG.aG (S':=fun k=>w.heap.size<=k) (fun cu _ q=>qY _ _ _ (ab q)) (fun _ s=>by have s1:wr.heap.size+1<=g:=s;show w.heap.size<=g;omega)))
    (fun i zs hi hz=>by obtain⟨_,rfl⟩:=kR hi;have s1:wr.heap.size+1<=g:=(HG.lt hz).1;omega) (fun i i' zs zs' h1 _ h2 _=>(kR h1).1.trans (kR h2).1.symm)
   have e1:(xs.take (k+1)).map pdF=(xs.take k).map pdF++[pdF x]:=by rw[rm,HX.out];simp
   exact mb
  ·obtain rfl:len=k:=ae
   have h5:=HV.out;rw[qM ae] at h5;obtain⟨a',c',rfl,hR⟩:=h5.own HO.out (by simp[hxl]) aj (fun g hg=>(HO.lt g hg).1);have HR5:=aa hR;have hl5:(xs.map pdF).length=len:=by simpa using hxl
   exact lR

end Rc
end Go.Proofs.YtdoldaceehdifaaGreatDoor

namespace Go.Proofs.YtdoldaceehdifaaGreatDoor
open Go.RowKit
namespace Gi

abbrev Rs:=Option Tmp->World->World->Prop
structure Rel (R:Rs) (sp:Tmp):Prop where
 refl:∀w,R none w w
 trans:∀{a b c},R none a b->R none b c->R none a c
 size:∀{a b},R none a b->a.heap.size<=b.heap.size
 drew:∀w,R none w w.drew
 sub:∀s {a b},R s a b->R none a b
 low:∀s {a b},¬s=none->¬s=some sp->R s a b->Below a.heap.size a b
abbrev Fact:=Value->World->Nat->Nat->Prop
abbrev Ex:=Tmp->Option Tmp
def Fact.b8 (R:Rs) (ex:Ex) (d:Option Tmp) (φ:Fact):Prop:=∀s,¬s=none->¬s=d->(∀t e,d=some t->ex t=some e->¬s=some e)->∀v w w' l h,φ v w l h->R s w w'->φ v w' l h
theorem Fact.fT (R:Rs) (ex:Ex) (d:Option Tmp) (c:Value):Fact.b8 R ex d (fun v _ _ _=>v=c):=fun _ _ _ _ _ _ _ _ _ h _=>h

def av (ex:Ex) (d:Option Tmp) (a0:Act) (known:List (Tmp×Fact)) (a:Act) (w:World) (lo hi:Tmp->Nat) (t:Tmp):Prop:=
 match known.lookup t with
 | some φ=>(ex t=none\/ex t=d)->φ (a.tmps.getD t undef) w (lo t) (hi t)
 | none=>a.tmps.getD t undef=a0.tmps.getD t undef

def gp (known:List (Tmp×Fact)) (lo hi:Tmp->Nat) (ts:List Tmp):Prop:=∀t∈ts,∀t'∈ts,(known.lookup t).isSome=true->(known.lookup t').isSome=true->¬t=t'->hi t<=lo t'\/hi t'<=lo t
def Obl (R:Rs) (sp:Tmp) (ex:Ex) (P:Program) (ops:Array Oper) (Q:Exit->Act->World->Prop) (W:World) (a0:Act) (known:List (Tmp×Fact)) (o:Oper) (φ:Fact):Prop:=
 ∀(a:Act) (w:World) (K:Act->World->Prop) (lo hi:Tmp->Nat),a.tmps.size=a0.tmps.size->R none W w->(o.dst=some sp->Below W.heap.size W w)->(∀t∈o.looksAt ops,av ex o.dst a0 known a w lo hi t)->gp known lo hi (o.looksAt ops)->
  (∀v w',R o.dst w w'->φ v w' w.heap.size w'.heap.size->K (a.put o.dst v) w')->if rY o (yielded ops a.tmps)=true then o.wp P a w K Q else K (a.put o.dst undef) w

theorem Obl.plain {R:Rs} {sp:Tmp} {ex:Ex} {P:Program} {ops:Array Oper} {Q:Exit->Act->World->Prop} {W:World} {a0:Act} {known:List (Tmp×Fact)} {o:Oper} {φ:Fact} (hg:o.guard=none)
  (h:∀(a:Act) (w:World) (K:Act->World->Prop) (lo hi:Tmp->Nat),a.tmps.size=a0.tmps.size->R none W w->(o.dst=some sp->Below W.heap.size W w)->(∀t∈eD o,av ex o.dst a0 known a w lo hi t)->gp known lo hi (eD o)->(∀v w',R o.dst w w'->φ v w' w.heap.size w'.heap.size->K (a.put o.dst v) w')->o.wp P a w K Q):Obl R sp ex P ops Q W a0 known o φ:=by
 intro a w K lo hi h1 h2 h6 h3 h5 h4;have hw:rY o (yielded ops a.tmps)=true:=by simp[rY,hg]
 rw[if_pos hw];have hs:∀t∈eD o,t∈o.looksAt ops:=fun t ht=>by unfold Oper.looksAt;exact List.mem_append_left _ ht
 exact h a w K lo hi h1 h2 h6 (fun t ht=>h3 t (hs t ht)) (fun t ht t' ht'=>h5 t (hs t ht) t' (hs t' ht')) h4

def aW (a0:Act) (known:List (Tmp×Fact)) (x:Tmp->Value):Act:=known.foldr (fun p b=>b.put (some p.1) (x p.1)) a0
def p9 (known:List (Tmp×Fact)) (lo hi:Tmp->Nat):Prop:=∀p∈known,∀q∈known,¬p.1=q.1->hi p.1<=lo q.1\/hi q.1<=lo p.1
def Fin (R:Rs) (ex:Ex) (P:Program) (ops:Array Oper) (Q:Exit->Act->World->Prop) (W:World) (a0:Act) (back:Option Oper) (known:List (Tmp×Fact)):Prop:=
 ∀(x:Tmp->Value) (w:World) (lo hi:Tmp->Nat),R none W w->(∀p∈known,ex p.1=none->p.2 (x p.1) w (lo p.1) (hi p.1))->p9 known lo hi->dN P ops Q back (aW a0 known x) w

def kn (d:Option Tmp) (φ:Fact) (known:List (Tmp×Fact)):List (Tmp×Fact):=match d with|some t=>(t,φ) ::known|none=>known

def Grow (R:Rs) (sp:Tmp) (ex:Ex) (P:Program) (ops:Array Oper) (Q:Exit->Act->World->Prop) (W:World) (a0:Act) (back:Option Oper):List Oper->List (Tmp×Fact)->Prop
 | [],known=>Fin R ex P ops Q W a0 back known
 | o ::rest,known=> ∃φ:Fact,φ.b8 R ex o.dst/\Obl R sp ex P ops Q W a0 known o φ/\Grow R sp ex P ops Q W a0 back rest (kn o.dst φ known)
theorem Grow.step {R:Rs} {sp:Tmp} {ex:Ex} {P:Program} {ops:Array Oper} {Q:Exit->Act->World->Prop} {W:World} {a0:Act} {back:Option Oper} {o:Oper} {rest:List Oper} {known:List (Tmp×Fact)} {t:Tmp} (φ:Fact) (hd:o.dst=some t) (hφ:φ.b8 R ex (some t)) (ho:Obl R sp ex P ops Q W a0 known o φ)
  (h:Grow R sp ex P ops Q W a0 back rest ((t,φ) ::known)):Grow R sp ex P ops Q W a0 back (o ::rest) known:=⟨φ,by rw[hd];exact hφ,ho,by rw[hd];exact h⟩
theorem Grow.aP {R:Rs} {sp:Tmp} {ex:Ex} {P:Program} {ops:Array Oper} {Q:Exit->Act->World->Prop} {W:World} {a0:Act} {back:Option Oper} {o:Oper} {rest:List Oper} {known:List (Tmp×Fact)} {t:Tmp} (c:Value) (hd:o.dst=some t) (ho:Obl R sp ex P ops Q W a0 known o (fun v _ _ _=>v=c))
  (h:Grow R sp ex P ops Q W a0 back rest ((t,fun v _ _ _=>v=c) ::known)):Grow R sp ex P ops Q W a0 back (o ::rest) known:=Grow.step _ hd (Fact.fT R ex _ c) ho h
theorem Grow.done {R:Rs} {sp:Tmp} {ex:Ex} {P:Program} {ops:Array Oper} {Q:Exit->Act->World->Prop} {W:World} {a0:Act} {back:Option Oper} {known:List (Tmp×Fact)} (h:Fin R ex P ops Q W a0 back known):Grow R sp ex P ops Q W a0 back [] known:=h

section
variable {R:Rs} {sp:Tmp} {ex:Ex} {P:Program} {ops:Array Oper} {Q:Exit->Act->World->Prop} {W:World} {a0:Act} {back:Option Oper}

def knAll:List (Tmp×Fact)->List Oper->List Fact->List (Tmp×Fact)
 | known,o ::l,φ ::φs=>knAll (kn o.dst φ known) l φs
 | known,_,_=>known
theorem bo (known:List (Tmp×Fact)) (φs:List Fact):knAll known [] φs=known:=by cases φs <;> rfl

theorem Grow.spec:∀(l:List Oper) (known:List (Tmp×Fact)),Grow R sp ex P ops Q W a0 back l known->∃φs:List Fact,φs.length=l.length/\
  (∀(i:Nat) (o:Oper) (φ:Fact),l[i]?=some o->φs[i]?=some φ->φ.b8 R ex o.dst/\Obl R sp ex P ops Q W a0 (knAll known (l.take i) (φs.take i)) o φ)/\Fin R ex P ops Q W a0 back (knAll known l φs)
 | [],known,h=>⟨[],rfl,fun i o φ h=>by simp at h,by rw[bo];exact h⟩
 | o ::l,known,h=>by
  exact oW

theorem ed (d:Option Tmp) (φ:Fact) (known:List (Tmp×Fact)) (t:Tmp):(kn d φ known).lookup t=if d=some t then some φ else known.lookup t:=by
 exact oJ

theorem bS:∀(l:List Oper) (φs:List Fact) (known:List (Tmp×Fact)) {t:Tmp} {φ:Fact},(knAll known l φs).lookup t=some φ->
  (∃(i:Nat) (o:Oper),l[i]?=some o/\o.dst=some t/\φs[i]?=some φ)\/known.lookup t=some φ
 | [],φs,known,t,φ,h=>by rw[bo] at h;exact .inr h
 | o ::l,[],known,t,φ,h=>.inr h
 | o ::l,ψ ::φs,known,t,φ,h=>by
  exact oR
theorem bT:∀(l:List Oper) (φs:List Fact) (known:List (Tmp×Fact)) {t:Tmp},(knAll known l φs).lookup t=none->
  known.lookup t=none/\∀(i:Nat) (o:Oper) (φ:Fact),l[i]?=some o->φs[i]?=some φ->o.dst≠some t
 | [],φs,known,t,h=>by rw[bo] at h;exact⟨h,fun i o φ h=>by simp at h⟩
 | o ::l,[],known,t,h=>⟨h,fun i o φ _ h=>by simp at h⟩
 | o ::l,ψ ::φs,known,t,h=>by
  exact oY
theorem bL:∀(l:List Oper) (φs:List Fact) (known:List (Tmp×Fact)) {p:Tmp×Fact},p∈knAll known l φs->
  (∃(i:Nat) (o:Oper),l[i]?=some o/\o.dst=some p.1/\φs[i]?=some p.2)\/p∈known
 | [],φs,known,p,h=>by rw[bo] at h;exact .inr h
 | o ::l,[],known,p,h=>.inr h
 | o ::l,ψ ::φs,known,p,h=>by
  exact oV

theorem bD (a0:Act) (x:Tmp->Value):∀known,(aW a0 known x).tmps.size=a0.tmps.size
 | []=>rfl
 | p ::l=>by unfold aW;rw[List.foldr_cons,size_put];exact bD a0 x l
theorem bE (a0:Act) (x:Tmp->Value):∀known,(aW a0 known x).defers=a0.defers
 | []=>rfl
 | p ::l=>by unfold aW;rw[List.foldr_cons,cK];exact bE a0 x l
theorem dI (a0 a:Act) (known:List (Tmp×Fact)) (hk:∀p∈known,p.1<a0.tmps.size) (t:Tmp) (h:(∀p∈known,p.1≠t)->a.tmps.getD t undef=a0.tmps.getD t undef):
  (aW a0 known (fun t=>a.tmps.getD t undef)).tmps.getD t undef=a.tmps.getD t undef:=by
 exact o7
structure At (R:Rs) (sp:Tmp) (ex:Ex) (front:List Oper) (φs:List Fact) (W:World) (a0:Act) (listed:Array Bool) (a:Act) (w:World) (lo hi:Tmp->Nat):Prop where
 size:a.tmps.size=a0.tmps.size
 defers:a.defers=a0.defers
 below:R none W w
 pre:(∀(i:Nat) (p:Oper),front[i]?=some p->p.dst=some sp->listed.getD i false=false)->Below W.heap.size W w
 known:∀(i:Nat) (o:Oper) (φ:Fact),front[i]?=some o->φs[i]?=some φ->∀t,o.dst=some t->listed.getD i false=true->(∀e,ex t=some e->∀(i':Nat) (p':Oper),front[i']?=some p'->p'.dst=some e->listed.getD i' false=false)->φ (a.tmps.getD t undef) w (lo t) (hi t)
 top:∀(i:Nat) (o:Oper),front[i]?=some o->∀t,o.dst=some t->listed.getD i false=true->hi t<=w.heap.size
 apart:∀(i:Nat) (o:Oper) (i':Nat) (o':Oper),front[i]?=some o->front[i']?=some o'->∀t t',o.dst=some t->o'.dst=some t'->listed.getD i false=true->listed.getD i' false=true->¬t=t'->hi t<=lo t'\/hi t'<=lo t
 other:∀t,(∀(i:Nat) (o:Oper),front[i]?=some o->o.dst=some t->listed.getD i false=false)->a.tmps.getD t undef=a0.tmps.getD t undef

theorem At.step {front:List Oper} {φs:List Fact} {listed:Array Bool} {a:Act} {w w':World} {lo hi:Tmp->Nat} {j:Nat} {o:Oper} {φ:Fact} {v:Value} (hR:Rel R sp) (hds:¬o.dst=none) (h:At R sp ex front φs W a0 listed a w lo hi)
  (hn:(front.filterMap (·.dst)).Nodup) (hin:∀o∈front,∀t,o.dst=some t->t<a0.tmps.size) (hmono:∀(i:Nat) (o:Oper) (φ:Fact),front[i]?=some o->φs[i]?=some φ->φ.b8 R ex o.dst)
  (ho:front[j]?=some o) (hφ:φs[j]?=some φ) (hj:j<listed.size) (hb:R o.dst w w') (hv:φ v w' w.heap.size w'.heap.size):∃lo hi,At R sp ex front φs W a0 (listed.setIfInBounds j true) (a.put o.dst v) w' lo hi:=by
 have old:∀(i:Nat) (p:Oper) t,front[i]?=some p->p.dst=some t->¬j=i->(listed.setIfInBounds j true).getD i false=true->¬o.dst=some t/\listed.getD i false=true:=fun i p t hp ht e hl=>
  ⟨fun hd=>e (cv front hn ho hp hd ht),by simpa[qX,rb,e] using hl⟩
 refine⟨fun t=>if o.dst=some t then w.heap.size else lo t,fun t=>if o.dst=some t then w'.heap.size else hi t,(size_put _ _ _).trans h.size,(cK _ _ _).trans h.defers,hR.trans h.below (hR.sub _ hb),fun hx=>?_,?_,?_,?_,?_⟩
 ·have hns:¬o.dst=some sp:=fun e=>by
   have:=hx j o ho e;simp[qX,hj] at this
  have h1:=h.pre (fun i p hp hd=>by
   have h2:=hx i p hp hd
   have e:¬j=i:=fun e=>by subst e;exact hns (by rw[qG (ho.symm.trans hp)];exact hd)
   simpa[qX,rb,e] using h2)
  exact h1.trans ((hR.low _ hds hns hb).mono h1.size)
 ·intro i p ψ hp hψ t ht hl hx;by_cases e:j=i
  ·subst e;obtain rfl:o=p:=qG (ho.symm.trans hp);obtain rfl:φ=ψ:=qG (hφ.symm.trans hψ);simp only[if_pos ht];exact mC
  ·obtain⟨hne,hl'⟩:=old i p t hp ht e hl;simp only[if_neg hne];have hxo:∀e,ex t=some e->∀(i':Nat) (p':Oper),front[i']?=some p'->p'.dst=some e->¬j=i'/\listed.getD i' false=false:=fun e9 he i' p' hp' hd'=>by
    have h9:=hx e9 he i' p' hp' hd';by_cases ej:j=i'
    ·subst ej;simp[qX,hj] at h9
    ·exact⟨ej,by simpa[qX,rb,ej] using h9⟩
   have h1:=hmono i p ψ hp hψ o.dst hds (fun e9=>hne (e9.trans ht)) (fun t9 e9 h8 h9 hd=>by
    obtain rfl:t=t9:=qG (ht.symm.trans h8)
    exact (hxo e9 h9 j o ho hd).1 rfl) _ _ _ _ _ (h.known i p ψ hp hψ t ht hl' (fun e9 he i' p' hp' hd'=>(hxo e9 he i' p' hp' hd').2)) hb
   exact mm
 ·intro i p hp t ht hl;by_cases e:j=i
  ·subst e;obtain rfl:o=p:=qG (ho.symm.trans hp);simp only[if_pos ht];exact qF _
  ·obtain⟨hne,hl'⟩:=old i p t hp ht e hl;simp only[if_neg hne];exact qK (h.top i p hp t ht hl') (hR.size (hR.sub _ hb))
 ·intro i p i' p' hp hp' t t' ht ht' hl hl' hne;by_cases e:j=i
  ·subst e;obtain rfl:o=p:=qG (ho.symm.trans hp);by_cases e':j=i'
   ·subst e';obtain rfl:o=p':=qG (ho.symm.trans hp');exact absurd (qG (ht.symm.trans ht')) hne
   ·obtain⟨hne',hl''⟩:=old i' p' t' hp' ht' e' hl';simp only[if_pos ht,if_neg hne'];exact .inr (h.top i' p' hp' t' ht' hl'')
  ·obtain⟨hne1,hl1⟩:=old i p t hp ht e hl;by_cases e':j=i'
   ·subst e';obtain rfl:o=p':=qG (ho.symm.trans hp');simp only[if_pos ht',if_neg hne1];exact .inl (h.top i p hp t ht hl1)
   ·obtain⟨hne',hl''⟩:=old i' p' t' hp' ht' e' hl';simp only[if_neg hne1,if_neg hne'];exact h.apart i p i' p' hp hp' t t' ht ht' hl1 hl'' hne
 ·exact o6

theorem Fin.last {front:List Oper} {φs:List Fact} {listed:Array Bool} {a:Act} {w:World} {lo hi:Tmp->Nat} (hf:Fin R ex P ops Q W a0 back (knAll [] front φs)) (hlen:φs.length=front.length) (hin:∀o∈front,∀t,o.dst=some t->t<a0.tmps.size)
  (h:At R sp ex front φs W a0 listed a w lo hi) (hall:∀i,i<front.length->listed.getD i false=true):dN P ops Q back a w:=by
 have h1:=hf (fun t=>a.tmps.getD t undef) w lo hi h.below (fun p hp hpe=>by
  rcases bL front φs [] hp with ⟨i,o,h1,h2,h3⟩|h1
  ·exact h.known i o p.2 h1 h3 p.1 h2 (hall i (qE.1 h1).1) (fun e he=>by rw[hpe] at he;cases he)
  ·simp at h1) (fun p hp q hq hne=>by
  rcases bL front φs [] hp with ⟨i,o,h1,h2,h3⟩|h1
  ·rcases bL front φs [] hq with ⟨i',o',g1,g2,g3⟩|g1
   ·exact h.apart i o i' o' h1 g1 p.1 q.1 h2 g2 (hall i (qE.1 h1).1) (hall i' (qE.1 g1).1) hne
   ·simp at g1
  ·simp at h1)
 exact pe

theorem dn {front:List Oper} {φs:List Fact} (hR:Rel R sp) (hds:∀o∈front,¬o.dst=none) (hops:ops=(front++back.toList).toArray) (hB:growB a0.tmps.size front back=true) (hlen:φs.length=front.length)
  (hs:∀(i:Nat) (o:Oper) (φ:Fact),front[i]?=some o->φs[i]?=some φ->φ.b8 R ex o.dst/\Obl R sp ex P ops Q W a0 (knAll [] (front.take i) (φs.take i)) o φ) (hf:Fin R ex P ops Q W a0 back (knAll [] front φs)):
  ∀(fuel:Nat) (listed:Array Bool) (a:Act) (w:World),listed.size=ops.size->listed.toList.count false<=fuel->(∀o,back=some o->listed.getD front.length false=false)->(∃lo hi,At R sp ex front φs W a0 listed a w lo hi)->wpAny P .any ops Q fuel listed a w:=by
 obtain⟨hn,hin,hdep,hlt,hback⟩:=fe hB;rw[<-hops] at hdep hlt;have hsz:ops.size=front.length+back.toList.length:=by rw[hops];simp
 have hend:∀(listed:Array Bool) (a:Act) (w:World),listed.size=ops.size->(∀i,i<ops.size->listed.getD i false=true)->(∀o,back=some o->listed.getD front.length false=false)->(∃lo hi,At R sp ex front φs W a0 listed a w lo hi)->Q .normal a w:=by
  rintro listed a w hz hall hb ⟨lo,hi,h⟩;exact oE
 intro fuel;induction fuel with
 | zero=>
  intro listed a w hz hc hb h;have hall:∀i,i<ops.size->listed.getD i false=true:=fun i hi=>iF ae i ae;refine⟨?_,hend listed a w hz hall hb h⟩
  cases hr:rC .any ops listed with
  | nil=>rfl
  | cons j js=>
   have hm:j∈rC .any ops listed:=by rw[hr];simp
   obtain⟨h1,o,ho,-⟩:=mem_ready.1 hm;have hj:=(ra.1 ho).1;rw[<-cJ ae,hall j hj] at h1
   cases h1
 | succ fuel ih=>
  intro listed a w hz hc hb hlh;refine⟨fun hr=>hend listed a w hz (fh hz hlt hr) hb hlh,fun j hj=>?_⟩;obtain⟨lo,hi,h⟩:=hlh;obtain⟨hun,o,ho,hall⟩:=mem_ready.1 hj;have hjs:j<ops.size:=(ra.1 ho).1;have hcs:=count_set (listed:=listed) (i:=j) ae hun
  by_cases hjf:j<front.length
  ·have hof:front[j]?=some o:=by rw[hops] at ho;simpa[List.getElem?_append_left hjf] using ho
   have hφ:φs[j]?=some (φs[j]'(by omega)):=qJ _;obtain⟨hm,hob⟩:=hs j o _ hof hφ
   have hfacts:∀t∈o.looksAt ops,av ex o.dst a0 (knAll [] (front.take j) (φs.take j)) a w lo hi t:=by
    intro t ht;unfold av
    cases hk:(knAll [] (front.take j) (φs.take j)).lookup t with
    | some φ=>
     rcases bS _ _ _ hk with ⟨i,p,h1,h2,h3⟩|h1
     ·have hij:i<j:=by have:=(qE.1 h1).1;simp at this;omega
      rw[rh,if_pos hij] at h1 h3;obtain⟨-,e,he,hon,hbi⟩:=hdep j o hof t ht i p h1 h2;have hl:=hall e he hbi;rw[hon] at hl;intro hex;refine h.known i p φ h1 h3 t h2 hl (fun e9 he i' p' hp' hd'=>?_)
      rcases hex with h9|h9
      ·rw[h9] at he;cases he
      ·have:i'=j:=cv front hn hp' hof hd' (h9.symm.trans he);subst this;rw[cJ ae];exact hun
     ·simp at h1
    | none=>
     refine h.other t (fun i p hp hd=>?_)
     exfalso
     obtain⟨hij,-⟩:=hdep j o hof t ht i p hp hd;have hi:=(qE.1 hp).1;exact (bT _ _ _ hk).2 i p (φs[i]'(by omega)) (by rw[rh,if_pos hij];exact hp) nQ hd
   have hfind:∀t∈o.looksAt ops,((knAll [] (front.take j) (φs.take j)).lookup t).isSome=true->∃(i:Nat) (p:Oper),front[i]?=some p/\p.dst=some t/\listed.getD i false=true:=by
    intro t ht hk;obtain⟨φ,hφ'⟩:=Option.isSome_iff_exists.1 hk
    rcases bS _ _ _ hφ' with ⟨i,p,h1,h2,h3⟩|h1
    ·have hij:i<j:=by have:=(qE.1 h1).1;simp at this;omega
     rw[rh,if_pos hij] at h1;obtain⟨-,e,he,hon,hbi⟩:=hdep j o hof t ht i p h1 h2;have hl:=hall e he hbi;rw[hon] at hl;exact⟨i,p,h1,h2,hl⟩
    ·simp at h1
   have hap:gp (knAll [] (front.take j) (φs.take j)) lo hi (o.looksAt ops):=by
    intro t ht t' ht' hk hk' hne;obtain⟨i,p,h1,h2,h3⟩:=hfind t ht hk;obtain⟨i',p',g1,g2,g3⟩:=hfind t' ht' hk';exact h.apart i p i' p' h1 g1 t t' h2 g2 h3 g3 hne
   have hpre:o.dst=some sp->Below W.heap.size W w:=fun hd=>h.pre (fun i p hp hd'=>by
    have:i=j:=cv front hn hp hof hd' hd;subst this;rw[cJ ae]
    exact hun)
   have h1:=hob a w (wpAny P .any ops Q fuel (listed.setIfInBounds j true)) lo hi h.size h.below hpre hfacts hap (fun v w' hbw hv=>by
    refine ih _ _ _ (by simpa using hz) ae (fun o' ho'=>?_) (h.step hR (hds o (List.mem_of_getElem? hof)) hn hin (fun i o φ h1 h2=>(hs i o φ h1 h2).1) hof hφ ae hbw hv);have h2:=hb o' ho'
    have e:¬j=front.length:=ae
    simpa[qX,rb,e] using h2)
   unfold wpOp;rw[ho]
   simp only
   split
   ·rename_i hw;rw[if_pos hw] at h1;exact .inl h1
   ·rename_i hw;rw[if_neg hw] at h1;exact h1
  ·cases hk:back with
   | none=>rw[hk] at hsz;simp at hsz;omega
   | some b=>
    have hjn:j=front.length:=by rw[hk] at hsz;simp at hsz;omega
    subst hjn
    have hob:o=b:=by
     rw[hops,hk] at ho
     simp at ho
     exact ho.symm
    subst hob
    have hfl:∀i,i<front.length->listed.getD i false=true:=fun i hi=>by
     obtain⟨e,he,hon,hbi⟩:=hback o hk i hi;have:=hall e he hbi
     rwa [hon] at this
    have h1:=hf.last hlen hin h hfl;rw[hk] at h1
    have h2:=h1 (wpAny P .any ops Q fuel (listed.setIfInBounds front.length true)) (fun a' w' hq=>by
     have hr:rC .any ops (listed.setIfInBounds front.length true)=[]:=by
      cases hr:rC .any ops (listed.setIfInBounds front.length true) with
      | nil=>rfl
      | cons i is=>
       have hm:i∈rC .any ops (listed.setIfInBounds front.length true):=by rw[hr];simp
       obtain⟨h3,o',ho',-⟩:=mem_ready.1 hm;have hi:=(ra.1 ho').1
       exfalso
       by_cases e:front.length=i
       ·subst e
        simp[qX,show front.length<listed.size from by omega] at h3
       ·have h4:=hfl i (by rw[hk] at hsz;simp at hsz;omega);rw[cJ ae] at h4
        simp[qX,e] at h3 h4
        rw[h3] at h4
        cases h4
     cases fuel with
     | zero=>exact⟨hr,hq⟩
     | succ fuel=>exact⟨fun _=>hq,fun i hi=>by rw[hr] at hi;cases hi⟩)
    unfold wpOp;rw[ho]
    simp only
    split
    ·rename_i hw;rw[if_pos hw] at h2;exact .inl h2
    ·rename_i hw;rw[if_neg hw] at h2;exact h2
end

theorem bA {R:Rs} {sp:Tmp} {ex:Ex} (hR:Rel R sp) {P:Program} {id:Nat} {Q:Exit->Act->World->Prop} {a0:Act} {W:World} {l:List Oper} {front:List Oper} {back:Option Oper} (hm:P.follows .mixedOrders=true) (hl:l=front++back.toList) (hds:front.all (fun o=>o.dst.isSome)=true) (hB:growB a0.tmps.size front back=true)
  (h:Grow R sp ex P l.toArray Q W a0 back front []):(Code.region id l.toArray true).wp P Q a0 W:=by
 obtain⟨φs,hlen,hs,hf⟩:=Grow.spec _ _ h;refine wp_region_any hm (dn hR (fun o ho e=>by have:=List.all_eq_true.1 hds o ho;rw[e] at this;cases this) (by rw[hl]) hB hlen hs hf _ _ _ _ a8 ?_ (fun o ho=>?_) ⟨fun _=>0,fun _=>0,rfl,rfl,hR.drew _,fun _=>(qI _ _).drew,fun i o φ h1 h2 t ht hx _=>?_,fun i o h1 t ht hx=>?_,fun i o i' o' h1 h2 t t' ht ht' hx=>?_,fun t _=>rfl⟩)
 ·exact mD
 ·exact bJ _ _
 ·rw[bJ] at hx;cases hx
 ·rw[bJ] at hx;cases hx
 ·rw[bJ] at hx;cases hx
theorem bq {R:Rs} {sp:Tmp} {ex:Ex} (hR:Rel R sp) {P:Program} {id:Nat} {Q:Exit->Act->World->Prop} {a0:Act} {W:World} {l:List Oper} {front:List Oper} {last:Oper} (hm:P.follows .mixedOrders=true) (hf:l.dropLast=front) (hb:l.getLast?=some last) (hds:front.all (fun o=>o.dst.isSome)=true) (hB:growB a0.tmps.size front (some last)=true)
  (h:Grow R sp ex P l.toArray Q W a0 (some last) front []):(Code.region id l.toArray true).wp P Q a0 W:=by
 refine bA hR hm ?_ hds hB h;obtain⟨l',rfl⟩:=List.getLast?_eq_some_iff.1 hb;rw[<-hf];simp

def Bel (w w':World):Prop:=Below w.heap.size w w'
theorem Bel.rel (sp:Tmp):Rel (fun _=>Bel) sp:=⟨fun _=>qI _ _,fun h k=>Below.trans h (Below.mono k (rR h)),fun h=>rR h,fun _=>(qI _ _).drew,fun _ _ _ h=>h,fun _ _ _ _ _ h=>h⟩
end Gi
end Go.Proofs.YtdoldaceehdifaaGreatDoor

namespace Go.Proofs.YtdoldaceehdifaaGreatDoor
open Go.RowKit
namespace Rc
open Mk

structure Sm (c:Cl):Prop where
 n:c.ns.length<=8
 ns:∀(j:Nat) x,c.ns[j]?=some x->x.zs.length<=8001
 k:c.ks.length<=8
 v:c.vs.length<=8
 vs:∀(j:Nat) x,c.vs[j]?=some x->x.zs.length<=8001
 x:c.xs.length<=8
 p:c.ps.length<=8
 ps:∀(j:Nat) x,c.ps[j]?=some x->x.zs.length<=8001
theorem dv.sm {c:Cl} (h:dv c):Sm c:=by
 obtain⟨_,⟨⟨h1,h2,_⟩,⟨h3,_⟩,⟨h4,h5,_⟩,⟨h6,_⟩,⟨h7,h8,_⟩⟩,_⟩:=h;refine⟨by omega,fun j x hj=>?_,by omega,by omega,fun j x hj=>?_,by omega,by omega,fun j x hj=>?_⟩
 ·have:=(h2 j x hj).2.2.2.2.2.1;omega
 ·have:=(fy (h5 j x hj).2.2.2.2.2.2).1;omega
 ·have:=(h8 j x hj).2.2.2.1.1;omega

def bY (r:List Fv):List Value:=r.map fun f=>f.val.getD undef
def cV (r:List Fv):Prop:=∀(i:Nat) f,r[i]?=some f->∃v,f.val=some v
theorem Fv.Is.val {w:World} {f:Fv} {v u:Value} (h:f.Is w v) (hu:f.val=some u):v=u/\f.Fr w 0 (fun _=>False) v:=by
 cases f with
 | s t=>cases hu;exact⟨h.1,h⟩
 | i n=>cases hu;exact⟨h,h⟩
 | b x=>cases hu;exact⟨h,h⟩
 | l zs=>cases hu
theorem Fv.Fr.any {w w':World} {f:Fv} {v u:Value} {h h':Nat} {S S':Nat->Prop} (k:f.Fr w h S v) (hu:f.val=some u):f.Fr w' h' S' v:=by
 cases f with
 | l zs=>cases hu
 | _=>exact k
theorem ng {r:List Fv} (hf:cV r) {i:Nat} {f:Fv} (hi:r[i]?=some f):∃u,f.val=some u/\(bY r)[i]?=some u:=by
 obtain⟨u,hu⟩:=hf i f hi;exact⟨u,hu,by rw[bY,qT,hi];simp[hu]⟩
theorem k9 {r:List Fv} (hf:cV r) {i:Nat} {u:Value} (hi:(bY r)[i]?=some u):∃f,r[i]?=some f/\f.val=some u:=by
 rw[bY,qT] at hi;obtain⟨f,h1,h2⟩:=qL.1 hi;obtain⟨v,hv⟩:=hf i f h1;rw[hv] at h2;exact⟨f,h1,by rw[hv];simpa using h2⟩
section
variable {w:World} {a:Option Addr} {len cap m:Nat} {rs:List (List Fv)}
theorem dQ (hm:∀(j:Nat) r,rs[j]?=some r->r.length=m):∀(j:Nat) vs,(rs.map bY)[j]?=some vs->vs.length=m:=by
 intro j vs hj;rw[qT] at hj;obtain⟨r,h1,rfl⟩:=qL.1 hj;rw[bY,List.length_map];exact hm j r h1
theorem fD {b o:Nat} (h:ay w (some ⟨b,o,none⟩) len cap m rs) (hm:∀(j:Nat) r,rs[j]?=some r->r.length=m/\cV r):∀(k:Nat) u,(rs.map bY).flatten[k]?=some u->w.cell? ((⟨b,o,none⟩:Addr).add k)=some u:=by
 intro k u hk;obtain⟨j,i,vs,h1,h2,rfl⟩:=fg (dQ fun j r hj=>(hm j r hj).1) hk;rw[qT] at h1;obtain⟨r,h3,rfl⟩:=qL.1 h1;obtain⟨f,h4,h5⟩:=k9 (hm j r h3).2 h2;rcases h.2.2.2 with rfl|⟨b',o',e,_,hc⟩
 ·simp at h3
 ·cases e;obtain⟨v,h6,h7⟩:=hc j r h3 i f h4;rw[Addr.add_lit,<-Nat.add_assoc,h6,(h7.val h5).1]
theorem db (h:ay w a len cap m rs) (hm:∀(j:Nat) r,rs[j]?=some r->r.length=m/\cV r) (w':World) (S:Nat->Prop):aO w' S m rs (rs.map bY) (fun _ _=>0):=by
 refine⟨by simp,dQ fun j r hj=>(hm j r hj).1,fun j r hj=>(hm j r hj).1,fun j r vs hj hv i f hi=>?_,fun j r i zs j' r' i' zs' hj hi=>?_⟩
 ·rw[qT,hj] at hv;cases hv;obtain⟨u,h1,h2⟩:=ng (hm j r hj).2 hi;rcases h.2.2.2 with rfl|⟨b',o',e,_,hc⟩
  ·simp at hj
  ·obtain⟨v,h6,h7⟩:=hc j r hj i f hi;obtain⟨rfl,h8⟩:=h7.val h1;exact⟨v,h2,h8.any h1⟩
 ·obtain⟨v,hv⟩:=(hm j r hj).2 i _ hi;cases hv
end
theorem jZ {o:Oper} {a:Act} {w:World} {K:Act->World->Prop} {Q:Exit->Act->World->Prop} (s x:Operand) (t T:TypeId) (ho:o.op=.call { callee:=.builtin .append,args:=#[s,x],argTypes:=#[t,t] }) (i:TypeInfo) (z:Value) (m bytes:Nat) (ht:Tryz.prog.underlying t=some (.slice T)) (hi:Tryz.prog.info? T=some i) (hz:i.zero=some z)
  (hsize:i.size=m) (hby:i.bytes=bytes) (hzs:z.cells.size=m) (hsz:0<m) (hT:¬T=9) (base:Nat) (v0:Value) (hs:a.eval s=v0) (hown:w.ownsRow base T m v0 0 []) (hbw:base<=w.heap.size) {ad:Addr} {len cap:Nat} {rs:List (List Fv)} (hx:a.eval x=.slice (some ad) len cap) (hr:ay w (some ad) len cap m rs) (hm:∀(j:Nat) r,rs[j]?=some r->r.length=m/\cV r) (hl:len<=8) (hb8:bytes<=1000)
  (h:∀a' c' w',aw w' a' len c' m T rs (fun k=>base<=k/\k<w'.heap.size)->w.grownBy w' v0.ownBlock->K (a.put o.dst (.slice a' len c')) w'):o.wp Tryz.prog a w K Q:=by
 have hlen:((rs.map bY).flatten).length=len*m:=by rw[ff (dQ fun j r hj=>(hm j r hj).1),List.length_map,hr.1]
 have hne:rs=[]\/∃b o,ad=(⟨b,o,none⟩:Addr):=by
  rcases hr.2.2.2 with h1|⟨b,o,e,_⟩
  ·exact .inl h1
  ·cases e;exact .inr ⟨b,o,rfl⟩
 have hnews:∀(j:Nat) u,((rs.map bY).flatten)[j]?=some u->w.cell? (ad.add j)=some u:=by
  rcases hne with rfl|⟨b,o,rfl⟩
  ·intro j u hu;simp at hu
  ·exact fD hr hm
 refine wp_append_own w s x t ho base T i z m bytes ht hi hz hsize hby hzs hsz v0 0 [] hs hown ad len cap (rs.map bY).flatten hx hlen hnews (db hr hm w (fun _=>True)).one dC (by have:(0+len)*bytes<=8*1000:=Nat.mul_le_mul ae hb8;omega) hbw ?_;intro v' w' ho' hg' _;rw[rA,List.nil_append] at ho';obtain⟨a',c',rfl,hR⟩:=(db hr hm w' (fun k=>base<=k/\k<w'.heap.size)).own ho' hr.1.symm hT (fun g hg=>ho'.lt g hg);rw[hr.1] at hR ⊢;exact h a' c' w' hR hg'
theorem ku (x:Kd):(kdF x).length=4/\cV (kdF x):=⟨rfl,fun i f h=>by
 rcases i with _|_|_|_|i <;> first|(cases h;exact⟨_,rfl⟩)|(simp[kdF] at h)⟩
theorem jY (x:Xd):(xdF x).length=5/\cV (xdF x):=⟨rfl,fun i f h=>by
 rcases i with _|_|_|_|_|i <;> first|(cases h;exact⟨_,rfl⟩)|(simp[xdF] at h)⟩
theorem dL {α:Type} {F:α->List Fv} {m:Nat} (hF:∀x,(F x).length=m/\cV (F x)) (xs:List α):∀(j:Nat) r,(xs.map F)[j]?=some r->r.length=m/\cV r:=by
 intro j r hj;rw[qT] at hj;obtain⟨x,_,rfl⟩:=qL.1 hj;exact hF x
def eC (B:Nat) (len m:Nat) (T:TypeId) (rs:List (List Fv)):Gi.Fact:=fun v w l h=> ∃a c,v=.slice a len c/\aw w a len c m T rs (fun k=>l<=k/\k<h)/\B<=l
theorem eC.mono (ex:Gi.Ex) (s:Option Tmp) (B len m:Nat) (T:TypeId) (rs:List (List Fv)):Gi.Fact.b8 (fun _=>Gi.Bel) ex s (eC B len m T rs):=by
 rintro s' _ _ _ v w w' l h ⟨a,c,h1,h2,h3⟩ hb;exact⟨a,c,h1,h2.below hb,h3⟩
def ClF (B:Nat) (c:Cl):Gi.Fact:=fun v w _ _=> ∃d:Ad,v=.agg #[.slice d.a1 d.l1 d.c1,.slice d.a2 d.l2 d.c2,.slice d.a3 d.l3 d.c3,.slice d.a4 d.l4 d.c4,.slice d.a5 d.l5 d.c5,.int .i64 c.now]/\br w d c.raw (fun k=>B<=k)
theorem ClF.mono (ex:Gi.Ex) (s:Option Tmp) (B:Nat) (c:Cl):Gi.Fact.b8 (fun _=>Gi.Bel) ex s (ClF B c):=by
 rintro s' _ _ _ v w w' l h ⟨d,h1,h2⟩ hb;exact⟨d,h1,h2.below hb⟩

theorem kY (d:Ad) (c:Cl) (w:World) (hr:aK w d c.raw) (hs:Sm c):
  Calls Tryz.prog 47 #[.agg #[.slice d.a1 d.l1 d.c1,.slice d.a2 d.l2 d.c2,.slice d.a3 d.l3 d.c3,.slice d.a4 d.l4 d.c4,.slice d.a5 d.l5 d.c5,.int .i64 c.now]] w fun e w'=> ∃d',e=.returned (.agg #[.slice d'.a1 d'.l1 d'.c1,.slice d'.a2 d'.l2 d'.c2,.slice d'.a3 d'.l3 d'.c3,.slice d'.a4 d'.l4 d'.c4,.slice d'.a5 d'.l5 d'.c5,.int .i64 c.now])/\br w' d' c.raw (fun k=>w.heap.size<=k)/\Below w.heap.size w w':=by
 have HR:=aa hr;have HS:=aa hs;have hl1:c.ns.length=d.l1:=by simpa using (show (c.ns.map ndF).length=d.l1 from hr.n.1)
 have hl2:c.ks.length=d.l2:=by simpa using (show (c.ks.map kdF).length=d.l2 from hr.k.1)
 have hl3:c.vs.length=d.l3:=by simpa using (show (c.vs.map vdF).length=d.l3 from hr.v.1)
 have hl4:c.xs.length=d.l4:=by simpa using (show (c.xs.map xdF).length=d.l4 from hr.x.1)
 have hl5:c.ps.length=d.l5:=by simpa using (show (c.ps.map pdF).length=d.l5 from hr.p.1)
 clear hr hs;obtain⟨i2,hi2⟩:=qL.1 jE;obtain⟨i4,hi4⟩:=qL.1 jA;have HI2:=aa hi2;have HI4:=aa hi4;clear hi2 hi4;obtain⟨W,hW0⟩:∃W,W=(w.alloc (.cells (clv d c.now) 37)).alloc (.cells (clo6 none 0 0 none 0 0 none 0 0 none 0 0 none 0 0 0) 37):=⟨_,rfl⟩;have HB:Hid (Below w.heap.size w W):=by rw[hW0];exact aF _ _ _
 have Bk:Hid (W.heap[w.heap.size]?=some (.cells (clv d c.now) 37 (0,0))):=by rw[hW0];exact cH _ _ _
 obtain⟨Br,hWs⟩:=nZ;go_enter Tryz.func47,Tryz.ntmps47;go_wp2_with fail;rw[<-hW0];clear hW0;rename_i K0 hK0;refine Gi.bq (ex:=fun _=>none) (Gi.Bel.rel 0) al rfl rfl al al ?_;refine' Gi.Grow.aP _ rfl ?_ ?_;rotate_left 1
 ·exact ea
 refine' Gi.Grow.aP _ rfl ?_ ?_;rotate_left 1
 ·refine Gi.Obl.plain rfl ?_;intro ac wg K lo hi hsz hW hpr hf hap hK;clear hsz hap hpr;have e3:=hf 3 aj;simp[Gi.av,qS] at e3;exact d_
 refine Gi.Grow.step (eC W.heap.size d.l1 7 72 (c.ns.map ndF)) rfl (eC.mono _ _ _ _ _ _ _) ?_ ?_
 ·refine Gi.Obl.plain rfl ?_;intro ac wg K lo hi hsz hW hpr hf hap hK;clear hsz hpr hap;have e4:=hf 4 aj;simp[Gi.av,qS] at e4;clear hf;go_simp;refine (ga d.a1 d.l1 d.c1 c.ns _ (HR.n.below (HB.trans (Below.mono hW HB.size))) (by have:=HS.n;omega) HS.ns).mono ?_;exact lT
 refine' Gi.Grow.aP _ rfl ?_ ?_;rotate_left 1
 ·exact ea
 refine' Gi.Grow.aP _ rfl ?_ ?_;rotate_left 1
 ·refine Gi.Obl.plain rfl ?_;intro ac wg K lo hi hsz hW hpr hf hap hK;clear hsz hap hpr;have e6:=hf 6 aj;simp[Gi.av,qS] at e6;exact d_
 refine Gi.Grow.step (eC W.heap.size d.l2 4 116 (c.ks.map kdF)) rfl (eC.mono _ _ _ _ _ _ _) ?_ ?_
 ·refine Gi.Obl.plain rfl ?_;intro ac wg K lo hi hsz hW hpr hf hap hK;clear hsz hpr hap;have e7:=hf 7 aj;simp[Gi.av,qS] at e7;clear hf;cases hq:d.a2 with
  | none=>
   have h0:c.ks=[]:=by
    rcases HR.k.2.2.2 with h|⟨b,o,e,_⟩
    ·have h9:c.ks.map kdF=[]:=h
     simpa using h9
    ·rw[hq] at e;cases e
   have hl0:d.l2=0:=by rw[<-hl2,h0];rfl
   rw[hq,hl0] at e7;go_simp;refine hK _ _ (qI _ _) ⟨none,0,by rw[hl0],?_,rR hW⟩;rw[hl0,h0];exact aw.nil _ _ _ _ _ ae
  | some ad=>
   rw[hq] at e7;have hin:=HR.k.below (HB.trans (Below.mono hW HB.size));have hin2:ay wg d.a2 d.l2 d.c2 4 (c.ks.map kdF):=hin;rw[hq] at hin2
   have hz:i2.zero=some (.agg #[.string ⟨#[]⟩,.bool false,.bool false,.string ⟨#[]⟩])/\i2.size=4/\i2.bytes=40:=by have:=HI2.2;simp only[rZ] at this;exact this
   refine jZ _ (.tmp 7) 32 116 rfl i2 (.agg #[.string ⟨#[]⟩,.bool false,.bool false,.string ⟨#[]⟩]) 4 40 Tryz.underlying32 HI2.1 hz.1 hz.2.1 hz.2.2 rfl aj aj wg.heap.size (.slice none 0 0) rfl (rv _ _ _ _) (qF _) (by simpa[Act.eval] using e7) hin2 (dL ku _) (by have:=HS.k;omega) aj ?_;intro a' c' w' hR hg;exact hK _ _ ((qI _ _).grown hg (qF _) (fun k hk=>by cases hk)) ⟨a',c',rfl,hR,rR hW⟩
 refine' Gi.Grow.aP _ rfl ?_ ?_;rotate_left 1
 ·exact ea
 refine' Gi.Grow.aP _ rfl ?_ ?_;rotate_left 1
 ·refine Gi.Obl.plain rfl ?_;intro ac wg K lo hi hsz hW hpr hf hap hK;clear hsz hap hpr;have e9:=hf 9 aj;simp[Gi.av,qS] at e9;exact d_
 refine Gi.Grow.step (eC W.heap.size d.l3 8 118 (c.vs.map vdF)) rfl (eC.mono _ _ _ _ _ _ _) ?_ ?_
 ·refine Gi.Obl.plain rfl ?_;intro ac wg K lo hi hsz hW hpr hf hap hK;clear hsz hpr hap;have e10:=hf 10 aj;simp[Gi.av,qS] at e10;clear hf;go_simp;refine (fZ d.a3 d.l3 d.c3 c.vs _ (HR.v.below (HB.trans (Below.mono hW HB.size))) (by have:=HS.v;omega) HS.vs).mono ?_;exact lT
 refine' Gi.Grow.aP _ rfl ?_ ?_;rotate_left 1
 ·exact ea
 refine' Gi.Grow.aP _ rfl ?_ ?_;rotate_left 1
 ·refine Gi.Obl.plain rfl ?_;intro ac wg K lo hi hsz hW hpr hf hap hK;clear hsz hap hpr;have e12:=hf 12 aj;simp[Gi.av,qS] at e12;exact d_
 refine Gi.Grow.step (eC W.heap.size d.l4 5 120 (c.xs.map xdF)) rfl (eC.mono _ _ _ _ _ _ _) ?_ ?_
 ·refine Gi.Obl.plain rfl ?_;intro ac wg K lo hi hsz hW hpr hf hap hK;clear hsz hpr hap;have e13:=hf 13 aj;simp[Gi.av,qS] at e13;clear hf;cases hq:d.a4 with
  | none=>
   have h0:c.xs=[]:=by
    rcases HR.x.2.2.2 with h|⟨b,o,e,_⟩
    ·have h9:c.xs.map xdF=[]:=h
     simpa using h9
    ·rw[hq] at e;cases e
   have hl0:d.l4=0:=by rw[<-hl4,h0];rfl
   rw[hq,hl0] at e13;go_simp;refine hK _ _ (qI _ _) ⟨none,0,by rw[hl0],?_,rR hW⟩;rw[hl0,h0];exact aw.nil _ _ _ _ _ ae
  | some ad=>
   rw[hq] at e13;have hin:=HR.x.below (HB.trans (Below.mono hW HB.size));have hin2:ay wg d.a4 d.l4 d.c4 5 (c.xs.map xdF):=hin;rw[hq] at hin2
   have hz:i4.zero=some (.agg #[.string ⟨#[]⟩,.int .i64 0,.string ⟨#[]⟩,.bool false,.string ⟨#[]⟩])/\i4.size=5/\i4.bytes=64:=by have:=HI4.2;simp only[rZ] at this;exact this
   refine jZ _ (.tmp 13) 34 120 rfl i4 (.agg #[.string ⟨#[]⟩,.int .i64 0,.string ⟨#[]⟩,.bool false,.string ⟨#[]⟩]) 5 64 Tryz.underlying34 HI4.1 hz.1 hz.2.1 hz.2.2 rfl aj aj wg.heap.size (.slice none 0 0) rfl (rv _ _ _ _) (qF _) (by simpa[Act.eval] using e13) hin2 (dL jY _) (by have:=HS.x;omega) aj ?_;intro a' c' w' hR hg;exact hK _ _ ((qI _ _).grown hg (qF _) (fun k hk=>by cases hk)) ⟨a',c',rfl,hR,rR hW⟩
 refine' Gi.Grow.aP _ rfl ?_ ?_;rotate_left 1
 ·exact ea
 refine' Gi.Grow.aP _ rfl ?_ ?_;rotate_left 1
 ·refine Gi.Obl.plain rfl ?_;intro ac wg K lo hi hsz hW hpr hf hap hK;clear hsz hap hpr;have e15:=hf 15 aj;simp[Gi.av,qS] at e15;exact d_
 refine Gi.Grow.step (eC W.heap.size d.l5 6 65 (c.ps.map pdF)) rfl (eC.mono _ _ _ _ _ _ _) ?_ ?_
 ·refine Gi.Obl.plain rfl ?_;intro ac wg K lo hi hsz hW hpr hf hap hK;clear hsz hpr hap;have e16:=hf 16 aj;simp[Gi.av,qS] at e16;clear hf;go_simp;refine (f_ d.a5 d.l5 d.c5 c.ps _ (HR.p.below (HB.trans (Below.mono hW HB.size))) (by have:=HS.p;omega) HS.ps).mono ?_;exact lT
 refine' Gi.Grow.aP _ rfl ?_ ?_;rotate_left 1
 ·exact ea
 refine' Gi.Grow.aP _ rfl ?_ ?_;rotate_left 1
 ·refine Gi.Obl.plain rfl ?_;intro ac wg K lo hi hsz hW hpr hf hap hK;clear hsz hap hpr;have e18:=hf 18 aj;simp[Gi.av,qS] at e18;exact d_
 refine Gi.Grow.step (ClF W.heap.size c) rfl (ClF.mono _ _ _ _) ?_ ?_
 ·refine Gi.Obl.plain rfl ?_;intro ac wg K lo hi hsz hW hpr hf hap hK;clear hsz hpr;have e5:=hf 5 aj;simp[Gi.av,qS] at e5;have e8:=hf 8 aj;simp[Gi.av,qS] at e8;have e11:=hf 11 aj;simp[Gi.av,qS] at e11;have e14:=hf 14 aj;simp[Gi.av,qS] at e14;have e17:=hf 17 aj;simp[Gi.av,qS] at e17;have e19:=hf 19 aj;simp[Gi.av,qS] at e19;clear hf;obtain⟨a1,c1,e5,ho1,hB1⟩:=e5;obtain⟨a2,c2,e8,ho2,hB2⟩:=e8;obtain⟨a3,c3,e11,ho3,hB3⟩:=e11;obtain⟨a4,c4,e14,ho4,hB4⟩:=e14;obtain⟨a5,c5,e17,ho5,hB5⟩:=e17;have hap2:∀t∈[5,8,11,14,17],∀t'∈[5,8,11,14,17],¬t=t'->hi t<=lo t'\/hi t'<=lo t:=by
   intro t ht t' ht' hne;refine hap t ?_ t' ?_ ?_ ?_ hne
   ·simp only[ry,ru,or_false] at ht;rcases ht with rfl|rfl|rfl|rfl|rfl <;> decide
   ·simp only[ry,ru,or_false] at ht';rcases ht' with rfl|rfl|rfl|rfl|rfl <;> decide
   ·simp only[ry,ru,or_false] at ht;rcases ht with rfl|rfl|rfl|rfl|rfl <;> rfl
   ·simp only[ry,ru,or_false] at ht';rcases ht' with rfl|rfl|rfl|rfl|rfl <;> rfl
  clear hap;have q01:=hap2 5 aj 8 aj aj;have q02:=hap2 5 aj 11 aj aj;have q03:=hap2 5 aj 14 aj aj;have q04:=hap2 5 aj 17 aj aj;have q12:=hap2 8 aj 11 aj aj;have q13:=hap2 8 aj 14 aj aj;have q14:=hap2 8 aj 17 aj aj;have q23:=hap2 11 aj 14 aj aj;have q24:=hap2 11 aj 17 aj aj;have q34:=hap2 14 aj 17 aj aj;clear hap2;have hC:br wg ⟨a1,d.l1,c1,a2,d.l2,c2,a3,d.l3,c3,a4,d.l4,c4,a5,d.l5,c5⟩ c.raw (fun k=>W.heap.size<=k):=by
   refine⟨fun k=>if lo 5<=k/\k<hi 5 then 1 else if lo 8<=k/\k<hi 8 then 2 else if lo 11<=k/\k<hi 11 then 3 else if lo 14<=k/\k<hi 14 then 4 else 5,?_,?_,?_,?_,?_⟩
   ·exact ho1.eA (fun k _ s=>⟨by have s1:lo 5<=k:=s.1;show W.heap.size<=k;omega,by have s1:lo 5<=k:=s.1;have s2:k<hi 5:=s.2;show (if lo 5<=k/\k<hi 5 then 1 else if lo 8<=k/\k<hi 8 then 2 else if lo 11<=k/\k<hi 11 then 3 else if lo 14<=k/\k<hi 14 then 4 else 5)=1;rw[if_pos ⟨s1,s2⟩]⟩)
   ·exact ho2.eA (fun k _ s=>⟨by have s1:lo 8<=k:=s.1;show W.heap.size<=k;omega,by have s1:lo 8<=k:=s.1;have s2:k<hi 8:=s.2;show (if lo 5<=k/\k<hi 5 then 1 else if lo 8<=k/\k<hi 8 then 2 else if lo 11<=k/\k<hi 11 then 3 else if lo 14<=k/\k<hi 14 then 4 else 5)=2;rw[if_neg ae];rw[if_pos ⟨s1,s2⟩]⟩)
   ·exact ho3.eA (fun k _ s=>⟨by have s1:lo 11<=k:=s.1;show W.heap.size<=k;omega,by have s1:lo 11<=k:=s.1;have s2:k<hi 11:=s.2;show (if lo 5<=k/\k<hi 5 then 1 else if lo 8<=k/\k<hi 8 then 2 else if lo 11<=k/\k<hi 11 then 3 else if lo 14<=k/\k<hi 14 then 4 else 5)=3;rw[if_neg ae];rw[if_neg ae];rw[if_pos ⟨s1,s2⟩]⟩)
   ·exact ho4.eA (fun k _ s=>⟨by have s1:lo 14<=k:=s.1;show W.heap.size<=k;omega,by have s1:lo 14<=k:=s.1;have s2:k<hi 14:=s.2;show (if lo 5<=k/\k<hi 5 then 1 else if lo 8<=k/\k<hi 8 then 2 else if lo 11<=k/\k<hi 11 then 3 else if lo 14<=k/\k<hi 14 then 4 else 5)=4;rw[if_neg ae];rw[if_neg ae];rw[if_neg ae];rw[if_pos ⟨s1,s2⟩]⟩)
   ·exact ho5.eA (fun k _ s=>⟨by have s1:lo 17<=k:=s.1;show W.heap.size<=k;omega,by have s1:lo 17<=k:=s.1;have s2:k<hi 17:=s.2;show (if lo 5<=k/\k<hi 5 then 1 else if lo 8<=k/\k<hi 8 then 2 else if lo 11<=k/\k<hi 11 then 3 else if lo 14<=k/\k<hi 14 then 4 else 5)=5;rw[if_neg ae];rw[if_neg ae];rw[if_neg ae];rw[if_neg ae]⟩)
  have HC:=aa hC;clear hC ho1 ho2 ho3 ho4 ho5 q01 q02 q03 q04 q12 q13 q14 q23 q24 q34 hB1 hB2 hB3 hB4 hB5;go_simp;exact hK _ _ (qI _ _) ⟨_,rfl,HC.out⟩
 refine Gi.Grow.done ?_;intro q wz lo hi hW hf hap;clear hap;simp only[rP] at hf;obtain⟨hf20,-⟩:=hf;obtain⟨d',h20,ho⟩:=hf20 bn;have HO:=aa ho;have HBz:=aa (HB.trans (Below.mono hW HB.size));have gr:=(Below.block hW _ (ab Br.out)).trans Br.out;obtain⟨r0,r1,r2,r3,r4,r5⟩:=cs6 gr;have f0:=au gr 0;have f1:=au gr 1;have f2:=au gr 2;have f3:=au gr 3;have f4:=au gr 4;have f5:=au gr 5;clear gr ho hW;intro K hK;rw[if_pos (by rfl)];simp only[Gi.aW,List.foldr,Act.put,rq,rE,rU,h20];simp only[List.getLast];go_simp;refine hK _ _ ?_;refine hK0 _ _ ?_;clear hK hK0 K K0;go_wp2_with fail;refine bodyPost_ret (v:=.agg #[.slice d'.a1 d'.l1 d'.c1,.slice d'.a2 d'.l2 d'.c2,.slice d'.a3 d'.l3 d'.c3,.slice d'.a4 d'.l4 d'.c4,.slice d'.a5 d'.l5 d'.c5,.int .i64 c.now]) (by simp[results,Tryz.results47,go_sem, *]) rfl ⟨d',rfl,?_,sb1 (sb1 (sb1 (sb1 (sb1 (sb1 (HBz.out))))))⟩;obtain⟨P,hP⟩:=HO.out;exact⟨P,hP.aG (fun k _ s=>by have s1:W.heap.size<=k:=s;rw[qH _ _ _ _ (show k≠w.heap.size+1 by omega),qH _ _ _ _ (show k≠w.heap.size+1 by omega),qH _ _ _ _ (show k≠w.heap.size+1 by omega),qH _ _ _ _ (show k≠w.heap.size+1 by omega),qH _ _ _ _ (show k≠w.heap.size+1 by omega),qH _ _ _ _ (show k≠w.heap.size+1 by omega)]) (fun k _ s=>by have s1:W.heap.size<=k:=s;show w.heap.size<=k;omega)⟩

structure Co where
 c:Cl
 n:ByteArray
 p:Int
def cl0:Cl:=⟨[],[],[],[],[],0⟩
def co0 (p:Int):Co:=⟨cl0,⟨#[]⟩,p⟩
def ad0:Ad:=⟨none,0,0,none,0,0,none,0,0,none,0,0,none,0,0⟩
theorem pB (w:World) (S:Nat->Prop):br w ad0 cl0.raw S:=⟨fun _=>1,aw.nil _ _ _ _ _ (by decide),aw.nil _ _ _ _ _ (by decide),aw.nil _ _ _ _ _ (by decide),aw.nil _ _ _ _ _ (by decide),aw.nil _ _ _ _ _ (by decide)⟩
def qy (Is:Co->Prop) (w:World) (e:Ending) (w':World):Prop:=∃g o,e=.returned (.agg #[.slice g.a1 g.l1 g.c1,.slice g.a2 g.l2 g.c2,.slice g.a3 g.l3 g.c3,.slice g.a4 g.l4 g.c4,.slice g.a5 g.l5 g.c5,.int .i64 o.c.now,.string o.n,.int .i64 o.p])/\Is o/\br w' g o.c.raw (fun k=>w.heap.size<=k)/\Below w.heap.size w w'
def pZ (Is:Co->Prop) (w:World) (e:Ending) (w':World):Prop:=∃g o,e=.returned (.agg #[.slice g.a1 g.l1 g.c1,.slice g.a2 g.l2 g.c2,.slice g.a3 g.l3 g.c3,.slice g.a4 g.l4 g.c4,.slice g.a5 g.l5 g.c5,.int .i64 o.c.now,.string o.n,.int .i64 o.p])/\Is o/\aK w' g o.c.raw/\Below w.heap.size w w'

theorem du (g g':Ad) (o:Co) (w:World) (hr:aK w g o.c.raw) (hr':aK w g' o.c.raw):
  Calls Tryz.prog 12 #[.agg #[.slice g.a1 g.l1 g.c1,.slice g.a2 g.l2 g.c2,.slice g.a3 g.l3 g.c3,.slice g.a4 g.l4 g.c4,.slice g.a5 g.l5 g.c5,.int .i64 o.c.now,.string o.n,.int .i64 o.p],.agg #[.slice g'.a1 g'.l1 g'.c1,.slice g'.a2 g'.l2 g'.c2,.slice g'.a3 g'.l3 g'.c3,.slice g'.a4 g'.l4 g'.c4,.slice g'.a5 g'.l5 g'.c5,.int .i64 o.c.now,.string o.n,.int .i64 o.p]] w fun e w'=>e=.returned (.bool true)/\Below w.heap.size w w':=by
 have HR:=aa hr;have HR':=aa hr';have HB:=aa (qI w.heap.size w);clear hr hr';go_enter Tryz.func12,Tryz.ntmps12;go_wp2_with fail;refine (dm g g' o.c _ (HR.below (HB.trans ((aF _ _ _).mono HB.size))) (HR'.below (HB.trans ((aF _ _ _).mono HB.size)))).mono ?_;rintro e w1 ⟨rfl,hb⟩;obtain⟨HA0,HA1,hbx⟩:=cx hb;have Ba:=aa HA0;have Bb:=aa HA1;replace HB:=upB HB hbx;clear hb hbx HA0 HA1;obtain⟨a0,a1,a2,a3,a4,a5,a6,a7⟩:=cs8 Ba;obtain⟨b0,b1,b2,b3,b4,b5,b6,b7⟩:=cs8 Bb;go_wp2;go_ret;exact⟨rfl,HB.out⟩

theorem fV (g:Ad) (o:Co) (N:Int) (S:Nat->Prop) (w:World) (ho:br w g o.c.raw S) (hS:∀k,S k->k<w.heap.size) (hN:0<N) (hb:bZ N o.c.raw<=1152921504606846976):
  Calls Tryz.prog 14 #[.agg #[.slice g.a1 g.l1 g.c1,.slice g.a2 g.l2 g.c2,.slice g.a3 g.l3 g.c3,.slice g.a4 g.l4 g.c4,.slice g.a5 g.l5 g.c5,.int .i64 o.c.now,.string o.n,.int .i64 o.p],.int .i64 N] w fun e w'=>e=.returned (.int .i64 (bZ N o.c.raw))/\br w' g (mkC N o.c.raw) S/\ax S w w':=by
 have HO:=aa (ho.below (ai w (.cells #[.slice g.a1 g.l1 g.c1,.slice g.a2 g.l2 g.c2,.slice g.a3 g.l3 g.c3,.slice g.a4 g.l4 g.c4,.slice g.a5 g.l5 g.c5,.int .i64 o.c.now,.string o.n,.int .i64 o.p] 42)));have HS:=aa hS;clear ho hS;go_enter Tryz.func14,Tryz.ntmps14;go_wp2_with fail;refine (cN g o.c N S _ HO.out (fun k s=>by have:=HS.out k s;simp;omega) hN hb).mono ?_;rintro e w1 ⟨rfl,ho,hk⟩;have HO1:=aa ho;have HK:=aa ((ax.cd (S:=S) (ai w (.cells #[.slice g.a1 g.l1 g.c1,.slice g.a2 g.l2 g.c2,.slice g.a3 g.l3 g.c3,.slice g.a4 g.l4 g.c4,.slice g.a5 g.l5 g.c5,.int .i64 o.c.now,.string o.n,.int .i64 o.p] 42))).trans hk);clear ho hk;go_wp2;go_ret;exact⟨rfl,HO1.out,HK.out⟩

theorem gf (g:Ad) (o:Co) (N:Int) (w:World) (hr:aK w g (mkC N o.c.raw)) (hN:0<N) (hb:bZ N o.c.raw<=1152921504606846976):
  Calls Tryz.prog 15 #[.agg #[.slice g.a1 g.l1 g.c1,.slice g.a2 g.l2 g.c2,.slice g.a3 g.l3 g.c3,.slice g.a4 g.l4 g.c4,.slice g.a5 g.l5 g.c5,.int .i64 o.c.now,.string o.n,.int .i64 o.p],.int .i64 N] w fun e w'=>e=.returned (.int .i64 (bZ N o.c.raw))/\Below w.heap.size w w':=by
 have HR:=aa (hr.below (ai w (.cells #[.slice g.a1 g.l1 g.c1,.slice g.a2 g.l2 g.c2,.slice g.a3 g.l3 g.c3,.slice g.a4 g.l4 g.c4,.slice g.a5 g.l5 g.c5,.int .i64 o.c.now,.string o.n,.int .i64 o.p] 42)));clear hr;obtain⟨M,hM⟩:∃M,M=bZ N o.c.raw:=⟨_,rfl⟩;have hM0:¬M<0:=by rw[hM];have:=fU N o.c.raw;omega
 have HM:=aa hM;clear hM;go_enter Tryz.func15,Tryz.ntmps15;go_wp2_with fail;refine (eB g o.c o.c.now N _ HR.out hN hb).mono ?_;rintro e w1 ⟨rfl,hb1⟩;rw[<-HM.out];have HB:=aa (aJ hb1).2;clear hb1;go_wp2;go_ret;exact⟨by rw[<-HM.out];rfl,HB.out⟩

structure Sel {α β:Type} (xs ys:List α) (vss ws:List β) (k:Nat) (f:Nat->Nat):Prop where
 len:ws.length=ys.length
 y:∀j,j<ys.length->ys[j]?=xs[f j]?
 v:∀j,j<ys.length->ws[j]?=vss[f j]?
 lt:∀j,j<ys.length->f j<k
 inj:∀i j,i<ys.length->j<ys.length->f i=f j->i=j

theorem fE (p:Int):bZ 1 (co0 p).c.raw<=1152921504606846976:=by simp[co0,cl0,Cl.raw,bZ,ar]

theorem gK {w:World} {g:Nat} {cs:Array Value} {T:TypeId} {f:Nat×Nat} (h:w.heap[g]?=some (.cells cs T f)):Below w.heap.size w (w.setRow g cs):=by
 refine⟨rfl,rfl,rfl,by simp,fun k hk=>?_⟩;by_cases e:k=g
 ·subst e;rw[setRow_heap w k cs cs T f h,h]
 ·exact setRow_other w g k cs e

theorem bG {w:World} (t ty e:TypeId) (i:TypeInfo) (ht:Tryz.prog.underlying t=some (.slice e)) (hi:Tryz.prog.info? e=some i) (g cap:Nat):
  (Builtin.append_ #[t,t] ty #[.slice (some ⟨g,0,none⟩) 0 0,.slice none 0 cap]).run Tryz.prog w=.ok (.slice (some ⟨g,0,none⟩) 0 0) w:=by
 simp[Builtin.append_,run_underlying ht,sizeOf,typeInfo,hi,Builtin.lenOf,Builtin.firstCells,storeCells]

theorem bN.here {w:World} {g l c:Nat} {zs:List ByteArray} {S S':Nat->Prop} (h:bN w (some ⟨g,0,none⟩) l c zs S) (hS:S' g):bN w (some ⟨g,0,none⟩) l c zs S':=
 ⟨h.1,h.2.imp id fun ⟨g',cur,e,_,hg⟩=>by cases e;exact⟨g,cur,rfl,hS,hg⟩⟩

theorem dZ {w:World} {g0:Nat} {va:Option Addr} {len cap:Nat} {zs:List ByteArray} (ty:TypeId) (hg:w.heap[g0]?=some (.cells #[] 9 (0,0))) (hr:an w va len cap zs) (hl:len<=8001):
  ∃a l c w',(Builtin.append_ #[63,63] ty #[.slice (some ⟨g0,0,none⟩) 0 0,.slice va len cap]).run Tryz.prog w=.ok (.slice a l c) w'/\bN w' a l c zs (fun k=>k=g0\/w.heap.size<=k)/\Below w.heap.size w w':=by
 obtain⟨i0,hi,hz0,hz1,hz2⟩:=info_parts eF;have hzl:=hr.1;rcases Nat.eq_zero_or_pos len with h0|h0
 ·subst h0;obtain rfl:zs=[]:=rn hzl;cases va with
  | none=>exact⟨_,_,_,_,bG 63 ty 9 i0 Tryz.underlying63 hi g0 cap,⟨⟨rfl,qF _,by omega,fun j x hx=>by simp at hx,.inl rfl⟩,.inl rfl⟩,qI _ _⟩
  | some ad=>
   have h:=run_append_room (P:=Tryz.prog) w 63 ty 9 i0 Tryz.underlying63 hi g0 0 0 #[] hg ad 0 cap [] a8 (fun j u hu=>by simp at hu) (fun u hu=>by simp at hu) ae a8;exact⟨_,_,_,_,h,⟨⟨rfl,qF _,by omega,fun j x hx=>by simp at hx,.inl rfl⟩,.inl rfl⟩,by simpa using gK hg⟩
 ·cases va with
  | none=>
   rcases hr.2.2.2.2 with h|⟨b,o,e,_⟩
   ·subst h;simp at hzl;omega
   ·cases e
  | some ad=>
   have h:=run_append_grow (P:=Tryz.prog) w 63 ty 9 i0 (.string ⟨#[]⟩) Tryz.underlying63 hi hz0 ⟨g0,0,none⟩ 0 0 [] a8 (fun j u hu=>by simp at hu) ad len cap (zs.map qV) (by rw[hz1];simpa using hzl) (Ap.kp hr) ae ae (growslice_fits ae eL);obtain⟨v',w',hr2,h2,h3,h4⟩:=run_append_own (P:=Tryz.prog) w (base:=0) 63 ty 9 i0 (.string ⟨#[]⟩) 1 16 Tryz.underlying63 hi hz0 hz1 hz2 rfl aj (.slice (some ⟨g0,0,none⟩) 0 0) 0 [] ⟨rfl,.inr ⟨g0,0,#[],rfl,Nat.zero_le _,hg,qF _,by unfold maxLen;omega,rfl,rfl⟩⟩ ad len cap (zs.map qV) (by simpa using hzl) (Ap.kp hr) (fun u hu=>by obtain⟨x,_,rfl⟩:=List.mem_map.1 hu;rfl) dC ae (Nat.zero_le _);rw[h] at hr2
   cases hr2
   rw[rA,List.nil_append] at h2;obtain⟨a',c',e,hT⟩:=bN.pD h2 hr.2.2.2.1;have hbel:Below w.heap.size w (w.drew.alloc (.cells (([]:List Value).toArray++(zs.map qV).toArray++Builtin.zeroCells (qV ⟨#[]⟩).cells (grownCap w (0+len) 0 9 - (0+len))) 9)):=⟨rfl,rfl,rfl,by simp,fun k hk=>heap_alloc_old w.drew _ (by simpa using hk)⟩;simp only[rA] at e h hbel ⊢
   cases e
   exact⟨_,_,_,_,h,hT.here (.inr (qF _)),hbel⟩
theorem dw {ops:Array Oper} {rest:List Oper} {o:Oper} {a:Act} {w:World} {Q:Exit->Act->World->Prop} (hgd:o.guard=none) (s x:Operand) (ho:o.op=.call { callee:=.builtin .append,args:=#[s,x],argTypes:=#[63,63] }) (g0:Nat) (hs:a.eval s=.slice (some ⟨g0,0,none⟩) 0 0) (hg:w.heap[g0]?=some (.cells #[] 9 (0,0)))
  (va:Option Addr) (len cap:Nat) (hx:a.eval x=.slice va len cap) (zs:List ByteArray) (hr:an w va len cap zs) (hl:len<=8001)
  (h:∀a' l c w',bN w' a' l c zs (fun k=>k=g0\/w.heap.size<=k)->Below w.heap.size w w'->wpList Tryz.prog ops Q rest (a.put o.dst (.slice a' l c)) w'):wpList Tryz.prog ops Q (o ::rest) a w:=by
 refine wpList_plain hgd fun K hK=>?_;obtain⟨a',l,c,w',hrun,h1,h2⟩:=dZ o.type hg hr hl;unfold Oper.wp execOp;simp only[ho,resolve,invoke,builtin,Sem.run_bind,Sem.run_pure,Result.andThen_ok,List.map_toArray,List.map_cons,List.map_nil,hs,hx,hrun];exact hK _ _ (h a' l c w' h1 h2)

theorem ez {w:World} {g0:Nat} {va:Option Addr} {len cap m bytes:Nat} {rs:List (List Fv)} (t ty T:TypeId) (i:TypeInfo) (z:Value) (ht:Tryz.prog.underlying t=some (.slice T)) (hi:Tryz.prog.info? T=some i) (hz:i.zero=some z) (hsize:i.size=m) (hby:i.bytes=bytes) (hzs:z.cells.size=m) (hsz:0<m) (hT:¬T=9) (hg:w.heap[g0]?=some (.cells #[] T (0,0)))
  (hr:ay w va len cap m rs) (hm:∀(j:Nat) r,rs[j]?=some r->r.length=m/\cV r) (hl:len<=8) (hb8:bytes<=1000):
  ∃a c w',(Builtin.append_ #[t,t] ty #[.slice (some ⟨g0,0,none⟩) 0 0,.slice va len cap]).run Tryz.prog w=.ok (.slice a len c) w'/\aw w' a len c m T rs (fun k=>k=g0\/w.heap.size<=k)/\Below w.heap.size w w':=by
 rcases Nat.eq_zero_or_pos len with h0|h0
 ·subst h0;obtain rfl:rs=[]:=rn hr.1;cases va with
  | none=>exact⟨_,_,_,bG t ty T i ht hi g0 cap,aw.nil _ _ _ _ _ ae,qI _ _⟩
  | some ad=>
   have h:=run_append_room (P:=Tryz.prog) w t ty T i ht hi g0 0 0 #[] hg ad 0 cap [] a8 (fun j u hu=>by simp at hu) (fun u hu=>by simp at hu) ae a8;exact⟨_,_,_,h,aw.nil _ _ _ _ _ ae,by simpa using gK hg⟩
 ·have hlen:((rs.map bY).flatten).length=len*m:=by rw[ff (dQ fun j r hj=>(hm j r hj).1),List.length_map,hr.1]
  obtain⟨ad,rfl,hnews⟩:∃ad,va=some ad/\∀(j:Nat) u,((rs.map bY).flatten)[j]?=some u->w.cell? (ad.add j)=some u:=by
   rcases hr.2.2.2 with h|⟨b,o,rfl,_⟩
   ·subst h;have:=hr.1;simp at this;omega
   ·exact⟨_,rfl,fD hr hm⟩
  have h:=run_append_grow (P:=Tryz.prog) w t ty T i z ht hi hz ⟨g0,0,none⟩ 0 0 [] a8 (fun j u hu=>by simp at hu) ad len cap (rs.map bY).flatten (by rw[hsize];exact hlen) hnews ae ae (growslice_fits ae (by rw[hby];have:(0+len)*bytes<=8*1000:=Nat.mul_le_mul ae hb8;omega));obtain⟨v',w',hr2,h2,h3,h4⟩:=run_append_own (P:=Tryz.prog) w (base:=0) t ty T i z m bytes ht hi hz hsize hby hzs hsz (.slice (some ⟨g0,0,none⟩) 0 0) 0 [] ⟨by simp,.inr ⟨g0,0,#[],rfl,Nat.zero_le _,hg,qF _,by unfold maxLen;omega,by simp,by simp⟩⟩ ad len cap (rs.map bY).flatten hlen hnews (db hr hm w (fun _=>True)).one dC (by have:(0+len)*bytes<=8*1000:=Nat.mul_le_mul ae hb8;omega) (Nat.zero_le _);rw[h] at hr2;cases hr2;rw[rA,List.nil_append] at h2;obtain⟨a',c',e,hR⟩:=(db hr hm _ (fun k=>k=g0\/w.heap.size<=k)).own h2 hr.1.symm hT (fun g hg=>by simp[Value.ownBlock] at hg;exact .inr ae);have hbel:Below w.heap.size w (w.drew.alloc (.cells (([]:List Value).toArray++((rs.map bY).flatten).toArray++Builtin.zeroCells z.cells (grownCap w (0+len) 0 T - (0+len))) T)):=⟨rfl,rfl,rfl,by simp,fun k hk=>heap_alloc_old w.drew _ (by simpa using hk)⟩;rw[hr.1] at e hR;simp only[rA] at e h hbel hR ⊢;cases e;exact⟨_,_,_,h,hR,hbel⟩
theorem gq {o:Oper} {a:Act} {w:World} {K:Act->World->Prop} {Q:Exit->Act->World->Prop} {g0:Nat} {va:Option Addr} {len cap m bytes:Nat} {rs:List (List Fv)} (s x:Operand) (t T:TypeId) (ho:o.op=.call { callee:=.builtin .append,args:=#[s,x],argTypes:=#[t,t] }) (i:TypeInfo) (z:Value) (ht:Tryz.prog.underlying t=some (.slice T)) (hi:Tryz.prog.info? T=some i) (hz:i.zero=some z) (hsize:i.size=m) (hby:i.bytes=bytes) (hzs:z.cells.size=m) (hsz:0<m) (hT:¬T=9) (hs:a.eval s=.slice (some ⟨g0,0,none⟩) 0 0) (hg:w.heap[g0]?=some (.cells #[] T (0,0)))
  (hx:a.eval x=.slice va len cap) (hr:ay w va len cap m rs) (hm:∀(j:Nat) r,rs[j]?=some r->r.length=m/\cV r) (hl:len<=8) (hb8:bytes<=1000)
  (h:∀a' c' w',aw w' a' len c' m T rs (fun k=>k=g0\/w.heap.size<=k)->Below w.heap.size w w'->K (a.put o.dst (.slice a' len c')) w'):o.wp Tryz.prog a w K Q:=by
 obtain⟨a',c',w',hrun,h1,h2⟩:=ez t o.type T i z ht hi hz hsize hby hzs hsz hT hg hr hm hl hb8;unfold Oper.wp execOp;simp only[ho,resolve,invoke,builtin,Sem.run_bind,Sem.run_pure,Result.andThen_ok,List.map_toArray,List.map_cons,List.map_nil,hs,hx,hrun];exact h a' c' w' h1 h2

theorem j5 {w w':World} {o p:Obj} (h:Below (w.heap.size+1+1) ((w.alloc o).alloc p) w'):w'.heap[w.heap.size]?=some o/\w'.heap[w.heap.size+1]?=some p/\Below w.heap.size w w':=cx (by rw[eh,eh];exact h)
theorem di (w:World) (n:Nat) (hn:w.heap.size=n) (vs:List Value) (T:TypeId):∀(j:Nat) u,vs[j]?=some u->(w.alloc (.cells vs.toArray T)).cell? ((⟨n,0,none⟩:Addr).add j)=some u:=by
 subst hn;exact cE w vs T
theorem qp {w:World} {b:Nat} {T:TypeId} {u0 u1 u2 u3 u4 u5 v0 v1 v2 v3 v4 v5:Value} (h:w.heap[b]?=some (.cells #[u0,u1,u2,u3,u4,u5] T (0,0))):
  ((((((w.setCell ⟨b,0,none⟩ v0).setCell ⟨b,1,none⟩ v1).setCell ⟨b,2,none⟩ v2).setCell ⟨b,3,none⟩ v3).setCell ⟨b,4,none⟩ v4).setCell ⟨b,5,none⟩ v5).heap[b]?=some (.cells #[v0,v1,v2,v3,v4,v5] T (0,0)):=
 aC (aC (aC (aC (aC (aC h v0) v1) v2) v3) v4) v5
theorem cD {w:World} {b k:Nat} {v0 v1 v2 v3 v4 v5:Value} (hk:¬k=b):
  ((((((w.setCell ⟨b,0,none⟩ v0).setCell ⟨b,1,none⟩ v1).setCell ⟨b,2,none⟩ v2).setCell ⟨b,3,none⟩ v3).setCell ⟨b,4,none⟩ v4).setCell ⟨b,5,none⟩ v5).heap[k]?=w.heap[k]?:=by
 rw[qH _ _ _ _ hk,qH _ _ _ _ hk,qH _ _ _ _ hk,qH _ _ _ _ hk,qH _ _ _ _ hk,qH _ _ _ _ hk]
theorem aw.nt {w:World} {a:Option Addr} {len cap m:Nat} {T T':TypeId} {rs:List (List Fv)} {S:Nat->Prop} (h:aw w a len cap m T rs S) {b:Nat} {cs:Array Value} (hb:w.heap[b]?=some (.cells cs T' (0,0))) (h1:¬T'=T) (h2:¬T'=9):aw w a len cap m T rs (fun k=>S k/\¬k=b):=by
 obtain⟨a1,a2,a3,a4⟩:=h;refine⟨a1,a2,a3,a4.imp id ?_⟩;rintro⟨g,cur,H,e,h5⟩;refine⟨g,cur,H,e,h5.blk,⟨h5.inS,fun q=>?_⟩,h5.len,fun j r hj i f hi=>?_,h5.inj⟩
 ·subst q;have:=h5.blk;rw[hb] at this;cases this;exact h1 rfl
 ·obtain⟨v,q1,q2⟩:=h5.cell j r hj i f hi;refine⟨v,q1,?_⟩;cases f with
  | l zs=>
   obtain⟨a',l',c',k1,k2,k3,k4,k5,k6⟩:=q2;refine⟨a',l',c',k1,k2,k3,k4,k5,k6.imp id ?_⟩;rintro⟨z1,z2,z3,cu,z4,z5⟩;refine⟨z1,⟨z2,fun q=>?_⟩,z3,cu,z4,z5⟩;rw[q] at z4;rw[hb] at z4
   cases z4
   exact h2 rfl
  | _=>exact q2
theorem iC {w:World} {base n m:Nat} {T T':TypeId} {v u:Value} {xs:List Value} {b i:Nat} {cs:Array Value} (h:w.ownsRow base T m v n xs) (hb:w.heap[b]?=some (.cells cs T' (0,0))) (hT:¬T'=T):(w.setCell ⟨b,i,none⟩ u).ownsRow base T m v n xs:=by
 refine⟨h.1,h.2.imp id ?_⟩;rintro⟨g,cap,cur,h1,h2,h3,h4⟩;refine⟨g,cap,cur,h1,h2,(qH _ _ _ _ (fun e=>?_)).trans h3,h4⟩;subst e;rw[hb] at h3;cases h3;exact hT rfl
theorem aO.set {w:World} {S:Nat->Prop} {m:Nat} {rs:List (List Fv)} {vss:List (List Value)} {H:Nat->Nat->Nat} (h:aO w S m rs vss H) {b i:Nat} {cs:Array Value} {T':TypeId} {u:Value} (hb:w.heap[b]?=some (.cells cs T' (0,0))) (hT:¬T'=9):aO (w.setCell ⟨b,i,none⟩ u) S m rs vss H:=
 h.aG (fun k cu _ q=>qH _ _ _ _ (fun e=>by subst e;rw[hb] at q;cases q;exact hT rfl)) (fun _ _ s=>s)
theorem ax.iE {S:Nat->Prop} {W w:World} {vb:Option Nat} (hg:W.grownBy w vb) (h:∀g,vb=some g->S g):ax S W w:=⟨hg.os,hg.tape,hg.output,hg.size,fun k hk hn=>hg.block k hk (fun e=>hn (h k e.symm))⟩
theorem dr {w:World} {base n m:Nat} {T:TypeId} {v:Value} {xs:List Value} (h:w.ownsRow base T m v n xs):∃a l c,v=.slice a l c:=by
 rcases h.2 with ⟨rfl,_⟩|⟨g,cap,cur,rfl,_⟩
 ·exact⟨_,_,_,rfl⟩
 ·exact⟨_,_,_,rfl⟩
abbrev Cps (b:Nat) (X:World):Nat->Prop:=fun k=>k=b\/X.heap.size<=k
theorem jT {X wr W w5:World} {b3 k m:Nat} {T TC:TypeId} {v:Value} {xs:List Value} {cs:Array Value} (hO:wr.ownsRow X.heap.size T m v k xs) (hBo:wr.heap[b3]?=some (.cells cs TC (0,0))) (hb3:b3<X.heap.size) (hb:Below wr.heap.size wr W) (hg:W.grownBy w5 v.ownBlock):w5.heap[b3]?=some (.cells cs TC (0,0)):=
 (hg.block b3 (qO (ab hBo) hb.size) (fun e=>by have:=(hO.lt b3 e.symm).1;omega)).trans ((hb.block _ (ab hBo)).trans hBo)
theorem kC {X wr W w5:World} {b3 k m f:Nat} {T TC:TypeId} {v v':Value} {rs:List (List Fv)} {vss:List (List Value)} {H:Nat->Nat->Nat} {cs:Array Value} {r:List Fv} {vs:List Value} {hh:Nat} (hK:ax (Cps b3 X) X wr) (hO:wr.ownsRow X.heap.size T m v k vss.flatten) (hV:aO wr (fun k=>X.heap.size<=k) m rs vss H) (hBo:wr.heap[b3]?=some (.cells cs TC (0,0))) (hb3:b3<X.heap.size)
  (hb:Below wr.heap.size wr W) (hown:w5.ownsRow X.heap.size T m v' (k+1) (vss.flatten++vs)) (hg:W.grownBy w5 v.ownBlock) (hT:¬T=9) (hTC:¬TC=T) (hTS:¬TC=9) (hr:r.length=m) (hvs:vs.length=m) (hc:∀(i:Nat) f,r[i]?=some f->∃v,vs[i]?=some v/\f.Fr W hh (fun k=>X.heap.size<=k) v) (hfr:∀(i:Nat) zs,r[i]?=some (.l zs)->zs≠[]->wr.heap.size<=hh)
  (h1:∀(i i':Nat) zs zs',r[i]?=some (.l zs)->zs≠[]->r[i']?=some (.l zs')->zs'≠[]->i=i'):
  ax (Cps b3 X) X (w5.setCell ⟨b3,f,none⟩ v')/\(w5.setCell ⟨b3,f,none⟩ v').ownsRow X.heap.size T m v' (k+1) (vss++[vs]).flatten/\(∃H',aO (w5.setCell ⟨b3,f,none⟩ v') (fun k=>X.heap.size<=k) m (rs++[r]) (vss++[vs]) H')/\(w5.setCell ⟨b3,f,none⟩ v').heap[b3]?=some (.cells (cs.setIfInBounds f v') TC (0,0)):=by
 have hb5:=jT hO hBo hb3 hb hg;refine⟨?_,?_,⟨_,(hV.app hb (bK hO hb) hT hg hr hvs hc hfr h1).set hb5 hTS⟩,aC hb5 v'⟩
 ·exact ((hK.trans (ax.cd hb)).trans (ax.iE hg (fun g e=>.inr (hO.lt g e).1))).set (.inl rfl)
 ·rw[List.flatten_append];refine iC ?_ hb5 hTC;simpa using hown
structure qA (w:World) (d:Ad) (c:Cr) (S:Nat->Prop):Prop where
 n:aw w d.a1 d.l1 d.c1 7 72 c.n S
 k:aw w d.a2 d.l2 d.c2 4 116 c.k S
 v:aw w d.a3 d.l3 d.c3 8 118 c.v S
 x:aw w d.a4 d.l4 d.c4 5 120 c.x S
 p:aw w d.a5 d.l5 d.c5 6 65 c.p S
def EmF (B:Nat) (T:TypeId):Fact:=fun v w=> ∃b,v=.slice (some ⟨b,0,none⟩) 0 0/\B<=b/\w.heap[b]?=some (.cells #[] T (0,0))
theorem EmF.mono (B:Nat) (T:TypeId):Fact.b8 (EmF B T):=by
 rintro v w w' ⟨b,h1,h2,h3⟩ hb;exact⟨b,h1,h2,(hb.block _ (ab h3)).trans h3⟩
def RwF (B len m:Nat) (T:TypeId) (rs:List (List Fv)):Fact:=fun v w=> ∃a c,v=.slice a len c/\aw w a len c m T rs (fun k=>B<=k)
theorem RwF.mono (B len m:Nat) (T:TypeId) (rs:List (List Fv)):Fact.b8 (RwF B len m T rs):=by
 rintro v w w' ⟨a,c,h1,h2⟩ hb;exact⟨a,c,h1,h2.below hb⟩
def CpF (B l2 l4:Nat) (c:Cl):Fact:=fun v w=> ∃a2 c2 a4 c4,v=.agg #[.slice none 0 0,.slice a2 l2 c2,.slice none 0 0,.slice a4 l4 c4,.slice none 0 0,.int .i64 c.now]/\aw w a2 l2 c2 4 116 (c.ks.map kdF) (fun k=>B<=k)/\aw w a4 l4 c4 5 120 (c.xs.map xdF) (fun k=>B<=k)
theorem CpF.mono (B l2 l4:Nat) (c:Cl):Fact.b8 (CpF B l2 l4 c):=by
 rintro v w w' ⟨a2,c2,a4,c4,h1,h2,h3⟩ hb;exact⟨a2,c2,a4,c4,h1,h2.below hb,h3.below hb⟩
def FrF (B:Nat):Fact:=fun v w=> ∃b,v=.pointer (some ⟨b,0,none⟩)/\B<=b/\w.heap[b]?=some (.cells #[.slice none 0 0,.slice none 0 0,.slice none 0 0,.slice none 0 0,.slice none 0 0,.int .i64 0] 37 (0,0))
theorem FrF.mono (B:Nat):Fact.b8 (FrF B):=by
 rintro v w w' ⟨b,h1,h2,h3⟩ hb;exact⟨b,h1,h2,(hb.block _ (ab h3)).trans h3⟩

def Rv (vb:Option Nat) (sp:Tmp):Gi.Rs:=fun s w w'=>match s with
 | none=>w.grownBy w' vb
 | some t=>if t=sp then w.grownBy w' vb else Below w.heap.size w w'
theorem cf {w w':World} (vb:Option Nat) (h:Below w.heap.size w w'):w.grownBy w' vb:=⟨h.os,h.tape,h.output,h.size,fun k hk _=>h.block k hk⟩
theorem Rv.below {vb:Option Nat} {sp:Tmp} {s:Option Tmp} {w w':World} (h:Rv vb sp s w w') (h1:¬s=none) (h2:¬s=some sp):Below w.heap.size w w':=by
 cases s with
 | none=>exact absurd rfl h1
 | some t=>
  simp only[Rv] at h;rw[if_neg (fun e=>h2 (by rw[e]))] at h;exact h
theorem Rv.rel (vb:Option Nat) (sp:Tmp):Gi.Rel (Rv vb sp) sp:=by
 refine⟨fun w=>cf vb (qI _ _),fun {a b c} h k=>?_,fun h=>World.grownBy.size h,fun w=>cf vb (qI _ _).drew,fun s {a b} h=>?_,fun s {a b} h1 h2 h=>Rv.below h h1 h2⟩
 ·have h:World.grownBy a b vb:=h;have k:World.grownBy b c vb:=k;exact⟨k.os.trans h.os,k.tape.trans h.tape,k.output.trans h.output,qK h.size k.size,fun i hi hn=>(k.block i (qO hi h.size) hn).trans (h.block i hi hn)⟩
 ·cases s with
  | none=>exact h
  | some t=>
   show World.grownBy a b vb
   simp only[Rv] at h
   split at h
   ·exact h
   ·exact cf vb h
theorem Rv.other {vb:Option Nat} {sp t:Tmp} {w w':World} (ht:¬t=sp) (h:Below w.heap.size w w'):Rv vb sp (some t) w w':=by
 show (if t=sp then w.grownBy w' vb else Below w.heap.size w w');rw[if_neg ht];exact h
theorem Rv.this {vb:Option Nat} {sp:Tmp} {w w':World} (h:w.grownBy w' vb):Rv vb sp (some sp) w w':=by
 show (if sp=sp then w.grownBy w' vb else Below w.heap.size w w');rw[if_pos rfl];exact h
theorem mJ {w:World} {b:Nat} {vs:List Value} {T:TypeId} (h:w.heap[b]?=some (.cells vs.toArray T (0,0))):∀(j:Nat) u,vs[j]?=some u->w.cell? ((⟨b,0,none⟩:Addr).add j)=some u:=by
 intro j u hu;rw[Addr.add_lit,aE h,rA];simpa using hu
def TvF (B:Nat) (x:Vd):Gi.Fact:=fun u w _ _=> ∃a l c,u=.agg #[.string x.n,.int .i64 x.c,.string x.z,.string x.k,.bool x.x,.string x.m,.bool x.y,.slice a l c]/\bN w a l c x.zs (fun k=>B<=k)
def BsF (B:Nat) (x:Vd):Gi.Fact:=fun u w _ _=> ∃b a l c,u=.slice (some ⟨b,0,none⟩) 1 1/\B<=b/\w.heap[b]?=some (.cells #[.string x.n,.int .i64 x.c,.string x.z,.string x.k,.bool x.x,.string x.m,.bool x.y,.slice a l c] 118 (0,0))/\bN w a l c x.zs (fun k=>B<=k)
def ApF (B k:Nat) (rs:List (List Fv)) (vss:List (List Value)):Gi.Fact:=fun u w _ _=> ∃H' vs,w.ownsRow B 118 8 u (k+1) (vss++[vs]).flatten/\aO w (fun k=>B<=k) 8 rs (vss++[vs]) H'
theorem TvF.mono {vb:Option Nat} {sp:Tmp} {ex:Gi.Ex} {d:Option Tmp} {B:Nat} {x:Vd} (hv:∀g,vb=some g->g<B):Gi.Fact.b8 (Rv vb sp) ex d (TvF B x):=by
 rintro s _ _ _ v w w' l h ⟨a,l,c,h1,h2⟩ hb;have hb:w.grownBy w' vb:=(Rv.rel vb sp).sub s hb;exact⟨a,l,c,h1,h2.aG (fun k hk s=>hb.block k hk (fun e=>by have s1:B<=k:=s;have:=hv k e.symm;omega)) (fun _ _ s=>s)⟩
theorem BsF.mono {vb:Option Nat} {sp:Tmp} {ex:Gi.Ex} {d:Option Tmp} {B:Nat} {x:Vd} (hv:∀g,vb=some g->g<B):Gi.Fact.b8 (Rv vb sp) ex d (BsF B x):=by
 rintro s _ _ _ v w w' l h ⟨b,a,l,c,h1,h2,h3,h4⟩ hb;have hb:w.grownBy w' vb:=(Rv.rel vb sp).sub s hb;exact⟨b,a,l,c,h1,h2,(hb.block _ (ab h3) (fun e=>by have:=hv b e.symm;omega)).trans h3,h4.aG (fun k hk s=>hb.block k hk (fun e=>by have s1:B<=k:=s;have:=hv k e.symm;omega)) (fun _ _ s=>s)⟩
theorem ApF.mono {vb:Option Nat} {sp:Tmp} {ex:Gi.Ex} {B k:Nat} {rs:List (List Fv)} {vss:List (List Value)} :Gi.Fact.b8 (Rv vb sp) ex (some sp) (ApF B k rs vss):=by
 rintro s h1 h2 _ v w w' l h ⟨H',vs,h3,h4⟩ hb;have hb:=Rv.below hb h1 h2;exact⟨H',vs,bK h3 hb,h4.below hb⟩

theorem iU (d:Ad) (c:Cl) (w:World) (hr:aK w d c.raw) (hs:Sm c):
  Calls Tryz.prog 43 #[.agg #[.slice d.a1 d.l1 d.c1,.slice d.a2 d.l2 d.c2,.slice d.a3 d.l3 d.c3,.slice d.a4 d.l4 d.c4,.slice d.a5 d.l5 d.c5,.int .i64 c.now]] w fun e w'=> ∃d',e=.returned (.agg #[.slice d'.a1 d'.l1 d'.c1,.slice d'.a2 d'.l2 d'.c2,.slice d'.a3 d'.l3 d'.c3,.slice d'.a4 d'.l4 d'.c4,.slice d'.a5 d'.l5 d'.c5,.int .i64 c.now])/\qA w' d' c.raw (fun k=>w.heap.size<=k)/\Below w.heap.size w w':=by
 obtain⟨a1,l1,y1,a2,l2,y2,a3,l3,y3,a4,l4,y4,a5,l5,y5⟩:=d;dsimp only;obtain⟨HR,hl1,hm1,hl2,hm2,hl3,hm3,hl4,hm4,hl5,hm5⟩:=pw;clear hr;have HS:=aa hs;clear hs;obtain⟨i2,hi2⟩:=qL.1 jE;obtain⟨i4,hi4⟩:=qL.1 jA;obtain⟨i1,hi1⟩:=qL.1 jD;obtain⟨i3,hi3⟩:=qL.1 jB;obtain⟨i5,hi5⟩:=qL.1 jC;have HI1:=aa hi1;have HI2:=aa hi2;have HI3:=aa hi3;have HI4:=aa hi4;have HI5:=aa hi5;clear hi1 hi2 hi3 hi4 hi5;obtain⟨W,hW0⟩:∃W,W=(w.alloc (.cells (clo6 a1 l1 y1 a2 l2 y2 a3 l3 y3 a4 l4 y4 a5 l5 y5 c.now) 37)).alloc (.cells (clo6 none 0 0 none 0 0 none 0 0 none 0 0 none 0 0 0) 37):=⟨_,rfl⟩;have HB:Hid (Below w.heap.size w W):=by rw[hW0];exact aF _ _ _
 have Bk:Hid (W.heap[w.heap.size]?=some (.cells (clo6 a1 l1 y1 a2 l2 y2 a3 l3 y3 a4 l4 y4 a5 l5 y5 c.now) 37 (0,0))):=by rw[hW0];exact cH _ _ _
 obtain⟨Br,hWs⟩:=nZ;go_enter Tryz.func43,Tryz.ntmps43;go_wp2_with fail;rw[<-hW0];clear hW0;rename_i K0 hK0;refine bq al rfl rfl al ?_;refine Grow.step (EmF W.heap.size 116) rfl (EmF.mono _ _) ?_ ?_
 ·exact kj
 refine' Grow.aP _ rfl ?_ ?_;rotate_left 1
 ·exact jb
 refine' Grow.aP _ rfl ?_ ?_;rotate_left 1
 ·refine Obl.plain rfl ?_;intro ac wg K hsz hW hf hK;clear hsz;have e10:=hf 10 aj;simp[av,qS] at e10;exact fQ
 refine Grow.step (RwF W.heap.size l2 4 116 (c.ks.map kdF)) rfl (RwF.mono _ _ _ _ _) ?_ ?_
 ·refine Obl.plain rfl ?_;intro ac wg K hsz hW hf hK;clear hsz;have e9:=hf 9 aj;simp[av,qS] at e9;have e11:=hf 11 aj;simp[av,qS] at e11;clear hf;obtain⟨b0,e9,hB0,hg0⟩:=e9;have hz:i2.zero=some (.agg #[.string ⟨#[]⟩,.bool false,.bool false,.string ⟨#[]⟩])/\i2.size=4/\i2.bytes=40:=by have:=HI2.2;simp only[rZ] at this;exact this
  refine gq (.tmp 9) (.tmp 11) 32 116 rfl i2 (.agg #[.string ⟨#[]⟩,.bool false,.bool false,.string ⟨#[]⟩]) Tryz.underlying32 HI2.1 hz.1 hz.2.1 hz.2.2 rfl aj aj (by simpa[Act.eval] using e9) hg0 (by simpa[Act.eval] using e11) (HR.k.below (HB.trans (hW.mono HB.size))) (dL ku _) (show l2<=8 by have:=HS.k;omega) aj ?_;exact oB
 refine Grow.step (EmF W.heap.size 120) rfl (EmF.mono _ _) ?_ ?_
 ·exact kj
 refine' Grow.aP _ rfl ?_ ?_;rotate_left 1
 ·exact jb
 refine' Grow.aP _ rfl ?_ ?_;rotate_left 1
 ·refine Obl.plain rfl ?_;intro ac wg K hsz hW hf hK;clear hsz;have e14:=hf 14 aj;simp[av,qS] at e14;exact fQ
 refine Grow.step (RwF W.heap.size l4 5 120 (c.xs.map xdF)) rfl (RwF.mono _ _ _ _ _) ?_ ?_
 ·refine Obl.plain rfl ?_;intro ac wg K hsz hW hf hK;clear hsz;have e13:=hf 13 aj;simp[av,qS] at e13;have e15:=hf 15 aj;simp[av,qS] at e15;clear hf;obtain⟨b0,e13,hB0,hg0⟩:=e13;have hz:i4.zero=some (.agg #[.string ⟨#[]⟩,.int .i64 0,.string ⟨#[]⟩,.bool false,.string ⟨#[]⟩])/\i4.size=5/\i4.bytes=64:=by have:=HI4.2;simp only[rZ] at this;exact this
  refine gq (.tmp 13) (.tmp 15) 34 120 rfl i4 (.agg #[.string ⟨#[]⟩,.int .i64 0,.string ⟨#[]⟩,.bool false,.string ⟨#[]⟩]) Tryz.underlying34 HI4.1 hz.1 hz.2.1 hz.2.2 rfl aj aj (by simpa[Act.eval] using e13) hg0 (by simpa[Act.eval] using e15) (HR.x.below (HB.trans (hW.mono HB.size))) (dL jY _) (show l4<=8 by have:=HS.x;omega) aj ?_;exact oB
 refine' Grow.aP _ rfl ?_ ?_;rotate_left 1
 ·exact jb
 refine' Grow.aP _ rfl ?_ ?_;rotate_left 1
 ·refine Obl.plain rfl ?_;intro ac wg K hsz hW hf hK;clear hsz;have e17:=hf 17 aj;simp[av,qS] at e17;exact fQ
 refine Grow.step (CpF W.heap.size l2 l4 c) rfl (CpF.mono _ _ _ _) ?_ ?_
 ·refine Obl.plain rfl ?_;intro ac wg K hsz hW hf hK;clear hsz;have e12:=hf 12 aj;simp[av,qS] at e12;have e16:=hf 16 aj;simp[av,qS] at e16;have e18:=hf 18 aj;simp[av,qS] at e18;clear hf;obtain⟨p2,q2,e12,h12⟩:=e12;obtain⟨p4,q4,e16,h16⟩:=e16;have H12:=aa h12;have H16:=aa h16;clear h12 h16;go_simp;exact hK _ _ (qI _ _) ⟨p2,q2,p4,q4,rfl,H12.out,H16.out⟩
 refine Grow.step (FrF W.heap.size) rfl (FrF.mono _) ?_ ?_
 ·exact kj
 refine Grow.done ?_;intro q wz hW hf;simp only[rP] at hf;obtain⟨⟨b3,h3,hb3,hg3⟩,⟨p2,q2,p4,q4,h19,hR2,hR4⟩,-⟩:=hf;obtain⟨t0,t1,t2,t3,t4,t5⟩:=cs6 hg3;have f0:=au hg3 0;have f1:=au hg3 1;have f2:=au hg3 2;have f3:=au hg3 3;have f4:=au hg3 4;have f5:=au hg3 5;have BoX:=aa (qp (v0:=.slice none 0 0) (v1:=.slice p2 l2 q2) (v2:=.slice none 0 0) (v3:=.slice p4 l4 q4) (v4:=.slice none 0 0) (v5:=.int .i64 c.now) hg3);have HWX:Hid (Below W.heap.size W ((((((wz.setCell ⟨b3,0,none⟩ (.slice none 0 0)).setCell ⟨b3,1,none⟩ (.slice p2 l2 q2)).setCell ⟨b3,2,none⟩ (.slice none 0 0)).setCell ⟨b3,3,none⟩ (.slice p4 l4 q4)).setCell ⟨b3,4,none⟩ (.slice none 0 0)).setCell ⟨b3,5,none⟩ (.int .i64 c.now))):=af hb3 (af hb3 (af hb3 (af hb3 (af hb3 (af hb3 hW)))));have R2:Hid (aw ((((((wz.setCell ⟨b3,0,none⟩ (.slice none 0 0)).setCell ⟨b3,1,none⟩ (.slice p2 l2 q2)).setCell ⟨b3,2,none⟩ (.slice none 0 0)).setCell ⟨b3,3,none⟩ (.slice p4 l4 q4)).setCell ⟨b3,4,none⟩ (.slice none 0 0)).setCell ⟨b3,5,none⟩ (.int .i64 c.now)) p2 l2 q2 4 116 (c.ks.map kdF) (fun k=>W.heap.size<=k/\¬k=b3)):=(hR2.nt hg3 aj aj).aG (fun k hk s=>cD s.2) (fun k _ s=>s);have R4:Hid (aw ((((((wz.setCell ⟨b3,0,none⟩ (.slice none 0 0)).setCell ⟨b3,1,none⟩ (.slice p2 l2 q2)).setCell ⟨b3,2,none⟩ (.slice none 0 0)).setCell ⟨b3,3,none⟩ (.slice p4 l4 q4)).setCell ⟨b3,4,none⟩ (.slice none 0 0)).setCell ⟨b3,5,none⟩ (.int .i64 c.now)) p4 l4 q4 5 120 (c.xs.map xdF) (fun k=>W.heap.size<=k/\¬k=b3)):=(hR4.nt hg3 aj aj).aG (fun k hk s=>cD s.2) (fun k _ s=>s);clear hg3 hR2 hR4 hW;intro K hK;rw[if_pos (by rfl)];simp only[aW,List.foldr,Act.put,rq,rE,rU,h3,h19];simp only[List.getLast];go_simp;refine hK _ _ ?_;refine hK0 _ _ ?_;clear hK hK0 K K0;generalize ((((((wz.setCell ⟨b3,0,none⟩ (.slice none 0 0)).setCell ⟨b3,1,none⟩ (.slice p2 l2 q2)).setCell ⟨b3,2,none⟩ (.slice none 0 0)).setCell ⟨b3,3,none⟩ (.slice p4 l4 q4)).setCell ⟨b3,4,none⟩ (.slice none 0 0)).setCell ⟨b3,5,none⟩ (.int .i64 c.now))=X at BoX HWX R2 R4 ⊢;clear t0 t1 t2 t3 t4 t5 f0 f1 f2 f3 f4 f5;have HBX:=aa (HB.trans (HWX.mono HB.size));replace Bk:=aa ((HWX.block _ (ab Bk.out)).trans Bk.out);replace Br:=aa ((HWX.block _ (ab Br.out)).trans Br.out);have hb3X:=ab BoX.out;clear HB;go_wp2;go_loopw [4] (fun vi wr=> ∃(k:Nat) (vss:List (List Value)) (H:Nat->Nat->Nat) (v:Value),k<=l1/\vi=.int .i64 k/\Hid (ax (Cps b3 X) X wr)/\Hid (wr.ownsRow X.heap.size 72 7 v k vss.flatten)/\Hid (aO wr (fun k=>X.heap.size<=k) 7 ((c.ns.take k).map ndF) vss H)/\Hid (wr.heap[b3]?=some (.cells #[v,.slice p2 l2 q2,.slice none 0 0,.slice p4 l4 q4,.slice none 0 0,.int .i64 c.now] 37 (0,0)))) (fun vi _=>l1 - (intOf vi).toNat);case atStart=>exact⟨0,[],fun _ _=>0,.slice none 0 0,by omega,rfl,ax.refl _ _,rv _ _ _ _,aO.nil _ _ _ _,BoX⟩
 case round=>
  obtain⟨k,vss,H,v,hk,rfl,HK,HO,HV,Bo⟩:=hrel;obtain⟨hXs,HBW,BkR,hKs⟩:=lL;by_cases hlt:k<l1
  ·obtain⟨b,o,x,rfl,hb0,hx,hat⟩:=bp HR.n hlt;obtain⟨va,vl,vc,hvr,z0,z1,c0,c1,c2,c3,c4,c5,c6⟩:=aH hat;have hz8:vl<=8001:=by have h1:=hvr.1;have h2:=HS.ns k x hx;omega
   have HX:=aa hx;have HT:=aa hvr;have HZz0:=aa z0;have HZz1:=aa z1;clear hat hx hvr z0 z1;replace c0:=(ah HBW.out hb0).trans c0;replace c1:=(ah HBW.out hb0).trans c1;replace c2:=(ah HBW.out hb0).trans c2;replace c3:=(ah HBW.out hb0).trans c3;replace c4:=(ah HBW.out hb0).trans c4;replace c5:=(ah HBW.out hb0).trans c5;replace c6:=(ah HBW.out hb0).trans c6;have hbr:=qO hb0 HBW.size;have hkr:=ab BkR.out;have hor:=ab Bo.out;have hz:i1.zero=some (.agg #[.string ⟨#[]⟩,.string ⟨#[]⟩,.int .i64 0,.int .i64 0,.int .i64 0,.bool false,.slice none 0 0])/\i1.size=7/\i1.bytes=88:=by have:=HI1.2;simp only[rZ] at this;exact this
   obtain⟨k0,k1,k2,k3,k4,k5⟩:=cs6 BkR;go_wp2_with (first|(at_builtin;refine dw rfl _ _ rfl (wr.heap.size+1) rfl (bs _ _ _) va vl vc rfl x.zs (HT.below (HBW.trans ((aF _ _ _).mono HBW.size))) hz8 ?_));intro a' l' c' w2 hT2 hb2;obtain⟨hn2,-,hbx⟩:=j5 hb2;obtain⟨g,hg⟩:=hT2.fr;obtain⟨hs2,hsl⟩:=nT;have hb4:Below wr.heap.size wr ((w2.setCell ⟨wr.heap.size,6,none⟩ (.slice a' l' c')).alloc (.cells (nov x a' l' c') 72)):=(af (qF _) hbx).alloc fv _;have HF4:Hid (LFr ((w2.setCell ⟨wr.heap.size,6,none⟩ (.slice a' l' c')).alloc (.cells (nov x a' l' c') 72)) g (fun k=>X.heap.size<=k) x.zs (.slice a' l' c')):=hg.aG (fun cu _ q=>(qY _ _ _ (by simp[re];exact ab q)).trans (qH _ _ _ _ (fun e=>by subst e;rw[hn2] at q;cases q))) (fun _ s=>by have:=hsl _ s;show X.heap.size<=g;omega);obtain⟨HG,HB4,HO4⟩:=nR;obtain⟨n0,n1,n2,n3,n4,n5,n6⟩:=cs7 hn2;have fn3:=au hn2 3;have fn6:=au hn2 6;have bo2:=(hbx.block _ hor).trans Bo.out;obtain⟨o0,o1,o2,o3,o4,o5⟩:=cs6 bo2;clear hn2 hbx hT2 hg hb2 hsl hb4 bo2 k0 k1 k2 k3 k4 k5 c0 c1 c2 c3 c4 c5 c6;go_wp2_with (first|(at_builtin;refine wpList_append_own _ rfl _ _ 31 rfl X.heap.size 72 i1 (.agg #[.string ⟨#[]⟩,.string ⟨#[]⟩,.int .i64 0,.int .i64 0,.int .i64 0,.bool false,.slice none 0 0]) 7 88 Tryz.underlying31 HI1.1 hz.1 hz.2.1 hz.2.2 rfl aj _ _ _ rfl HO4.out ⟨w2.heap.size,0,none⟩ 1 1 [.string x.n,.string x.z,.int .i64 x.c,.int .i64 x.s,.int .i64 x.u,.bool x.d,.slice a' l' c'] rfl rfl ?c1 ?c2 ?c3 ?c4 ?c5 ?_));case c1=>exact di _ _ (by simp[re]) _ _
   case c2=>intro u hu;simp only[ry,ru,or_false] at hu;rcases hu with rfl|rfl|rfl|rfl|rfl|rfl|rfl <;> rfl
   case c3=>unfold maxLen;have:=HS.n;omega
   case c4=>have:=HS.n;omega
   case c5=>simp[re];omega
   rintro v' w5 hown5 hgrow -;obtain⟨v1',v2',v3',rfl⟩:=dr hown5;clear n0 n1 n2 n3 fn3 n4 n5 n6 fn6 o0 o1 o2 o3 o4 o5;have bo5:=jT HO.out Bo.out hb3X HB4.out hgrow;obtain⟨hs1,hs2',⟨H',hs3⟩,hs4⟩:=kC (f:=0) (r:=ndF x) (vs:=[.string x.n,.string x.z,.int .i64 x.c,.int .i64 x.s,.int .i64 x.u,.bool x.d,.slice a' l' c']) (hh:=g) HK.out HO.out HV.out Bo.out hb3X HB4.out hown5 hgrow aj aj aj rfl rfl (ph HZz0.out HZz1.out HF4.out) (fun i zs hi hz=>HG.out zs (kU hi).2.symm hz) (fun i i' zs zs' h1 _ h2 _=>(kU h1).1.trans (kU h2).1.symm);have e1:(c.ns.take (k+1)).map ndF=(c.ns.take k).map ndF++[ndF x]:=by rw[rm,HX.out];simp
   exact oT
  ·have hkl:k=l1:=ae
   have h5:=HV.out;rw[qM ae] at h5;obtain⟨p1,q1,hv,hR⟩:=h5.own HO.out cC aj (fun g hg=>(HO.lt g hg).1);have hl5:(c.ns.map ndF).length=l1:=by simpa using hl1
   rw[hl5] at hv hR;subst hv;have R1:=aa (hR.nt Bo.out aj aj);replace R2:=aa (R2.aG (fun k hk s=>HK.block k hk (fun q9=>by rcases q9 with q9|q9;exact s.2 q9;omega)) (fun _ _ s=>s));replace R4:=aa (R4.aG (fun k hk s=>HK.block k hk (fun q9=>by rcases q9 with q9|q9;exact s.2 q9;omega)) (fun _ _ s=>s));replace Br:=aa ((HK.block (w.heap.size+1) ae (fun s=>by rcases s with s|s <;> omega)).trans Br.out);replace Bk:=BkR;replace BoX:=Bo;replace HBX:=HBW;have hb3X1:=ab BoX.out;clear BkR Bo HBW h5 hR HV HO HK hl5 hkl hk hKs hXs;generalize wr=X1 at*;obtain⟨k0,k1,k2,k3,k4,k5⟩:=cs6 Bk;go_wp2;clear k0 k1 k2 k3 k4 k5 hlt;go_loopw [6] (fun vi wr=> ∃(k:Nat) (vss:List (List Value)) (H:Nat->Nat->Nat) (v:Value),k<=l3/\vi=.int .i64 k/\Hid (ax (Cps b3 X1) X1 wr)/\Hid (wr.ownsRow X1.heap.size 118 8 v k vss.flatten)/\Hid (aO wr (fun k=>X1.heap.size<=k) 8 ((c.vs.take k).map vdF) vss H)/\Hid (wr.heap[b3]?=some (.cells #[.slice p1 l1 q1,.slice p2 l2 q2,v,.slice p4 l4 q4,.slice none 0 0,.int .i64 c.now] 37 (0,0)))) (fun vi _=>l3 - (intOf vi).toNat);case atStart=>exact⟨0,[],fun _ _=>0,.slice none 0 0,by omega,rfl,ax.refl _ _,rv _ _ _ _,aO.nil _ _ _ _,BoX⟩
   case round=>
    obtain⟨k,vss,H,v,hk,rfl,HK,HO,HV,Bo⟩:=hrel;obtain⟨hXs,HBW,BkR,hKs⟩:=lL;by_cases hlt:k<l3
    ·obtain⟨b,o,x,rfl,hb0,hx,hat⟩:=bf HR.v hlt;obtain⟨va,vl,vc,hvr,z0,z2,z3,z5,c0,c1,c2,c3,c4,c5,c6,c7⟩:=aA hat;have hz8:vl<=8001:=by have h1:=hvr.1;have h2:=HS.vs k x hx;omega
     have HX:=aa hx;have HT:=aa hvr;have HZz0:=aa z0;have HZz2:=aa z2;have HZz3:=aa z3;have HZz5:=aa z5;clear hat hx hvr z0 z2 z3 z5;replace c0:=(ah HBW.out hb0).trans c0;replace c1:=(ah HBW.out hb0).trans c1;replace c2:=(ah HBW.out hb0).trans c2;replace c3:=(ah HBW.out hb0).trans c3;replace c4:=(ah HBW.out hb0).trans c4;replace c5:=(ah HBW.out hb0).trans c5;replace c6:=(ah HBW.out hb0).trans c6;replace c7:=(ah HBW.out hb0).trans c7;have hbr:=qO hb0 HBW.size;have hkr:=ab BkR.out;have hor:=ab Bo.out;have hz:i3.zero=some (.agg #[.string ⟨#[]⟩,.int .i64 0,.string ⟨#[]⟩,.string ⟨#[]⟩,.bool false,.string ⟨#[]⟩,.bool false,.slice none 0 0])/\i3.size=8/\i3.bytes=112:=by have:=HI3.2;simp only[rZ] at this;exact this
     obtain⟨k0,k1,k2,k3,k4,k5⟩:=cs6 BkR;have hvb:=fun g hg=>(HO.lt g hg).2;go_wp2_with fail;clear k0 k1 k2 k3 k4 k5;rename_i K0 hK0;refine Gi.bq (R:=Rv v.ownBlock 59) (ex:=fun _=>none) (Rv.rel _ _) al rfl rfl al al ?_;refine' Gi.Grow.aP _ rfl ?_ ?_;rotate_left 1
     ·exact mu
     refine' Gi.Grow.aP _ rfl ?_ ?_;rotate_left 1
     ·refine Gi.Obl.plain rfl ?_;intro ac wg K lo hi hsz hW hpr hf hap hK;clear hsz hap hpr;have hW:wr.grownBy wg v.ownBlock:=hW;have e50:=hf 50 aj;simp[Gi.av,qS] at e50;clear hf;obtain⟨o0,o1,o2,o3,o4,o5⟩:=cs6 ((hW.block b3 hor (fun e=>by have:=(HO.lt _ e.symm).1;omega)).trans Bo.out);exact eP
     refine' Gi.Grow.aP _ rfl ?_ ?_;rotate_left 1
     ·refine Gi.Obl.plain rfl ?_;intro ac wg K lo hi hsz hW hpr hf hap hK;clear hsz hap hpr;have hW:wr.grownBy wg v.ownBlock:=hW;have e1:=hf 1 aj;simp[Gi.av,qS] at e1;clear hf;exact eP
     refine' Gi.Grow.aP _ rfl ?_ ?_;rotate_left 1
     ·refine Gi.Obl.plain rfl ?_;intro ac wg K lo hi hsz hW hpr hf hap hK;clear hsz hap hpr;have hW:wr.grownBy wg v.ownBlock:=hW;have e52:=hf 52 aj;simp[Gi.av,qS] at e52;clear hf;obtain⟨k0,k1,k2,k3,k4,k5⟩:=cs6 ((hW.block w.heap.size hkr (fun e=>by have:=(HO.lt _ e.symm).1;omega)).trans BkR.out);exact eP
     refine' Gi.Grow.aP _ rfl ?_ ?_;rotate_left 1
     ·refine Gi.Obl.plain rfl ?_;intro ac wg K lo hi hsz hW hpr hf hap hK;clear hsz hap hpr;have hW:wr.grownBy wg v.ownBlock:=hW;have e6:=hf 6 aj;simp[Gi.av,qS] at e6;clear hf;exact eP
     refine' Gi.Grow.aP _ rfl ?_ ?_;rotate_left 1
     ·refine Gi.Obl.plain rfl ?_;intro ac wg K lo hi hsz hW hpr hf hap hK;clear hsz hap hpr;have hW:wr.grownBy wg v.ownBlock:=hW;have e53:=hf 53 aj;simp[Gi.av,qS] at e53;have e54:=hf 54 aj;simp[Gi.av,qS] at e54;clear hf;exact eP
     refine' Gi.Grow.aP _ rfl ?_ ?_;rotate_left 1
     ·refine Gi.Obl.plain rfl ?_;intro ac wg K lo hi hsz hW hpr hf hap hK;clear hsz hap hpr;have hW:wr.grownBy wg v.ownBlock:=hW;have e55:=hf 55 aj;simp[Gi.av,qS] at e55;clear hf;have c0g:=(rr (hW.block b hbr (fun e=>by have:=(HO.lt _ e.symm).1;omega))).trans c0;have c1g:=(rr (hW.block b hbr (fun e=>by have:=(HO.lt _ e.symm).1;omega))).trans c1;have c2g:=(rr (hW.block b hbr (fun e=>by have:=(HO.lt _ e.symm).1;omega))).trans c2;have c3g:=(rr (hW.block b hbr (fun e=>by have:=(HO.lt _ e.symm).1;omega))).trans c3;have c4g:=(rr (hW.block b hbr (fun e=>by have:=(HO.lt _ e.symm).1;omega))).trans c4;have c5g:=(rr (hW.block b hbr (fun e=>by have:=(HO.lt _ e.symm).1;omega))).trans c5;have c6g:=(rr (hW.block b hbr (fun e=>by have:=(HO.lt _ e.symm).1;omega))).trans c6;have c7g:=(rr (hW.block b hbr (fun e=>by have:=(HO.lt _ e.symm).1;omega))).trans c7;exact eP
     refine Gi.Grow.step (TvF wr.heap.size x) rfl (TvF.mono hvb) ?_ ?_
     ·refine Gi.Obl.plain rfl ?_;intro ac wg K lo hi hsz hW hpr hf hap hK;clear hsz hap hpr;have hW:wr.grownBy wg v.ownBlock:=hW;have e56:=hf 56 aj;simp[Gi.av,qS] at e56;clear hf;have hBg:=HBW.grown hW HBW.size (fun g hg=>by have:=(HO.lt g hg).1;omega);go_simp;refine (Ap.pN x.n x.c x.z x.k x.x x.m x.y va vl vc x.zs _ (HT.below hBg) hz8).mono ?_;rintro e w6 ⟨a',l',c',rfl,ho1,ho2,hb6⟩;have hws:=hW.size;exact hK _ _ (Rv.other aj hb6) ⟨a',l',c',rfl,bN.eA ⟨ho1,ho2⟩ (fun k _ s=>qK hws s)⟩
     refine Gi.Grow.step (BsF wr.heap.size x) rfl (BsF.mono hvb) ?_ ?_
     ·refine Gi.Obl.plain rfl ?_;intro ac wg K lo hi hsz hW hpr hf hap hK;clear hsz hap hpr;have hW:wr.grownBy wg v.ownBlock:=hW;have e57:=hf 57 aj;simp[Gi.av,qS] at e57;clear hf;obtain⟨a',l',c',e57,ho⟩:=e57;have HO7:=aa ho;clear ho;go_simp;exact hK _ _ (Rv.other aj (ai _ _)) ⟨_,a',l',c',rfl,hW.size,qN,HO7.below (ai _ _)⟩
     refine Gi.Grow.step (ApF X1.heap.size k ((c.vs.take (k+1)).map vdF) vss) rfl (ApF.mono) ?_ ?_
     ·refine Gi.Obl.plain rfl ?_;intro ac wg K lo hi hsz hW hpr hf hap hK;clear hsz hap;have hW:wr.grownBy wg v.ownBlock:=hW;have e51:=hf 51 aj;simp[Gi.av,qS] at e51;have e58:=hf 58 aj;simp[Gi.av,qS] at e58;clear hf;have hbW:=hpr rfl;clear hpr;obtain⟨b5,a',l',c',e58,hb5,hg5,ho5⟩:=e58;obtain⟨g,hg⟩:=ho5.fr;have hws:=hW.size;refine wp_append_own wg (.tmp 51) (.tmp 58) 33 rfl X1.heap.size 118 i3 (.agg #[.string ⟨#[]⟩,.int .i64 0,.string ⟨#[]⟩,.string ⟨#[]⟩,.bool false,.string ⟨#[]⟩,.bool false,.slice none 0 0]) 8 112 Tryz.underlying33 HI3.1 hz.1 hz.2.1 hz.2.2 rfl aj v k vss.flatten (by simpa[Act.eval] using e51) (bK HO.out hbW) ⟨b5,0,none⟩ 1 1 [.string x.n,.int .i64 x.c,.string x.z,.string x.k,.bool x.x,.string x.m,.bool x.y,.slice a' l' c'] (by simpa[Act.eval] using e58) rfl (mJ hg5) (by intro u hu;simp only[ry,ru,or_false] at hu;rcases hu with rfl|rfl|rfl|rfl|rfl|rfl|rfl|rfl <;> rfl) (by unfold maxLen;have:=HS.v;omega) (by have:=HS.v;omega) ae ?_;intro v' w' hown hgr _;have hV:=HV.app (r:=vdF x) (vs:=[.string x.n,.int .i64 x.c,.string x.z,.string x.k,.bool x.x,.string x.m,.bool x.y,.slice a' l' c']) (hh:=g) hbW (bK HO.out hbW) aj hgr rfl rfl (nO HZz0.out HZz2.out HZz3.out HZz5.out (hg.aG (S':=fun k=>X1.heap.size<=k) (fun cu _ q=>rfl) (fun _ s=>by have s1:wr.heap.size<=g:=s;show X1.heap.size<=g;omega))) (fun i zs hi hz=>by obtain⟨_,rfl⟩:=kI hi;exact (hg.lt hz).1) (fun i i' zs zs' h1 _ h2 _=>(kI h1).1.trans (kI h2).1.symm);have e1:(c.vs.take (k+1)).map vdF=(c.vs.take k).map vdF++[vdF x]:=by rw[rm,HX.out];simp
      rw[<-e1] at hV;exact hK _ _ (Rv.this hgr) ⟨_,[.string x.n,.int .i64 x.c,.string x.z,.string x.k,.bool x.x,.string x.m,.bool x.y,.slice a' l' c'],by rw[List.flatten_append];simpa using hown,hV⟩
     refine' Gi.Grow.aP _ rfl ?_ ?_;rotate_left 1
     ·exact mu
     refine Gi.Grow.done ?_;intro q wz lo hi hW hf hap;clear hap;have hW:wr.grownBy wz v.ownBlock:=hW;simp only[rP] at hf;obtain⟨h60,h59,-⟩:=hf;have h60:=h60 bn;obtain⟨H',vs',hs2,hs3⟩:=h59 bn;obtain⟨v',hv'⟩:∃v',q 59=v':=⟨_,rfl⟩;rw[hv'] at hs2;obtain⟨v1',v2',v3',rfl⟩:=dr hs2;have bo5:=(hW.block b3 hor (fun e=>by have:=(HO.lt _ e.symm).1;omega)).trans Bo.out;have HS1:=aa (((HK.trans (ax.iE hW (fun g e=>.inr (HO.lt g e).1))).set (i:=2) (v:=.slice v1' v2' v3') (.inl rfl)));have HS2:=aa (iC (i:=2) (u:=.slice v1' v2' v3') hs2 bo5 aj);have HS3:=aa (hs3.set (i:=2) (u:=.slice v1' v2' v3') bo5 aj);have HS4:=aa (aC (i:=2) bo5 (.slice v1' v2' v3'));obtain⟨o0,o1,o2,o3,o4,o5⟩:=cs6 bo5;have fo0:=au bo5 0;have fo2:=au bo5 2;have fo4:=au bo5 4;clear bo5 hs2 hs3 hW c0 c1 c2 c3 c4 c5 c6 c7;intro K hK;rw[if_pos (by rfl)];simp only[Gi.aW,List.foldr,Act.put,rq,rE,rU,h60,hv'];simp only[List.getLast];go_simp;refine hK _ _ ?_;refine hK0 _ _ ?_;clear hK hK0 K K0;go_wp2;exact⟨⟨k+1,_,H',_,by omega,by go_num,HS1,HS2,HS3,HS4⟩,by simp[intOf];omega⟩
    ·have hkl:k=l3:=ae
     have h5:=HV.out;rw[qM ae] at h5;obtain⟨p3,q3,hv,hR⟩:=h5.own HO.out cC aj (fun g hg=>(HO.lt g hg).1);have hl5:(c.vs.map vdF).length=l3:=by simpa using hl3
     rw[hl5] at hv hR;subst hv;have R3:=aa (hR.nt Bo.out aj aj);replace R2:=aa (R2.aG (fun k hk s=>HK.block k hk (fun q9=>by rcases q9 with q9|q9;exact s.2 q9;omega)) (fun _ _ s=>s));replace R4:=aa (R4.aG (fun k hk s=>HK.block k hk (fun q9=>by rcases q9 with q9|q9;exact s.2 q9;omega)) (fun _ _ s=>s));replace R1:=aa (R1.aG (fun k hk s=>HK.block k hk (fun q9=>by rcases q9 with q9|q9;exact s.2 q9;omega)) (fun _ _ s=>s));replace Br:=aa ((HK.block (w.heap.size+1) ae (fun s=>by rcases s with s|s <;> omega)).trans Br.out);replace Bk:=BkR;replace BoX:=Bo;replace HBX:=HBW;have hb3X2:=ab BoX.out;clear BkR Bo HBW h5 hR HV HO HK hl5 hkl hk hKs hXs;generalize wr=X2 at*;obtain⟨k0,k1,k2,k3,k4,k5⟩:=cs6 Bk;go_wp2;clear k0 k1 k2 k3 k4 k5 hlt;go_loopw [7] (fun vi wr=> ∃(k:Nat) (vss:List (List Value)) (H:Nat->Nat->Nat) (v:Value),k<=l5/\vi=.int .i64 k/\Hid (ax (Cps b3 X2) X2 wr)/\Hid (wr.ownsRow X2.heap.size 65 6 v k vss.flatten)/\Hid (aO wr (fun k=>X2.heap.size<=k) 6 ((c.ps.take k).map pdF) vss H)/\Hid (wr.heap[b3]?=some (.cells #[.slice p1 l1 q1,.slice p2 l2 q2,.slice p3 l3 q3,.slice p4 l4 q4,v,.int .i64 c.now] 37 (0,0)))) (fun vi _=>l5 - (intOf vi).toNat);case atStart=>exact⟨0,[],fun _ _=>0,.slice none 0 0,by omega,rfl,ax.refl _ _,rv _ _ _ _,aO.nil _ _ _ _,BoX⟩
     case round=>
      obtain⟨k,vss,H,v,hk,rfl,HK,HO,HV,Bo⟩:=hrel;obtain⟨hXs,HBW,BkR,hKs⟩:=lL;by_cases hlt:k<l5
      ·obtain⟨b,o,x,rfl,hb0,hx,hat⟩:=bI HR.p hlt;obtain⟨va,vl,vc,hvr,z0,z2,z4,c0,c1,c2,c3,c4,c5⟩:=aM hat;have hz8:vl<=8001:=by have h1:=hvr.1;have h2:=HS.ps k x hx;omega
       have HX:=aa hx;have HT:=aa hvr;have HZz0:=aa z0;have HZz2:=aa z2;have HZz4:=aa z4;clear hat hx hvr z0 z2 z4;replace c0:=(ah HBW.out hb0).trans c0;replace c1:=(ah HBW.out hb0).trans c1;replace c2:=(ah HBW.out hb0).trans c2;replace c3:=(ah HBW.out hb0).trans c3;replace c4:=(ah HBW.out hb0).trans c4;replace c5:=(ah HBW.out hb0).trans c5;have hbr:=qO hb0 HBW.size;have hkr:=ab BkR.out;have hor:=ab Bo.out;have hz:i5.zero=some (.agg #[.string ⟨#[]⟩,.int .i64 0,.string ⟨#[]⟩,.slice none 0 0,.string ⟨#[]⟩,.int .i64 0])/\i5.size=6/\i5.bytes=88:=by have:=HI5.2;simp only[rZ] at this;exact this
       obtain⟨k0,k1,k2,k3,k4,k5⟩:=cs6 BkR;go_wp2_with (first|(at_builtin;refine dw rfl _ _ rfl (wr.heap.size+1) rfl (bs _ _ _) va vl vc rfl x.zs (HT.below (HBW.trans ((aF _ _ _).mono HBW.size))) hz8 ?_));intro a' l' c' w2 hT2 hb2;obtain⟨hn2,-,hbx⟩:=j5 hb2;obtain⟨g,hg⟩:=hT2.fr;obtain⟨hs2,hsl⟩:=nT;have hb4:Below wr.heap.size wr ((w2.setCell ⟨wr.heap.size,3,none⟩ (.slice a' l' c')).alloc (.cells (pov x a' l' c') 65)):=(af (qF _) hbx).alloc fv _;have HF4:Hid (LFr ((w2.setCell ⟨wr.heap.size,3,none⟩ (.slice a' l' c')).alloc (.cells (pov x a' l' c') 65)) g (fun k=>X2.heap.size<=k) x.zs (.slice a' l' c')):=hg.aG (fun cu _ q=>(qY _ _ _ (by simp[re];exact ab q)).trans (qH _ _ _ _ (fun e=>by subst e;rw[hn2] at q;cases q))) (fun _ s=>by have:=hsl _ s;show X2.heap.size<=g;omega);obtain⟨HG,HB4,HO4⟩:=nR;obtain⟨n0,n1,n2,n3,n4,n5⟩:=cs6 hn2;have fn3:=au hn2 3;have bo2:=(hbx.block _ hor).trans Bo.out;obtain⟨o0,o1,o2,o3,o4,o5⟩:=cs6 bo2;clear hn2 hbx hT2 hg hb2 hsl hb4 bo2 k0 k1 k2 k3 k4 k5 c0 c1 c2 c3 c4 c5;go_wp2_with (first|(at_builtin;refine wpList_append_own _ rfl _ _ 35 rfl X2.heap.size 65 i5 (.agg #[.string ⟨#[]⟩,.int .i64 0,.string ⟨#[]⟩,.slice none 0 0,.string ⟨#[]⟩,.int .i64 0]) 6 88 Tryz.underlying35 HI5.1 hz.1 hz.2.1 hz.2.2 rfl aj _ _ _ rfl HO4.out ⟨w2.heap.size,0,none⟩ 1 1 [.string x.n,.int .i64 x.c,.string x.z,.slice a' l' c',.string x.d,.int .i64 x.p] rfl rfl ?c1 ?c2 ?c3 ?c4 ?c5 ?_));case c1=>exact di _ _ (by simp[re]) _ _
       case c2=>intro u hu;simp only[ry,ru,or_false] at hu;rcases hu with rfl|rfl|rfl|rfl|rfl|rfl <;> rfl
       case c3=>unfold maxLen;have:=HS.p;omega
       case c4=>have:=HS.p;omega
       case c5=>simp[re];omega
       rintro v' w5 hown5 hgrow -;obtain⟨v1',v2',v3',rfl⟩:=dr hown5;clear n0 n1 n2 n3 fn3 n4 n5 o0 o1 o2 o3 o4 o5;have bo5:=jT HO.out Bo.out hb3X2 HB4.out hgrow;obtain⟨hs1,hs2',⟨H',hs3⟩,hs4⟩:=kC (f:=4) (r:=pdF x) (vs:=[.string x.n,.int .i64 x.c,.string x.z,.slice a' l' c',.string x.d,.int .i64 x.p]) (hh:=g) HK.out HO.out HV.out Bo.out hb3X2 HB4.out hown5 hgrow aj aj aj rfl rfl (pg HZz0.out HZz2.out HZz4.out HF4.out) (fun i zs hi hz=>HG.out zs (kR hi).2.symm hz) (fun i i' zs zs' h1 _ h2 _=>(kR h1).1.trans (kR h2).1.symm);have e1:(c.ps.take (k+1)).map pdF=(c.ps.take k).map pdF++[pdF x]:=by rw[rm,HX.out];simp
       exact oT
      ·have hkl:k=l5:=ae
       have h5:=HV.out;rw[qM ae] at h5;obtain⟨p5,q5,hv,hR⟩:=h5.own HO.out cC aj (fun g hg=>(HO.lt g hg).1);have hl5:(c.ps.map pdF).length=l5:=by simpa using hl5
       rw[hl5] at hv hR;subst hv;have R5:=aa (hR.nt Bo.out aj aj);replace R2:=aa (R2.aG (fun k hk s=>HK.block k hk (fun q9=>by rcases q9 with q9|q9;exact s.2 q9;omega)) (fun _ _ s=>s));replace R4:=aa (R4.aG (fun k hk s=>HK.block k hk (fun q9=>by rcases q9 with q9|q9;exact s.2 q9;omega)) (fun _ _ s=>s));replace R1:=aa (R1.aG (fun k hk s=>HK.block k hk (fun q9=>by rcases q9 with q9|q9;exact s.2 q9;omega)) (fun _ _ s=>s));replace R3:=aa (R3.aG (fun k hk s=>HK.block k hk (fun q9=>by rcases q9 with q9|q9;exact s.2 q9;omega)) (fun _ _ s=>s));replace Br:=aa ((HK.block (w.heap.size+1) ae (fun s=>by rcases s with s|s <;> omega)).trans Br.out);replace Bk:=BkR;replace BoX:=Bo;replace HBX:=HBW;clear BkR Bo HBW h5 hR HV HO HK hl5 hkl hk hKs hXs;generalize wr=X3 at*;obtain⟨k0,k1,k2,k3,k4,k5⟩:=cs6 Bk;obtain⟨o0,o1,o2,o3,o4,o5⟩:=cs6 BoX;obtain⟨r0,r1,r2,r3,r4,r5⟩:=cs6 Br;have hXs:=HBX.size;obtain⟨fr0,fr1,fr2,fr3,fr4,fr5⟩:=er;go_wp2;refine bodyPost_ret (v:=.agg #[.slice p1 l1 q1,.slice p2 l2 q2,.slice p3 l3 q3,.slice p4 l4 q4,.slice p5 l5 q5,.int .i64 c.now]) (by simp[results,Tryz.results43,go_sem, *]) rfl ⟨⟨p1,l1,q1,p2,l2,q2,p3,l3,q3,p4,l4,q4,p5,l5,q5⟩,rfl,⟨?_,?_,?_,?_,?_⟩,sb1 (sb1 (sb1 (sb1 (sb1 (sb1 (HBX.out))))))⟩
       ·exact (R1.aG (S':=fun k=>w.heap.size<=k) (fun k hk s=>cD (by have s1:X.heap.size<=k:=s.1;omega)) (fun k _ s=>by have s1:X.heap.size<=k:=s.1;show w.heap.size<=k;omega))
       ·exact (R2.aG (S':=fun k=>w.heap.size<=k) (fun k hk s=>cD (by have s1:W.heap.size<=k:=s.1;omega)) (fun k _ s=>by have s1:W.heap.size<=k:=s.1;show w.heap.size<=k;omega))
       ·exact (R3.aG (S':=fun k=>w.heap.size<=k) (fun k hk s=>cD (by have s1:X1.heap.size<=k:=s.1;omega)) (fun k _ s=>by have s1:X1.heap.size<=k:=s.1;show w.heap.size<=k;omega))
       ·exact (R4.aG (S':=fun k=>w.heap.size<=k) (fun k hk s=>cD (by have s1:W.heap.size<=k:=s.1;omega)) (fun k _ s=>by have s1:W.heap.size<=k:=s.1;show w.heap.size<=k;omega))
       ·exact (R5.aG (S':=fun k=>w.heap.size<=k) (fun k hk s=>cD (by have s1:X2.heap.size<=k:=s.1;omega)) (fun k _ s=>by have s1:X2.heap.size<=k:=s.1;show w.heap.size<=k;omega))

theorem gH (p:Int) (w:World):
  Calls Tryz.prog 41 #[.int .i64 p] w fun e w'=>e=.returned (.agg #[.slice none 0 0,.slice none 0 0,.slice none 0 0,.slice none 0 0,.slice none 0 0,.int .i64 0,.string ⟨#[]⟩,.int .i64 p])/\Below w.heap.size w w':=by
 go_enter Tryz.func41,Tryz.ntmps41;go_wp2;exact bodyPost_ret (v:=.agg #[.slice none 0 0,.slice none 0 0,.slice none 0 0,.slice none 0 0,.slice none 0 0,.int .i64 0,.string ⟨#[]⟩,.int .i64 p]) (by simp[results,Tryz.results41,go_sem]) rfl ⟨rfl,ai _ _⟩

end Rc
end Go.Proofs.YtdoldaceehdifaaGreatDoor

namespace Go.Proofs.YtdoldaceehdifaaGreatDoor
open Go.RowKit
namespace Rc

section
variable {P:Program}
end

end Rc
end Go.Proofs.YtdoldaceehdifaaGreatDoor

namespace Go.Proofs.YtdoldaceehdifaaGreatDoor
open Go.RowKit
namespace Rc
open Mk

theorem loq {p:Prop} (h:p:=by first|omega|(obtain⟨s,_⟩:=s;omega)|(rcases s with s|s <;> omega)|(rcases s with (s|s)|s <;> omega)):p:=h
def UF (w:World) (g:Nat):Prop:=∃cs T,w.heap[g]?=some (.cells cs T (0,0))
def LoA (B:Nat) (w:World) (a:Option Addr) (len:Nat):Prop:=len=0\/∃b o,a=some ⟨b,o,none⟩/\B<=b/\UF w b
structure Low (B:Nat) (w:World) (d:Ad):Prop where
 n:LoA B w d.a1 d.l1
 k:LoA B w d.a2 d.l2
 v:LoA B w d.a3 d.l3
 x:LoA B w d.a4 d.l4
 p:LoA B w d.a5 d.l5
theorem lo0 (B:Nat) (w:World):Low B w ad0:=⟨.inl rfl,.inl rfl,.inl rfl,.inl rfl,.inl rfl⟩
theorem aw.lo {w:World} {a:Option Addr} {len cap m:Nat} {T:TypeId} {rs:List (List Fv)} {S:Nat->Prop} (h:aw w a len cap m T rs S) {B:Nat} (hS:∀k,S k->B<=k):LoA B w a len:=by
 obtain⟨h1,_,_,h4⟩:=h;rcases h4 with h4|⟨g,cur,H,h5,h6⟩
 ·subst h4;exact .inl h1.symm
 ·exact .inr ⟨g,0,h5,hS g h6.inS,_,_,h6.blk⟩
def RL (B:Nat) (w:World) (a:Option Addr) (len cap m:Nat) (rs:List (List Fv)):Prop:=ay w a len cap m rs/\LoA B w a len
theorem aw.rl {w:World} {a:Option Addr} {len cap m:Nat} {T:TypeId} {rs:List (List Fv)} {S:Nat->Prop} {B:Nat} (h:aw w a len cap m T rs S) (hS:∀k,S k->B<=k):RL B w a len cap m rs:=⟨h.row,h.lo hS⟩
structure jV (B:Nat) (w:World) (d:Ad) (c:Cr):Prop where
 n:RL B w d.a1 d.l1 d.c1 7 c.n
 k:RL B w d.a2 d.l2 d.c2 4 c.k
 v:RL B w d.a3 d.l3 d.c3 8 c.v
 x:RL B w d.a4 d.l4 d.c4 5 c.x
 p:RL B w d.a5 d.l5 d.c5 6 c.p
theorem jV.row {B:Nat} {w:World} {d:Ad} {c:Cr} (h:jV B w d c):aK w d c:=⟨h.n.1,h.k.1,h.v.1,h.x.1,h.p.1⟩
theorem jV.of {B:Nat} {w:World} {d:Ad} {c:Cr} (h:aK w d c) (l:Low B w d):jV B w d c:=⟨⟨h.n,l.n⟩,⟨h.k,l.k⟩,⟨h.v,l.v⟩,⟨h.x,l.x⟩,⟨h.p,l.p⟩⟩
theorem rl0 (B:Nat) (w:World):jV B w ad0 cl0.raw:=jV.of (pB w (fun _=>True)).row (lo0 B w)
def pL (Is:Co->Prop) (w:World) (e:Ending) (w':World):Prop:=∃g o,e=.returned (.agg #[.slice g.a1 g.l1 g.c1,.slice g.a2 g.l2 g.c2,.slice g.a3 g.l3 g.c3,.slice g.a4 g.l4 g.c4,.slice g.a5 g.l5 g.c5,.int .i64 o.c.now,.string o.n,.int .i64 o.p])/\Is o/\jV w.heap.size w' g o.c.raw/\Below w.heap.size w w'
theorem pL.s {Is:Co->Prop} {w:World} {e:Ending} {w':World} (h:pL Is w e w'):pZ Is w e w':=by
 obtain⟨g,o,h1,h2,h3,h4⟩:=h;exact⟨g,o,h1,h2,h3.row,h4⟩

def later (c:Cl) (n:Int):Cl:=⟨c.ns,c.ks,c.vs,c.xs,c.ps,c.now+n⟩
def bw (c:Cl) (n:Int) (o:Co):Prop:=(¬dv c/\o=co0 1)\/(dv c/\¬(Inn n 0 1000/\c.now+n<=1000000)/\o=co0 8)\/(dv c/\(Inn n 0 1000/\c.now+n<=1000000)/\o=⟨later c n,⟨#[]⟩,0⟩)
theorem bw.same {c:Cl} {n:Int} {o o':Co} (h:bw c n o) (h':bw c n o'):o=o':=by
 rcases h with ⟨a1,rfl⟩|⟨a1,a2,rfl⟩|⟨a1,a2,rfl⟩ <;> rcases h' with ⟨b1,rfl⟩|⟨b1,b2,rfl⟩|⟨b1,b2,rfl⟩
 all_goals first|rfl|exact absurd a1 b1|exact absurd b1 a1|exact absurd a2 b2|exact absurd b2 a2
theorem bw.marks {c:Cl} {n:Int} {o:Co} (h:bw c n o) (hf:eu c):bZ 1 o.c.raw<=1152921504606846976:=by
 rcases h with ⟨_,rfl⟩|⟨_,_,rfl⟩|⟨_,_,rfl⟩
 ·exact fE _
 ·exact fE _
 ·exact eu.marks (c:=later c n) ⟨hf.l1,hf.f1,hf.l2,hf.l3,hf.f3,hf.l4,hf.l5,hf.f5⟩

theorem fB (d:Ad) (c:Cl) (n:Int) (E:Nat->Addr) (w:World) (hr:aK w d c.raw) (hG:Ers w E):
  Calls Tryz.prog 11 #[.agg #[.slice d.a1 d.l1 d.c1,.slice d.a2 d.l2 d.c2,.slice d.a3 d.l3 d.c3,.slice d.a4 d.l4 d.c4,.slice d.a5 d.l5 d.c5,.int .i64 c.now],.int .i64 n] w (qy (bw c n) w):=by
 have HR:=aa hr;have HE:=aa hG;have HB:=aa (qI w.heap.size w);clear hr hG;go_enter Tryz.func11,Tryz.ntmps11;go_wp2_with fail;refine (jw d c _ (HR.below (HB.trans ((aF _ _ _).mono HB.size))) (HE.below (HB.trans ((aF _ _ _).mono HB.size))).ens).mono ?_;rintro e w1 ⟨r,rfl,hi,hb⟩;obtain⟨HA0,HA1,hbx⟩:=cx hb;have Bk:=aa HA0;have Br:=aa HA1;replace HB:=upB HB hbx;clear hb hbx HA0 HA1;have HI:=aa hi;clear hi;cases r
 ·have HV:Hid (bw c n (co0 1)):=.inl ⟨fun h=>(by have:=HI.2 h;cases this),rfl⟩;obtain⟨k0,k1,k2,k3,k4,k5⟩:=cs6 Bk;have ltk_1:=ab Bk.out;have ev:=(HE.below HB.out).v1;go_wp2_with fail;refine (gR E 1 1 rfl _ (HE.below HB.out) aj).mono ?_;rintro e w2 ⟨rfl,hb⟩;clear k0 k1 k2 k3 k4 k5 ltk_1;replace Bk:=upK Bk hb;replace Br:=upK Br hb;replace HB:=upB HB hb;clear hb;obtain⟨r0,r1,r2,r3,r4,r5,r6,r7⟩:=cs8 Br;have ltr_2:=ab Br.out;obtain⟨fr0,fr1,fr2,fr3,fr4,fr5⟩:=er;have fr6:=au Br.out 6;have fr7:=au Br.out 7;have hrl:w.heap.size+1<w2.heap.size:=ab Br.out;go_wp2;exact bodyPost_ret (v:=.agg #[.slice none 0 0,.slice none 0 0,.slice none 0 0,.slice none 0 0,.slice none 0 0,.int .i64 0,.string ⟨#[]⟩,.int .i64 1]) lz rfl ⟨ad0,co0 1,rfl,HV.out,pB _ _,sb1 (sb1 (sb1 (sb1 (sb1 (sb1 (sb1 (sb1 (HB.out))))))))⟩
 have HT:=aa (HI.1 bn);clear HI;have hnow:=HT.1;obtain⟨hn0,hn1⟩:=hnow;obtain⟨k0,k1,k2,k3,k4,k5⟩:=cs6 Bk;have ltk_1:=ab Bk.out;go_wp2_with fail;refine (aX n 0 1000 _).mono ?_;rintro e w2 ⟨r,rfl,hr,rfl⟩;cases r
 ·have hin:¬Inn n 0 1000:=fun h=>(by have:=hr.2 h;cases this);clear hr;clear k0 k1 k2 k3 k4 k5 ltk_1;have HV:Hid (bw c n (co0 8)):=.inr (.inl ⟨HT.out,fun h=>hin h.1,rfl⟩);exact pb
 have hin:Inn n 0 1000:=hr.1 bn;clear hr;obtain⟨hi0,hi1⟩:=hin;by_cases hlate:1000000<c.now+n
 ·clear k0 k1 k2 k3 k4 k5 ltk_1;have HV:Hid (bw c n (co0 8)):=.inr (.inl ⟨HT.out,fun h=>(by have:=h.2;omega),rfl⟩);exact pb
 clear k0 k1 k2 k3 k4 k5 ltk_1;obtain⟨HV,HS,HQ1⟩:=nS;obtain⟨k0,k1,k2,k3,k4,k5⟩:=cs6 Bk;have ltk_1:=ab Bk.out;go_wp2_with fail;refine (kY d c _ (HR.below HB.out) HS.out).mono ?_;rintro e w3 ⟨d',rfl,ho,hb⟩;have HQ2:=aa hb.size;clear k0 k1 k2 k3 k4 k5 ltk_1;replace Bk:=upK Bk hb;replace Br:=upK Br hb;replace HB:=upB HB hb;clear hb;have HO:=aa ho;have hq1:w.heap.size+1<w1.heap.size:=HQ1.out;have hq2:w1.heap.size<=w3.heap.size:=HQ2.out;clear ho;obtain⟨k0,k1,k2,k3,k4,k5⟩:=cs6 Bk;have ltk_2:=ab Bk.out;obtain⟨r0,r1,r2,r3,r4,r5,r6,r7⟩:=cs8 Br;have ltr_2:=ab Br.out;obtain⟨fr0,fr1,fr2,fr3,fr4,fr5⟩:=er;have fr6:=au Br.out 6;have fr7:=au Br.out 7;have hne:¬w.heap.size+1=w3.heap.size:=ae
 have hne2:¬w3.heap.size=w.heap.size+1:=ae
 go_wp2;refine bodyPost_ret (v:=.agg #[.slice d'.a1 d'.l1 d'.c1,.slice d'.a2 d'.l2 d'.c2,.slice d'.a3 d'.l3 d'.c3,.slice d'.a4 d'.l4 d'.c4,.slice d'.a5 d'.l5 d'.c5,.int .i64 (c.now+n),.string ⟨#[]⟩,.int .i64 0]) lz rfl ⟨d',⟨later c n,⟨#[]⟩,0⟩,rfl,HV.out,?_,Below.alloc (sb1 (sb1 (sb1 (sb1 (sb1 (sb1 (sb1 (sb1 (HB.out))))))))) cC _⟩;have hkeep:∀k,w1.heap.size<=k->k<w3.heap.size->(((((((((w3.setCell ⟨w.heap.size+1,0,none⟩ (.slice d'.a1 d'.l1 d'.c1)).setCell ⟨w.heap.size+1,1,none⟩ (.slice d'.a2 d'.l2 d'.c2)).setCell ⟨w.heap.size+1,2,none⟩ (.slice d'.a3 d'.l3 d'.c3)).setCell ⟨w.heap.size+1,3,none⟩ (.slice d'.a4 d'.l4 d'.c4)).setCell ⟨w.heap.size+1,4,none⟩ (.slice d'.a5 d'.l5 d'.c5)).setCell ⟨w.heap.size+1,5,none⟩ (.int .i64 (c.now+n))).setCell ⟨w.heap.size+1,6,none⟩ (.string ⟨#[]⟩)).setCell ⟨w.heap.size+1,7,none⟩ (.int .i64 0)).alloc (.cells (clv d' (c.now+n)) 37)).heap[k]?=w3.heap[k]?:=fun k h1 h2=>by refine (qY _ _ _ (by simpa using h2)).trans ?_;rw[qH _ _ _ _ (show k≠w.heap.size+1 by omega),qH _ _ _ _ (show k≠w.heap.size+1 by omega),qH _ _ _ _ (show k≠w.heap.size+1 by omega),qH _ _ _ _ (show k≠w.heap.size+1 by omega),qH _ _ _ _ (show k≠w.heap.size+1 by omega),qH _ _ _ _ (show k≠w.heap.size+1 by omega),qH _ _ _ _ (show k≠w.heap.size+1 by omega),qH _ _ _ _ (show k≠w.heap.size+1 by omega)]
 obtain⟨P,hP⟩:=HO.out;exact⟨P,hP.aG (w':=(((((((((w3.setCell ⟨w.heap.size+1,0,none⟩ (.slice d'.a1 d'.l1 d'.c1)).setCell ⟨w.heap.size+1,1,none⟩ (.slice d'.a2 d'.l2 d'.c2)).setCell ⟨w.heap.size+1,2,none⟩ (.slice d'.a3 d'.l3 d'.c3)).setCell ⟨w.heap.size+1,3,none⟩ (.slice d'.a4 d'.l4 d'.c4)).setCell ⟨w.heap.size+1,4,none⟩ (.slice d'.a5 d'.l5 d'.c5)).setCell ⟨w.heap.size+1,5,none⟩ (.int .i64 (c.now+n))).setCell ⟨w.heap.size+1,6,none⟩ (.string ⟨#[]⟩)).setCell ⟨w.heap.size+1,7,none⟩ (.int .i64 0)).alloc (.cells (clv d' (c.now+n)) 37))) (fun k hk s=>hkeep k s hk) (fun k _ s=>by have s1:w1.heap.size<=k:=s;show w.heap.size<=k;omega)⟩

theorem lx (d:Ad) (c:Cl) (n:Int) (w:World) (hr:aK w d c.raw):
  Calls Tryz.prog 10 #[.agg #[.slice d.a1 d.l1 d.c1,.slice d.a2 d.l2 d.c2,.slice d.a3 d.l3 d.c3,.slice d.a4 d.l4 d.c4,.slice d.a5 d.l5 d.c5,.int .i64 c.now],.int .i64 n] w (pL (bw c n) w):=by
 obtain⟨HR,HB⟩:=eM;clear hr;go_enter Tryz.func10,Tryz.ntmps10;go_wp2_with fail;refine (iS d c _ (HR.below (HB.trans ((aF _ _ _).mono HB.size)))).mono ?_;rintro e w1 ⟨r,rfl,hi,hb⟩;obtain⟨HA0,HA1,hbx⟩:=cx hb;have Bk:=aa HA0;have Br:=aa HA1;replace HB:=upB HB hbx;clear hb hbx HA0 HA1;have HI:=aa hi;clear hi;cases r
 ·have HV:Hid (bw c n (co0 1)):=.inl ⟨fun h=>(by have:=HI.2 h;cases this),rfl⟩;obtain⟨k0,k1,k2,k3,k4,k5⟩:=cs6 Bk;have ltk_1:=ab Bk.out;go_wp2_with fail;refine (gH 1 _).mono ?_;rintro e w2 ⟨rfl,hb⟩;clear k0 k1 k2 k3 k4 k5 ltk_1;replace Bk:=upK Bk hb;replace Br:=upK Br hb;replace HB:=upB HB hb;clear hb;obtain⟨r0,r1,r2,r3,r4,r5,r6,r7⟩:=cs8 Br;have ltr_2:=ab Br.out;obtain⟨fr0,fr1,fr2,fr3,fr4,fr5⟩:=er;have fr6:=au Br.out 6;have fr7:=au Br.out 7;have hrl:w.heap.size+1<w2.heap.size:=ab Br.out;go_wp2;exact bodyPost_ret (v:=.agg #[.slice none 0 0,.slice none 0 0,.slice none 0 0,.slice none 0 0,.slice none 0 0,.int .i64 0,.string ⟨#[]⟩,.int .i64 1]) lA rfl ⟨ad0,co0 1,rfl,HV.out,(rl0 _ _),sb1 (sb1 (sb1 (sb1 (sb1 (sb1 (sb1 (sb1 (HB.out))))))))⟩
 have HT:=aa (HI.1 bn);clear HI;have hnow:=HT.1;obtain⟨hn0,hn1⟩:=hnow;obtain⟨k0,k1,k2,k3,k4,k5⟩:=cs6 Bk;have ltk_1:=ab Bk.out;go_wp2_with fail;refine (eE n 0 1000 _).mono ?_;rintro e w2 ⟨r,rfl,hr,rfl⟩;cases r
 ·have hin:¬Inn n 0 1000:=fun h=>(by have:=hr.2 h;cases this);clear hr;clear k0 k1 k2 k3 k4 k5 ltk_1;have HV:Hid (bw c n (co0 8)):=.inr (.inl ⟨HT.out,fun h=>hin h.1,rfl⟩);exact pd
 have hin:Inn n 0 1000:=hr.1 bn;clear hr;obtain⟨hi0,hi1⟩:=hin;by_cases hlate:1000000<c.now+n
 ·clear k0 k1 k2 k3 k4 k5 ltk_1;have HV:Hid (bw c n (co0 8)):=.inr (.inl ⟨HT.out,fun h=>(by have:=h.2;omega),rfl⟩);exact pd
 clear k0 k1 k2 k3 k4 k5 ltk_1;obtain⟨HV,HS,HQ1⟩:=nS;obtain⟨k0,k1,k2,k3,k4,k5⟩:=cs6 Bk;have ltk_1:=ab Bk.out;go_wp2_with fail;have HLO:=aa HB.size;refine (iU d c _ (HR.below HB.out) HS.out).mono ?_;rintro e w3 ⟨d',rfl,ho,hb⟩;have HQ2:=aa hb.size;clear k0 k1 k2 k3 k4 k5 ltk_1;replace Bk:=upK Bk hb;replace Br:=upK Br hb;replace HB:=upB HB hb;clear hb;have HO:=aa ho;have hq1:w.heap.size+1<w1.heap.size:=HQ1.out;have hq2:w1.heap.size<=w3.heap.size:=HQ2.out;clear ho;obtain⟨k0,k1,k2,k3,k4,k5⟩:=cs6 Bk;have ltk_2:=ab Bk.out;obtain⟨r0,r1,r2,r3,r4,r5,r6,r7⟩:=cs8 Br;have ltr_2:=ab Br.out;obtain⟨fr0,fr1,fr2,fr3,fr4,fr5⟩:=er;have fr6:=au Br.out 6;have fr7:=au Br.out 7;have hne:¬w.heap.size+1=w3.heap.size:=ae
 have hne2:¬w3.heap.size=w.heap.size+1:=ae
 go_wp2;have hlo:=HLO.out;refine bodyPost_ret (v:=.agg #[.slice d'.a1 d'.l1 d'.c1,.slice d'.a2 d'.l2 d'.c2,.slice d'.a3 d'.l3 d'.c3,.slice d'.a4 d'.l4 d'.c4,.slice d'.a5 d'.l5 d'.c5,.int .i64 (c.now+n),.string ⟨#[]⟩,.int .i64 0]) lA rfl ⟨d',⟨later c n,⟨#[]⟩,0⟩,rfl,HV.out,?_,Below.alloc (sb1 (sb1 (sb1 (sb1 (sb1 (sb1 (sb1 (sb1 (HB.out))))))))) cC _⟩;have hkeep:∀k,w1.heap.size<=k->k<w3.heap.size->(((((((((w3.setCell ⟨w.heap.size+1,0,none⟩ (.slice d'.a1 d'.l1 d'.c1)).setCell ⟨w.heap.size+1,1,none⟩ (.slice d'.a2 d'.l2 d'.c2)).setCell ⟨w.heap.size+1,2,none⟩ (.slice d'.a3 d'.l3 d'.c3)).setCell ⟨w.heap.size+1,3,none⟩ (.slice d'.a4 d'.l4 d'.c4)).setCell ⟨w.heap.size+1,4,none⟩ (.slice d'.a5 d'.l5 d'.c5)).setCell ⟨w.heap.size+1,5,none⟩ (.int .i64 (c.now+n))).setCell ⟨w.heap.size+1,6,none⟩ (.string ⟨#[]⟩)).setCell ⟨w.heap.size+1,7,none⟩ (.int .i64 0)).alloc (.cells (clv d' (c.now+n)) 37)).heap[k]?=w3.heap[k]?:=fun k h1 h2=>by refine (qY _ _ _ (by simpa using h2)).trans ?_;rw[qH _ _ _ _ (show k≠w.heap.size+1 by omega),qH _ _ _ _ (show k≠w.heap.size+1 by omega),qH _ _ _ _ (show k≠w.heap.size+1 by omega),qH _ _ _ _ (show k≠w.heap.size+1 by omega),qH _ _ _ _ (show k≠w.heap.size+1 by omega),qH _ _ _ _ (show k≠w.heap.size+1 by omega),qH _ _ _ _ (show k≠w.heap.size+1 by omega),qH _ _ _ _ (show k≠w.heap.size+1 by omega)]
 refine⟨?_,?_,?_,?_,?_⟩
 ·exact (HO.n.aG (w':=(((((((((w3.setCell ⟨w.heap.size+1,0,none⟩ (.slice d'.a1 d'.l1 d'.c1)).setCell ⟨w.heap.size+1,1,none⟩ (.slice d'.a2 d'.l2 d'.c2)).setCell ⟨w.heap.size+1,2,none⟩ (.slice d'.a3 d'.l3 d'.c3)).setCell ⟨w.heap.size+1,3,none⟩ (.slice d'.a4 d'.l4 d'.c4)).setCell ⟨w.heap.size+1,4,none⟩ (.slice d'.a5 d'.l5 d'.c5)).setCell ⟨w.heap.size+1,5,none⟩ (.int .i64 (c.now+n))).setCell ⟨w.heap.size+1,6,none⟩ (.string ⟨#[]⟩)).setCell ⟨w.heap.size+1,7,none⟩ (.int .i64 0)).alloc (.cells (clv d' (c.now+n)) 37))) (fun k hk s=>hkeep k s hk) (fun _ _ s=>s)).rl (fun k s=>loq)
 ·exact (HO.k.aG (w':=(((((((((w3.setCell ⟨w.heap.size+1,0,none⟩ (.slice d'.a1 d'.l1 d'.c1)).setCell ⟨w.heap.size+1,1,none⟩ (.slice d'.a2 d'.l2 d'.c2)).setCell ⟨w.heap.size+1,2,none⟩ (.slice d'.a3 d'.l3 d'.c3)).setCell ⟨w.heap.size+1,3,none⟩ (.slice d'.a4 d'.l4 d'.c4)).setCell ⟨w.heap.size+1,4,none⟩ (.slice d'.a5 d'.l5 d'.c5)).setCell ⟨w.heap.size+1,5,none⟩ (.int .i64 (c.now+n))).setCell ⟨w.heap.size+1,6,none⟩ (.string ⟨#[]⟩)).setCell ⟨w.heap.size+1,7,none⟩ (.int .i64 0)).alloc (.cells (clv d' (c.now+n)) 37))) (fun k hk s=>hkeep k s hk) (fun _ _ s=>s)).rl (fun k s=>loq)
 ·exact (HO.v.aG (w':=(((((((((w3.setCell ⟨w.heap.size+1,0,none⟩ (.slice d'.a1 d'.l1 d'.c1)).setCell ⟨w.heap.size+1,1,none⟩ (.slice d'.a2 d'.l2 d'.c2)).setCell ⟨w.heap.size+1,2,none⟩ (.slice d'.a3 d'.l3 d'.c3)).setCell ⟨w.heap.size+1,3,none⟩ (.slice d'.a4 d'.l4 d'.c4)).setCell ⟨w.heap.size+1,4,none⟩ (.slice d'.a5 d'.l5 d'.c5)).setCell ⟨w.heap.size+1,5,none⟩ (.int .i64 (c.now+n))).setCell ⟨w.heap.size+1,6,none⟩ (.string ⟨#[]⟩)).setCell ⟨w.heap.size+1,7,none⟩ (.int .i64 0)).alloc (.cells (clv d' (c.now+n)) 37))) (fun k hk s=>hkeep k s hk) (fun _ _ s=>s)).rl (fun k s=>loq)
 ·exact (HO.x.aG (w':=(((((((((w3.setCell ⟨w.heap.size+1,0,none⟩ (.slice d'.a1 d'.l1 d'.c1)).setCell ⟨w.heap.size+1,1,none⟩ (.slice d'.a2 d'.l2 d'.c2)).setCell ⟨w.heap.size+1,2,none⟩ (.slice d'.a3 d'.l3 d'.c3)).setCell ⟨w.heap.size+1,3,none⟩ (.slice d'.a4 d'.l4 d'.c4)).setCell ⟨w.heap.size+1,4,none⟩ (.slice d'.a5 d'.l5 d'.c5)).setCell ⟨w.heap.size+1,5,none⟩ (.int .i64 (c.now+n))).setCell ⟨w.heap.size+1,6,none⟩ (.string ⟨#[]⟩)).setCell ⟨w.heap.size+1,7,none⟩ (.int .i64 0)).alloc (.cells (clv d' (c.now+n)) 37))) (fun k hk s=>hkeep k s hk) (fun _ _ s=>s)).rl (fun k s=>loq)
 ·exact (HO.p.aG (w':=(((((((((w3.setCell ⟨w.heap.size+1,0,none⟩ (.slice d'.a1 d'.l1 d'.c1)).setCell ⟨w.heap.size+1,1,none⟩ (.slice d'.a2 d'.l2 d'.c2)).setCell ⟨w.heap.size+1,2,none⟩ (.slice d'.a3 d'.l3 d'.c3)).setCell ⟨w.heap.size+1,3,none⟩ (.slice d'.a4 d'.l4 d'.c4)).setCell ⟨w.heap.size+1,4,none⟩ (.slice d'.a5 d'.l5 d'.c5)).setCell ⟨w.heap.size+1,5,none⟩ (.int .i64 (c.now+n))).setCell ⟨w.heap.size+1,6,none⟩ (.string ⟨#[]⟩)).setCell ⟨w.heap.size+1,7,none⟩ (.int .i64 0)).alloc (.cells (clv d' (c.now+n)) 37))) (fun k hk s=>hkeep k s hk) (fun _ _ s=>s)).rl (fun k s=>loq)

theorem kP (d:Ad) (c:Cl) (n:Int) (w:World) (hr:aK w d c.raw):
  Calls Tryz.prog 10 #[.agg #[.slice d.a1 d.l1 d.c1,.slice d.a2 d.l2 d.c2,.slice d.a3 d.l3 d.c3,.slice d.a4 d.l4 d.c4,.slice d.a5 d.l5 d.c5,.int .i64 c.now],.int .i64 n] w (pZ (bw c n) w):=(lx d c n w hr).mono fun _ _ h=>h.s

end Rc
end Go.Proofs.YtdoldaceehdifaaGreatDoor

namespace Go.Proofs.YtdoldaceehdifaaGreatDoor
open Go.RowKit Rc Mk

def eH (c:Cl):Fact:=fun v w=> ∃d:Ad,v=.agg #[.slice d.a1 d.l1 d.c1,.slice d.a2 d.l2 d.c2,.slice d.a3 d.l3 d.c3,.slice d.a4 d.l4 d.c4,.slice d.a5 d.l5 d.c5,.int .i64 c.now]/\aK w d c.raw
theorem eH.mono (c:Cl):Fact.b8 (eH c):=by
 rintro v w w' ⟨d,h1,h2⟩ hb;exact⟨d,h1,h2.below hb⟩

set_option linter.unusedVariables false in
theorem kK (d:Ad) (c:Cl) (n:Int) (E:Nat->Addr) (w:World) (hr:aK w d c.raw) (hn:(Lit.int .i64 n).wf=true) (hG:Ers w E):
  Calls Tryz.prog 4 #[.agg #[.slice d.a1 d.l1 d.c1,.slice d.a2 d.l2 d.c2,.slice d.a3 d.l3 d.c3,.slice d.a4 d.l4 d.c4,.slice d.a5 d.l5 d.c5,.int .i64 c.now],.int .i64 n] w fun e w'=>e=.returned (.bool true)/\Below w.heap.size w w':=by
 have HR:=aa hr;have HE:=aa hG;have HB:=aa (qI w.heap.size w);clear hr hG;go_enter Tryz.func4,Tryz.ntmps4;go_wp2_with fail;refine (fk d c _ (HR.below (HB.trans ((ai _ _).mono HB.size)))).mono ?_;rintro e w1 ⟨r,rfl,hi,hb⟩;obtain⟨HA0,hbx⟩:=aJ hb;have Bk:=aa HA0;replace HB:=upB HB hbx;clear hb hbx HA0;rcases hi with rfl|⟨hr0,-,hft⟩
 ·obtain⟨k0,k1,k2,k3,k4,k5⟩:=cs6 Bk;have ltk_1:=ab Bk.out;go_wp2;go_ret;exact⟨rfl,HB.out⟩
 have HF:=aa hft;clear hft;obtain⟨k0,k1,k2,k3,k4,k5⟩:=cs6 Bk;have ltk_1:=ab Bk.out;go_wp2_with fail;refine (bO d c _ (HR.below HB.out) HF.out).mono ?_;rintro e w2 ⟨d1,rfl,ho,hb⟩;clear k0 k1 k2 k3 k4 k5 ltk_1;replace Bk:=upK Bk hb;replace HB:=upB HB hb;clear hb;have HO:=aa ho.row;clear ho;go_wp2_with fail;refine (kP d1 c n _ HO.out).mono ?_;rintro e w3 ⟨dg0,o,rfl,hI,ho,hb⟩;have R0:=aa ho;have HIS:=aa hI;clear ho hI HO;replace Bk:=upK Bk hb;replace HB:=upB HB hb;clear hb;have HY:=aa (Bw.refl w3);have HQ3:=aa (show w.heap.size<w3.heap.size from ab Bk.out);obtain⟨k0,k1,k2,k3,k4,k5⟩:=cs6 Bk;have ltk_3:=ab Bk.out;go_wp2_with fail;refine (bO d c _ (HR.below (HB.trans ((ai _ _).mono HB.size))) HF.out).mono ?_;rintro e w4 ⟨d2,rfl,ho,hb⟩;clear k0 k1 k2 k3 k4 k5 ltk_3;obtain⟨HA0,hbx⟩:=aJ hb;replace Bk:=upK Bk hbx;have Ba:=aa HA0;replace HY:=aa (HY.below hbx);replace HB:=upB HB hbx;clear hb hbx HA0;have HQ4:Hid (w3.heap.size+1<=w4.heap.size):=by have:=HY.le;have:=ab Ba.out;show w3.heap.size+1<=_;omega
 have HO2:=aa (ho.eA (S':=fun k=>w3.heap.size+1<=k/\k<w4.heap.size) (fun k hk s=>⟨(show w3.heap.size+1<=k by simpa using s),hk⟩));clear ho;obtain⟨k0,k1,k2,k3,k4,k5⟩:=cs6 Bk;have ltk_4:=ab Bk.out;obtain⟨a0,a1,a2,a3,a4,a5,a6,a7⟩:=cs8 Ba;have lta_4:=ab Ba.out;go_wp2_with fail;have HOX:=aa (HO2.below (ai w4 (.cells (clv d2 c.now) 37)));refine (fB d2 c n E _ HOX.row (HE.below (HB.trans ((ai _ _).mono HB.size)))).mono ?_;rintro e w5 ⟨dg1,o1,rfl,hI,ho,hb⟩;clear HOX;obtain rfl:=HIS.same hI;clear hI;clear k0 k1 k2 k3 k4 k5 ltk_4 a0 a1 a2 a3 a4 a5 a6 a7 lta_4;obtain⟨HA0,hbx⟩:=aJ hb;replace Bk:=upK Bk hbx;replace Ba:=upK Ba hbx;have Bx:=aa HA0;replace HY:=aa (HY.below hbx);replace HO2:=aa (HO2.below hbx);replace HB:=upB HB hbx;clear hb hbx HA0;have HQ5:Hid (w4.heap.size<w5.heap.size):=ab Bx.out;have HO1:=aa (ho.eA (S':=fun k=>w4.heap.size+1<=k/\k<w5.heap.size) (fun k hk s=>⟨(show w4.heap.size+1<=k by simpa using s),hk⟩));clear ho;have hlz:bZ 1 o.c.raw<=1152921504606846976:=HIS.marks HF.out;have HH:=aa (fun (W:World) (hr:aK W dg1 (mkC 1 o.c.raw))=>gf dg1 o 1 W hr aj hlz);obtain⟨M,hM⟩:∃M:Int,M=bZ 1 o.c.raw:=⟨_,rfl⟩;have hM0:(0:Int)<M:=by rw[hM];have:=fU 1 o.c.raw;omega
 rw[<-hM] at HH;have HMM:=aa hM;clear hM;obtain⟨k0,k1,k2,k3,k4,k5⟩:=cs6 Bk;have ltk_5:=ab Bk.out;obtain⟨a0,a1,a2,a3,a4,a5,a6,a7⟩:=cs8 Ba;have lta_5:=ab Ba.out;obtain⟨x0,x1,x2,x3,x4,x5⟩:=cs6 Bx;have ltx_5:=ab Bx.out;go_wp2_with fail;refine (du dg1 dg0 o _ (HO1.row.below (ai _ _)) (R0.below (HY.below (ai _ _)).out)).mono ?_;rintro e w6 ⟨rfl,hb⟩;clear k0 k1 k2 k3 k4 k5 ltk_5 a0 a1 a2 a3 a4 a5 a6 a7 lta_5 x0 x1 x2 x3 x4 x5 ltx_5;obtain⟨HA0,hbx⟩:=aJ hb;replace Bk:=upK Bk hbx;replace Ba:=upK Ba hbx;replace Bx:=upK Bx hbx;have Bg:=aa HA0;replace HY:=aa (HY.below hbx);replace HO2:=aa (HO2.below hbx);replace HO1:=aa (HO1.below hbx);replace HB:=upB HB hbx;clear hb hbx HA0;obtain⟨W,hW0⟩:∃W,W=w6:=⟨_,rfl⟩;rw[<-hW0] at HB HY HO2 HO1 Bk Ba Bx Bg;go_wp2_with fail;rw[<-hW0];clear hW0;rename_i K0 hK0;refine bA (back:=none) al (List.append_nil _).symm al ?_;refine' Grow.aP _ rfl ?_ ?_;rotate_left 1
 ·refine Obl.plain rfl ?_;intro ac wg K hsz hW hf hK;clear hsz;have e7:=hf 7 aj;simp[av,qS] at e7;clear hf;obtain⟨k0,k1,k2,k3,k4,k5⟩:=cs6 ((hW.block _ (ab Bx.out)).trans Bx.out);exact cM
 refine' Grow.aP _ rfl ?_ ?_;rotate_left 1
 ·refine Obl.plain rfl ?_;intro ac wg K hsz hW hf hK;clear hsz;have e2:=hf 2 aj;simp[av,qS] at e2;exact fQ
 refine Grow.step (eH c) rfl (eH.mono c) ?_ ?_
 ·refine Obl.plain rfl ?_;intro ac wg K hsz hW hf hK;clear hsz;have e32:=hf 32 aj;simp[av,qS] at e32;clear hf;go_simp;refine (bO d c _ (HR.below (HB.trans (hW.mono HB.size))) HF.out).mono ?_;rintro e w6 ⟨d3,rfl,ho,hb6⟩;exact hK _ _ hb6 ⟨d3,rfl,ho.row⟩
 refine' Grow.aP (.bool true) rfl ?_ ?_
 ·refine Obl.plain rfl ?_;intro ac wg K hsz hW hf hK;clear hsz;have e31:=hf 31 aj;simp[av,qS] at e31;have e33:=hf 33 aj;simp[av,qS] at e33;obtain⟨d3,e33,hrow⟩:=e33;clear hf;go_simp;refine (dm d2 d3 c _ (HO2.row.below hW) hrow).mono ?_;rintro e w6 ⟨rfl,hb6⟩;exact hK _ _ hb6 rfl
 refine' Grow.aP _ rfl ?_ ?_;rotate_left 1
 ·refine Obl.plain rfl ?_;intro ac wg K hsz hW hf hK;clear hsz;have e34:=hf 34 aj;simp[av,qS] at e34;clear hf;exact cM
 refine Grow.done ?_;intro q wz hW hf;simp only[rP] at hf;obtain⟨h35,-⟩:=hf;have hb:=hW;refine hK0 _ _ ?_;simp only[aW,List.foldr,Act.put,rq,rE,rU,h35];clear hK0;replace Bk:=upK Bk hb;replace Ba:=upK Ba hb;replace Bx:=upK Bx hb;replace Bg:=upK Bg hb;replace HY:=aa (HY.below hb);replace HO2:=aa (HO2.below hb);replace HO1:=aa (HO1.below hb);replace HB:=upB HB hb;clear hb;clear hW;obtain⟨rk,hrk⟩:∃r:Int,r=bZ 1 c.raw:=⟨_,rfl⟩;have hrk0:decide (rk<0)=false:=by rw[decide_eq_false_iff_not,hrk];have:=fU 1 c.raw;omega
 obtain⟨k0,k1,k2,k3,k4,k5⟩:=cs6 Bk;have ltk_7:=ab Bk.out;obtain⟨a0,a1,a2,a3,a4,a5,a6,a7⟩:=cs8 Ba;have lta_7:=ab Ba.out;obtain⟨x0,x1,x2,x3,x4,x5⟩:=cs6 Bx;have ltx_7:=ab Bx.out;obtain⟨g0,g1,g2,g3,g4,g5,g6,g7⟩:=cs8 Bg;have ltg_7:=ab Bg.out;go_wp2_with fail;refine (cN d2 c 1 _ wz HO2.out (fun k s=>by have s2:=s.2;have q9:=HY.le;have q8:=ab Bx.out;have q3:=HQ3.out;have q4:=HQ4.out;have q5:=HQ5.out;omega) aj HF.marks).mono ?_;rintro e w8 ⟨rfl,ho,hk⟩;clear k0 k1 k2 k3 k4 k5 ltk_7 a0 a1 a2 a3 a4 a5 a6 a7 lta_7 x0 x1 x2 x3 x4 x5 ltx_7 g0 g1 g2 g3 g4 g5 g6 g7 ltg_7;obtain⟨Ck,Ca,Cx,Cg⟩:=oo;have HB8:=aa (HB.trans (hk.low (X:=w.heap.size) HB.size (fun k s=>by have s1:=s.1;have q3:=HQ3.out;have q4:=HQ4.out;have q5:=HQ5.out;omega)));have CHY:=aa (HY.kept hk (fun k s=>by have s1:=s.1;have q3:=HQ3.out;have q4:=HQ4.out;have q5:=HQ5.out;omega));have CHO1:=aa (HO1.kept hk (fun k s s'=>by have s1:=s.1;have s2:=s.2;have t1:=s'.1;have t2:=s'.2;have q3:=HQ3.out;have q4:=HQ4.out;have q5:=HQ5.out;omega));clear HB HY hk HO2 HO1 Bk Ba Bx Bg;have HB:=HB8;clear HB8;have HY:=CHY;clear CHY;have HO1:=CHO1;clear CHO1;have Bk:=Ck;clear Ck;have Ba:=Ca;clear Ca;have Bx:=Cx;clear Cx;have Bg:=Cg;clear Cg;clear ho;rw[<-hrk];clear hrk;obtain⟨k0,k1,k2,k3,k4,k5⟩:=cs6 Bk;have ltk_8:=ab Bk.out;obtain⟨a0,a1,a2,a3,a4,a5,a6,a7⟩:=cs8 Ba;have lta_8:=ab Ba.out;obtain⟨x0,x1,x2,x3,x4,x5⟩:=cs6 Bx;have ltx_8:=ab Bx.out;obtain⟨g0,g1,g2,g3,g4,g5,g6,g7⟩:=cs8 Bg;have ltg_8:=ab Bg.out;go_wp2_with fail;refine (du dg1 dg0 o _ (HO1.row) (R0.below HY.out)).mono ?_;rintro e w9 ⟨rfl,hb⟩;clear k0 k1 k2 k3 k4 k5 ltk_8 a0 a1 a2 a3 a4 a5 a6 a7 lta_8 x0 x1 x2 x3 x4 x5 ltx_8 g0 g1 g2 g3 g4 g5 g6 g7 ltg_8;replace Bk:=upK Bk hb;replace Ba:=upK Ba hb;replace Bx:=upK Bx hb;replace Bg:=upK Bg hb;replace HY:=aa (HY.below hb);replace HO1:=aa (HO1.below hb);replace HB:=upB HB hb;clear hb;clear hrk0;obtain⟨k0,k1,k2,k3,k4,k5⟩:=cs6 Bk;have ltk_9:=ab Bk.out;obtain⟨a0,a1,a2,a3,a4,a5,a6,a7⟩:=cs8 Ba;have lta_9:=ab Ba.out;obtain⟨x0,x1,x2,x3,x4,x5⟩:=cs6 Bx;have ltx_9:=ab Bx.out;obtain⟨g0,g1,g2,g3,g4,g5,g6,g7⟩:=cs8 Bg;have ltg_9:=ab Bg.out;go_wp2_with fail;refine (fV dg1 o 1 _ _ HO1.out (fun k s=>by have s2:=s.2;have q9:=HB.size;have q8:=HY.le;have q7:=ab Bg.out;have q3:=HQ3.out;have q4:=HQ4.out;have q5:=HQ5.out; omega) aj hlz).mono ?_;rintro e w10 ⟨rfl,ho,hk⟩;clear k0 k1 k2 k3 k4 k5 ltk_9 a0 a1 a2 a3 a4 a5 a6 a7 lta_9 x0 x1 x2 x3 x4 x5 ltx_9 g0 g1 g2 g3 g4 g5 g6 g7 ltg_9;obtain⟨Ck,Ca,Cx,Cg⟩:=oo;have HB10:=aa (HB.trans (hk.low (X:=w.heap.size) HB.size (fun k s=>by have s1:=s.1;have q3:=HQ3.out;have q4:=HQ4.out;have q5:=HQ5.out;omega)));have CHY:=aa (HY.kept hk (fun k s=>by have s1:=s.1;have q3:=HQ3.out;have q4:=HQ4.out;have q5:=HQ5.out;omega))
 clear HB HY hk HO1 Bk Ba Bx Bg;have HB:=HB10;clear HB10;have HY:=CHY;clear CHY;have Bk:=Ck;clear Ck;have Ba:=Ca;clear Ca;have Bx:=Cx;clear Cx;have Bg:=Cg;clear Cg;have HM1:=aa ho;clear ho;rw[<-HMM.out];obtain⟨k0,k1,k2,k3,k4,k5⟩:=cs6 Bk;have ltk_10:=ab Bk.out;obtain⟨a0,a1,a2,a3,a4,a5,a6,a7⟩:=cs8 Ba;have lta_10:=ab Ba.out;obtain⟨x0,x1,x2,x3,x4,x5⟩:=cs6 Bx;have ltx_10:=ab Bx.out;obtain⟨g0,g1,g2,g3,g4,g5,g6,g7⟩:=cs8 Bg;have ltg_10:=ab Bg.out;go_wp2_with fail;refine (HH.out _ HM1.row).mono ?_;rintro e w11 ⟨rfl,hb⟩;clear k0 k1 k2 k3 k4 k5 ltk_10 a0 a1 a2 a3 a4 a5 a6 a7 lta_10 x0 x1 x2 x3 x4 x5 ltx_10 g0 g1 g2 g3 g4 g5 g6 g7 ltg_10;replace Bk:=upK Bk hb;replace Ba:=upK Ba hb;replace Bx:=upK Bx hb;replace Bg:=upK Bg hb;replace HY:=aa (HY.below hb);replace HM1:=aa (HM1.below hb);replace HB:=upB HB hb;clear hb;obtain⟨k0,k1,k2,k3,k4,k5⟩:=cs6 Bk;have ltk_11:=ab Bk.out;go_wp2_with fail;refine (bO d c _ (HR.below HB.out) HF.out).mono ?_;rintro e w12 ⟨d4,rfl,ho,hb⟩;clear k0 k1 k2 k3 k4 k5 ltk_11;replace Bk:=upK Bk hb;replace Ba:=upK Ba hb;replace Bx:=upK Bx hb;replace Bg:=upK Bg hb;replace HY:=aa (HY.below hb);replace HM1:=aa (HM1.below hb);replace HB:=upB HB hb;clear hb;have HO:=aa ho.row;clear ho;go_wp2_with fail;refine (fB d4 c n E _ HO.out (HE.below HB.out)).mono ?_;rintro e w13 ⟨dg2,o2,rfl,hI,ho,hb⟩;obtain rfl:=HIS.same hI;clear hI HO;have HR2:=aa ho.row;clear ho;replace Bk:=upK Bk hb;replace Ba:=upK Ba hb;replace Bx:=upK Bx hb;replace Bg:=upK Bg hb;replace HY:=aa (HY.below hb);replace HM1:=aa (HM1.below hb);replace HB:=upB HB hb;clear hb;obtain⟨k0,k1,k2,k3,k4,k5⟩:=cs6 Bk;have ltk_13:=ab Bk.out;obtain⟨a0,a1,a2,a3,a4,a5,a6,a7⟩:=cs8 Ba;have lta_13:=ab Ba.out;obtain⟨x0,x1,x2,x3,x4,x5⟩:=cs6 Bx;have ltx_13:=ab Bx.out;obtain⟨g0,g1,g2,g3,g4,g5,g6,g7⟩:=cs8 Bg;have ltg_13:=ab Bg.out;go_wp2_with fail;refine (du dg2 dg0 o _ (HR2.below (ai _ _)) (R0.below (HY.below (ai _ _)).out)).mono ?_;rintro e w14 ⟨rfl,hb⟩;clear k0 k1 k2 k3 k4 k5 ltk_13 a0 a1 a2 a3 a4 a5 a6 a7 lta_13 x0 x1 x2 x3 x4 x5 ltx_13 g0 g1 g2 g3 g4 g5 g6 g7 ltg_13;obtain⟨HA0,hbx⟩:=aJ hb;replace Bk:=upK Bk hbx;replace Ba:=upK Ba hbx;replace Bx:=upK Bx hbx;replace Bg:=upK Bg hbx;have Bh:=aa HA0;replace HY:=aa (HY.below hbx);replace HM1:=aa (HM1.below hbx);replace HB:=upB HB hbx;clear hb hbx HA0;obtain⟨k0,k1,k2,k3,k4,k5⟩:=cs6 Bk;have ltk_14:=ab Bk.out;obtain⟨g0,g1,g2,g3,g4,g5,g6,g7⟩:=cs8 Bg;have ltg_14:=ab Bg.out;go_wp2_with fail;refine (HH.out _ HM1.row).mono ?_;rintro e w15 ⟨rfl,hb⟩;clear k0 k1 k2 k3 k4 k5 ltk_14 g0 g1 g2 g3 g4 g5 g6 g7 ltg_14;replace Bk:=upK Bk hb;replace Ba:=upK Ba hb;replace Bx:=upK Bx hb;replace Bg:=upK Bg hb;replace Bh:=upK Bh hb;replace HY:=aa (HY.below hb);replace HM1:=aa (HM1.below hb);replace HB:=upB HB hb
 clear hb;go_wp2_with fail;go_ret;exact⟨rfl,HB.out⟩

set_option linter.unusedVariables false in
theorem ee (a1:Option Addr) (l1 y1:Nat) (ns:List Nd) (a2:Option Addr) (l2 y2:Nat) (ks:List Kd) (a3:Option Addr) (l3 y3:Nat) (vs:List Vd) (a4:Option Addr) (l4 y4:Nat) (xs:List Xd) (a5:Option Addr) (l5 y5:Nat) (ps:List Pd) (now:Int) (n:Int) (w:World)
  (h1:ay w a1 l1 y1 7 (ns.map ndF)) (h2:ay w a2 l2 y2 4 (ks.map kdF)) (h3:ay w a3 l3 y3 8 (vs.map vdF)) (h4:ay w a4 l4 y4 5 (xs.map xdF)) (h5:ay w a5 l5 y5 6 (ps.map pdF)) (_:(Lit.int .i64 now).wf=true) (hn:(Lit.int .i64 n).wf=true) (hG:∃E,Ers w E):
  Calls Tryz.prog 4 #[.agg #[.slice a1 l1 y1,.slice a2 l2 y2,.slice a3 l3 y3,.slice a4 l4 y4,.slice a5 l5 y5,.int .i64 now],.int .i64 n] w fun e w'=>e=.returned (.bool true)/\Below w.heap.size w w':=
 by obtain⟨E,hG⟩:=hG;exact kK ⟨a1,l1,y1,a2,l2,y2,a3,l3,y3,a4,l4,y4,a5,l5,y5⟩ ⟨ns,ks,vs,xs,ps,now⟩ n E w ⟨h1,h2,h3,h4,h5⟩ hn hG

end Go.Proofs.YtdoldaceehdifaaGreatDoor

namespace Go.Proofs.YtdoldaceehdifaaGreatDoor
open Go.RowKit
namespace Rc

theorem gu: "*" ++ "errors.errorString" = "*errors.errorString":=by decide
theorem qb (u:TypeId) (h:Tryz.prog.typeName? 3 u=some "*errors.errorString"):u=255:=
 typeName_ptr_named (nm:= "errors.errorString") (by rw[gu];kernel_rfl) al aj u (by rw[gu];exact h)

theorem jr {P:Program} {W:World} {nm:String} {ti tp te ts:TypeId} {ms:Array (String×TypeId)} {f:Field} (hi:P.underlying ti=some (.interface ms)) (hrow:∀u,P.typeName? 3 u=some nm->u=tp)
  (hp:P.underlying tp=some (.pointer te)) (he:P.underlying te=some (.struct #[f])) (hft:f.type=ts) (hfo:f.offset=0) (hs:P.underlying ts=some .string) (hc:P.cellsOf te=1) (hcs:P.cellsOf ts=1):
  ∀(l:List (String×List UInt8)) (ps:List MemPlace),(∀x∈l,∃g,P.globalNamed x.1=some g/\(P.globals[g]?).map (·.type)=some ti)->
   DataW.LaidVars P W (l.map fun x=>(x.1,.iface nm (.ptr (.agg [.lit (.string x.2)])))) ps->ps.Nodup->
   (∀b off,MemPlace.cell b off∈ps->(∃c t,W.heap[b]?=some (.cells c t (0,0)))/\∀u v,W.cell? ⟨b,off,none⟩=some (.iface u v)->Value.okWide P W .any 0 u v)->
   ∃E:Nat->Addr,(∀(i:Nat) x,l[i]?=some x->W.var? P x.1=some #[.iface tp (.pointer (some (E i)))]/\MemPlace.cell (E i).block (E i).off∈ps)/\∀i j,i<l.length->j<l.length->E i=E j->i=j
 | [],ps,_,_,_,_=>⟨fun _=>⟨0,0,none⟩,fun i x h=>by simp at h,fun i j h=>by simp at h⟩
 | x ::l,ps,hT,hv,hnd,hrows=>by
  obtain⟨g,t,cs,fuel,p,q,hg,ht,hvar,hd,hq,rfl⟩:=hv;obtain⟨g',hg',ht'⟩:=hT x a8;obtain rfl:=qG (hg.symm.trans hg');obtain rfl:=qG (ht.symm.trans ht');have hsub:∀{y},y∈q->y∈MemPlace.row ⟨g,0,none⟩ cs.size++p++q:=fun h=>List.mem_append_right _ h;obtain⟨E,hE1,hE2⟩:=jr hi hrow hp he hft hfo hs hc hcs l q (fun y hy=>hT y (by simp[hy])) hq (List.Nodup.sublist (List.sublist_append_right _ _) hnd) (fun b off hm=>hrows b off (hsub hm));obtain⟨l0⟩:=cs;have ok0:∀u v,l0=[.iface u v]->Value.okWide P W .any 0 u v:=fun u v e=>by
   subst e;exact (hrows g 0 (by simp[MemPlace.row])).2 u v (by simpa using World.var?_cell hg hvar 0)
  obtain⟨a0,s0,rfl,hc0,hs0,hz0,rfl⟩:=errorString_of_trod hi hrow hp he hft hfo hs hc hcs hd ok0;have ha:MemPlace.cell a0.block a0.off∈MemPlace.row a0 1:=by simp[MemPlace.row]
  have hdis:∀i,i<l.length->¬E i=a0:=fun i hi' e=>by
   have h1:=(hE1 i _ (qJ hi')).2;rw[e] at h1;have h2:=(List.nodup_append.1 hnd).2.2 _ (List.mem_append_right _ ha) _ h1;exact h2 rfl
  refine⟨fun i=>match i with|0=>a0|i+1=>E i,fun i y hy=>?_,fun i j hi' hj' e=>?_⟩
  ·cases i with
   | zero=>
    obtain rfl:x=y:=by simpa using hy
    exact⟨hvar,List.mem_append_left _ (List.mem_append_right _ ha)⟩
   | succ i=>
    obtain⟨h1,h2⟩:=hE1 i y (by simpa using hy);exact⟨h1,hsub h2⟩
  ·cases i with
   | zero=>cases j with
    | zero=>rfl
    | succ j=>exact absurd e.symm (hdis j (by simpa using hj'))
   | succ i=>cases j with
    | zero=>exact absurd e (hdis i (by simpa using hi'))
    | succ j=>rw[hE2 i j (by simpa using hi') (by simpa using hj') e]

theorem gw {H:Type} {enc:TypeId×Value->H} {P:Program} {w:World} {sp:Nat->Bool} :∀(ns:List String) (gs:List (DataW H)) (ps:List MemPlace),DataW.TrodVars enc P w sp ns gs ps->gs.length=ns.length
 | [],[],_,_=>rfl
 | [],_ ::_,_,h=>h.elim
 | _ ::_,[],_,h=>h.elim
 | _ ::ns,_ ::gs,_,h=>by
  obtain⟨_,_,_,_,_,q,_,_,_,_,h1,_⟩:=h;simp[gw ns gs q h1]
theorem qB {α:Type} :∀{l:List α},l.length=10->∃a b c d e f g h i j,l=[a,b,c,d,e,f,g,h,i,j]
 | [a,b,c,d,e,f,g,h,i,j],_=>⟨a,b,c,d,e,f,g,h,i,j,rfl⟩

end Rc
end Go.Proofs.YtdoldaceehdifaaGreatDoor

namespace Go.Proofs.YtdoldaceehdifaaGreatDoor
open Go.RowKit Go.ChangeShapes Go.WideShapes Go.Deep

theorem pS {α:Type} {l:List α} (h:l.length=6):∃x0 x1 x2 x3 x4 x5,l=[x0,x1,x2,x3,x4,x5]:=by
 match l,h with
 | [x0,x1,x2,x3,x4,x5],_=>exact⟨_,_,_,_,_,_,rfl⟩
section
variable {H:Type} {enc:TypeId×Value->H} {P:Program} {w:World} {base:Nat} {spare:Nat->Bool} {held:Bool}

theorem kS {r:Reach} {b0:Nat} {t:TypeId} {fs:Array Field} {v:Value} {d:DataW H} {p:List MemPlace} (hs:P.underlying t=some (.struct fs)) (hone:oneCellFields P fs=true) (hC:P.cellsOf t=fs.size)
  (hv:Value.okWide P w r b0 t v) (h:DataW.Trod enc P w base spare held t v d p):
  ∃(cs:List Value) (n:Nat),v=.agg cs.toArray/\cs.length=fs.size/\∀(i:Nat) (f:Field),fs[i]?=some f->∃c y,cs[i]?=some c/\rF enc P w base spare held n f.type [c]=some y:=by
 obtain⟨cs,rfl,hsz⟩:=okWide_struct hs hv;obtain⟨fuel,hf⟩:=h;obtain⟨xs,n,_,hx,hl,hlen,hf'⟩:=DataW.trod_struct hs hf;refine⟨cs.toList,n,rfl,by rw[Array.length_toList];exact hsz.trans hC,fun i f hi=>?_⟩;obtain⟨o,k⟩:=hone_of hone i f hi;have hlt:i<fs.size:=(ra.1 hi).1;have hlc:i<cs.toList.length:=by rw[Array.length_toList,hsz,hC];exact hlt
 have g:=hf' i f hi;rw[o,k] at g;have e:((Value.agg cs).cells.toList.drop i).take 1=[cs.toList[i]'hlc]:=by
  show (cs.toList.drop i).take 1=_;rw[rM hlc];rfl
 exact mF

theorem cP {t e:TypeId} {n:Nat} {c:Value} {y:DataW H×List MemPlace} (ht:P.underlying t=some (.slice e)) (he:P.underlying e=some .string) (hc:P.cellsOf e=1)
  (h:rF enc P w base spare held n t [c]=some y):∃a len cap zs,c=.slice a len cap/\an w a len cap zs:=by
 rcases open_strs ht he hc h with ⟨hcs,_⟩|⟨a,len,cap,m,Sx,hcs,hb,hl,hm,hmm,_,hx⟩
 ·exact⟨none,0,0,[],by simpa using hcs,rfl,qF _,by omega,fun j x hx=>by simp at hx,Or.inl rfl⟩
 ·obtain⟨hlm,hm'⟩:=fw;refine⟨some a,len,cap,(List.range len).map Sx,by simpa using hcs,by simp,hl,hm',fun j x hj=>?_,?_⟩
  ·rw[qT] at hj;by_cases hjl:j<len
   ·rw[List.getElem?_range hjl] at hj;obtain rfl:=qG hj;have:=(hx j ae).2;unfold maxLen at this;omega
   ·exact l8
  ·by_cases h0:len=0
   ·subst h0;exact Or.inl rfl
   right;obtain⟨b,o,spot⟩:=a;have h0':=(hx 0 ae).1;have hspot:spot=none:=by simpa[Addr.add] using World.cell?_spot h0'
   subst hspot;refine⟨b,o,rfl,?_,fun j x hj=>?_⟩
   ·rw[Addr.add_lit] at h0';rcases Nat.lt_or_ge b w.heap.size with h1|h1
    ·exact h1
    ·simp[rN,Array.getElem?_eq_none h1] at h0'
   ·rw[qT] at hj;by_cases hjl:j<len
    ·rw[List.getElem?_range hjl] at hj;obtain rfl:=qG hj;have:=(hx j ae).1;rw[Addr.add_lit] at this;exact this
    ·exact l8
end

section
variable {H:Type} {enc:TypeId×Value->H} {w:World} {base:Nat} {spare:Nat->Bool} {held:Bool}

theorem ct {P:Program} {n:Nat} {t:TypeId} {fs:Array Field} {cs:List Value} {x:DataW H×List MemPlace} (hs:P.underlying t=some (.struct fs)) (hone:oneCellFields P fs=true) (hC:P.cellsOf t=fs.size)
  (h:rF enc P w base spare held n t cs=some x):
  ∃(n:Nat),cs.length=fs.size/\∀(i:Nat) (f:Field),fs[i]?=some f->∃c y,cs[i]?=some c/\rF enc P w base spare held n f.type [c]=some y:=by
 obtain⟨xs,n,_,hx,hl,hlen,hf'⟩:=DataW.trod_struct hs h;refine⟨n,hl.trans hC,fun i f hi=>?_⟩;obtain⟨o,k⟩:=hone_of hone i f hi;have hlt:i<fs.size:=(ra.1 hi).1;have hlc:i<cs.length:=by rw[hl,hC];exact hlt
 have g:=hf' i f hi;rw[o,k] at g;have e:(cs.drop i).take 1=[cs[i]'hlc]:=by
  rw[rM hlc];rfl
 exact mF

end

end Go.Proofs.YtdoldaceehdifaaGreatDoor

namespace Go.Proofs.YtdoldaceehdifaaGreatDoor
open Go.RowKit Go.ChangeShapes Go.WideShapes Go.Deep
namespace Rc

section
variable {H:Type} {enc:TypeId×Value->H} {w:World} {base:Nat} {spare:Nat->Bool} {held:Bool}

theorem ji {b o n:Nat} {cs:List Value} {x:DataW H×List MemPlace} (hc:∀i,i<7->w.cell? ⟨b,o+i,none⟩=cs[i]?) (h:rF enc Tryz.prog w base spare held n 97 cs=some x):∃v:Nd,RAt w b o (ndF v):=by
 obtain⟨m,hl,hf⟩:=ct Tryz.underlying97 al al h;obtain⟨c0,y0,e0,t0⟩:=hf 0 _ rfl;obtain⟨b0,q0,-,s0⟩:=rf Tryz.underlying9 t0;obtain rfl:c0=.string b0:=by simpa using q0
 obtain⟨c1,y1,e1,t1⟩:=hf 1 _ rfl;obtain⟨b1,q1,-,s1⟩:=rf Tryz.underlying9 t1;obtain rfl:c1=.string b1:=by simpa using q1
 obtain⟨c2,y2,e2,t2⟩:=hf 2 _ rfl;obtain⟨b2,q2,-,s2⟩:=rS Tryz.underlying2 t2;obtain rfl:c2=.int .i64 b2:=by simpa using q2
 obtain⟨c3,y3,e3,t3⟩:=hf 3 _ rfl;obtain⟨b3,q3,-,s3⟩:=rS Tryz.underlying2 t3;obtain rfl:c3=.int .i64 b3:=by simpa using q3
 obtain⟨c4,y4,e4,t4⟩:=hf 4 _ rfl;obtain⟨b4,q4,-,s4⟩:=rS Tryz.underlying2 t4;obtain rfl:c4=.int .i64 b4:=by simpa using q4
 obtain⟨c5,y5,e5,t5⟩:=hf 5 _ rfl;obtain⟨b5,q5,-⟩:=rX Tryz.underlying4 t5;obtain rfl:c5=.bool b5:=by simpa using q5
 obtain⟨c6,y6,e6,t6⟩:=hf 6 _ rfl;obtain⟨b6,l6,p6,zz,rfl,r6⟩:=cP Tryz.underlying63 Tryz.underlying9 al t6;unfold maxLen at s0 s1;refine⟨⟨b0,b1,b2,b3,b4,b5,zz⟩,fun i f hi=>?_⟩;rcases i with _|_|_|_|_|_|_|i
 ·exact ib
 ·cases hi;exact⟨_,(hc 1 ae).trans e1,rfl,show b1.size<=_ by omega⟩
 ·cases hi;exact⟨_,(hc 2 ae).trans e2,rfl⟩
 ·cases hi;exact⟨_,(hc 3 ae).trans e3,rfl⟩
 ·cases hi;exact⟨_,(hc 4 ae).trans e4,rfl⟩
 ·cases hi;exact⟨_,(hc 5 ae).trans e5,rfl⟩
 ·cases hi;exact⟨_,(hc 6 ae).trans e6,b6,l6,p6,rfl,r6⟩
 ·first|(cases hi;done)|(simp[ndF] at hi;done)

theorem nB {n:Nat} {c:Value} {y:DataW H×List MemPlace} (h:rF enc Tryz.prog w base spare held n 22 [c]=some y):∃a len cap,∃xs:List Nd,c=.slice a len cap/\ay w a len cap 7 (xs.map ndF):=by
 rcases open_slice Tryz.underlying22 h with ⟨hcs,_⟩|⟨a,len,cap,m,n',D,Pl,hcs,hb,hl,hm,hmm,_,hx⟩
 ·exact eR
 obtain⟨hlm,hm'⟩:=fw;have hce:Tryz.prog.cellsOf 97=7:=al
 rw[hce] at hx;by_cases h0:len=0
 ·exact eQ
 obtain⟨b,o,spot⟩:=a;obtain⟨cs0,k1,k2⟩:=hx 0 ae;have hspot:spot=none:=by
  exact eV
 subst hspot;have hblt:b<w.heap.size:=by
  exact eW
 have each:∀i,i<len->∃v:Nd,RAt w b (o+i*7) (ndF v):=fun i hi=>by
  obtain⟨cs,k1,k2⟩:=hx i ae;obtain⟨_,hl0,hc0⟩:=rH k1;refine ji (fun j hj=>?_) k2;exact eS
 have hin:Inhabited Nd:=⟨⟨⟨#[]⟩,⟨#[]⟩,0,0,0,false,[]⟩⟩;exact ix

theorem jt {b o n:Nat} {cs:List Value} {x:DataW H×List MemPlace} (hc:∀i,i<4->w.cell? ⟨b,o+i,none⟩=cs[i]?) (h:rF enc Tryz.prog w base spare held n 100 cs=some x):∃v:Kd,RAt w b o (kdF v):=by
 obtain⟨m,hl,hf⟩:=ct Tryz.underlying100 al al h;obtain⟨c0,y0,e0,t0⟩:=hf 0 _ rfl;obtain⟨b0,q0,-,s0⟩:=rf Tryz.underlying9 t0;obtain rfl:c0=.string b0:=by simpa using q0
 obtain⟨c1,y1,e1,t1⟩:=hf 1 _ rfl;obtain⟨b1,q1,-⟩:=rX Tryz.underlying4 t1;obtain rfl:c1=.bool b1:=by simpa using q1
 obtain⟨c2,y2,e2,t2⟩:=hf 2 _ rfl;obtain⟨b2,q2,-⟩:=rX Tryz.underlying4 t2;obtain rfl:c2=.bool b2:=by simpa using q2
 obtain⟨c3,y3,e3,t3⟩:=hf 3 _ rfl;obtain⟨b3,q3,-,s3⟩:=rf Tryz.underlying9 t3;obtain rfl:c3=.string b3:=by simpa using q3
 unfold maxLen at s0 s3;refine⟨⟨b0,b1,b2,b3⟩,fun i f hi=>?_⟩;rcases i with _|_|_|_|i
 ·exact ib
 ·cases hi;exact⟨_,(hc 1 ae).trans e1,rfl⟩
 ·cases hi;exact⟨_,(hc 2 ae).trans e2,rfl⟩
 ·cases hi;exact⟨_,(hc 3 ae).trans e3,rfl,show b3.size<=_ by omega⟩
 ·first|(cases hi;done)|(simp[kdF] at hi;done)

theorem nC {n:Nat} {c:Value} {y:DataW H×List MemPlace} (h:rF enc Tryz.prog w base spare held n 23 [c]=some y):∃a len cap,∃xs:List Kd,c=.slice a len cap/\ay w a len cap 4 (xs.map kdF):=by
 rcases open_slice Tryz.underlying23 h with ⟨hcs,_⟩|⟨a,len,cap,m,n',D,Pl,hcs,hb,hl,hm,hmm,_,hx⟩
 ·exact eR
 obtain⟨hlm,hm'⟩:=fw;have hce:Tryz.prog.cellsOf 100=4:=al
 rw[hce] at hx;by_cases h0:len=0
 ·exact eQ
 obtain⟨b,o,spot⟩:=a;obtain⟨cs0,k1,k2⟩:=hx 0 ae;have hspot:spot=none:=by
  exact eV
 subst hspot;have hblt:b<w.heap.size:=by
  exact eW
 have each:∀i,i<len->∃v:Kd,RAt w b (o+i*4) (kdF v):=fun i hi=>by
  obtain⟨cs,k1,k2⟩:=hx i ae;obtain⟨_,hl0,hc0⟩:=rH k1;refine jt (fun j hj=>?_) k2;exact eS
 have hin:Inhabited Kd:=⟨⟨⟨#[]⟩,false,false,⟨#[]⟩⟩⟩;exact ix

theorem iO {b o n:Nat} {cs:List Value} {x:DataW H×List MemPlace} (hc:∀i,i<8->w.cell? ⟨b,o+i,none⟩=cs[i]?) (h:rF enc Tryz.prog w base spare held n 103 cs=some x):∃v:Vd,RAt w b o (vdF v):=by
 obtain⟨m,hl,hf⟩:=ct Tryz.underlying103 al al h;obtain⟨c0,y0,e0,t0⟩:=hf 0 _ rfl;obtain⟨b0,q0,-,s0⟩:=rf Tryz.underlying9 t0;obtain rfl:c0=.string b0:=by simpa using q0
 obtain⟨c1,y1,e1,t1⟩:=hf 1 _ rfl;obtain⟨b1,q1,-,s1⟩:=rS Tryz.underlying2 t1;obtain rfl:c1=.int .i64 b1:=by simpa using q1
 obtain⟨c2,y2,e2,t2⟩:=hf 2 _ rfl;obtain⟨b2,q2,-,s2⟩:=rf Tryz.underlying9 t2;obtain rfl:c2=.string b2:=by simpa using q2
 obtain⟨c3,y3,e3,t3⟩:=hf 3 _ rfl;obtain⟨b3,q3,-,s3⟩:=rf Tryz.underlying9 t3;obtain rfl:c3=.string b3:=by simpa using q3
 obtain⟨c4,y4,e4,t4⟩:=hf 4 _ rfl;obtain⟨b4,q4,-⟩:=rX Tryz.underlying4 t4;obtain rfl:c4=.bool b4:=by simpa using q4
 obtain⟨c5,y5,e5,t5⟩:=hf 5 _ rfl;obtain⟨b5,q5,-,s5⟩:=rf Tryz.underlying9 t5;obtain rfl:c5=.string b5:=by simpa using q5
 obtain⟨c6,y6,e6,t6⟩:=hf 6 _ rfl;obtain⟨b6,q6,-⟩:=rX Tryz.underlying4 t6;obtain rfl:c6=.bool b6:=by simpa using q6
 obtain⟨c7,y7,e7,t7⟩:=hf 7 _ rfl;obtain⟨b7,l7,p7,zz,rfl,r7⟩:=cP Tryz.underlying63 Tryz.underlying9 al t7;unfold maxLen at s0 s2 s3 s5;refine⟨⟨b0,b1,b2,b3,b4,b5,b6,zz⟩,fun i f hi=>?_⟩;rcases i with _|_|_|_|_|_|_|_|i
 ·exact ib
 ·cases hi;exact⟨_,(hc 1 ae).trans e1,rfl⟩
 ·exact lO
 ·cases hi;exact⟨_,(hc 3 ae).trans e3,rfl,show b3.size<=_ by omega⟩
 ·cases hi;exact⟨_,(hc 4 ae).trans e4,rfl⟩
 ·cases hi;exact⟨_,(hc 5 ae).trans e5,rfl,show b5.size<=_ by omega⟩
 ·cases hi;exact⟨_,(hc 6 ae).trans e6,rfl⟩
 ·cases hi;exact⟨_,(hc 7 ae).trans e7,b7,l7,p7,rfl,r7⟩
 ·first|(cases hi;done)|(simp[vdF] at hi;done)

theorem nz {n:Nat} {c:Value} {y:DataW H×List MemPlace} (h:rF enc Tryz.prog w base spare held n 24 [c]=some y):∃a len cap,∃xs:List Vd,c=.slice a len cap/\ay w a len cap 8 (xs.map vdF):=by
 rcases open_slice Tryz.underlying24 h with ⟨hcs,_⟩|⟨a,len,cap,m,n',D,Pl,hcs,hb,hl,hm,hmm,_,hx⟩
 ·exact eR
 obtain⟨hlm,hm'⟩:=fw;have hce:Tryz.prog.cellsOf 103=8:=al
 rw[hce] at hx;by_cases h0:len=0
 ·exact eQ
 obtain⟨b,o,spot⟩:=a;obtain⟨cs0,k1,k2⟩:=hx 0 ae;have hspot:spot=none:=by
  exact eV
 subst hspot;have hblt:b<w.heap.size:=by
  exact eW
 have each:∀i,i<len->∃v:Vd,RAt w b (o+i*8) (vdF v):=fun i hi=>by
  obtain⟨cs,k1,k2⟩:=hx i ae;obtain⟨_,hl0,hc0⟩:=rH k1;refine iO (fun j hj=>?_) k2;exact eS
 have hin:Inhabited Vd:=⟨⟨⟨#[]⟩,0,⟨#[]⟩,⟨#[]⟩,false,⟨#[]⟩,false,[]⟩⟩;exact ix

theorem iM {b o n:Nat} {cs:List Value} {x:DataW H×List MemPlace} (hc:∀i,i<5->w.cell? ⟨b,o+i,none⟩=cs[i]?) (h:rF enc Tryz.prog w base spare held n 106 cs=some x):∃v:Xd,RAt w b o (xdF v):=by
 obtain⟨m,hl,hf⟩:=ct Tryz.underlying106 al al h;obtain⟨c0,y0,e0,t0⟩:=hf 0 _ rfl;obtain⟨b0,q0,-,s0⟩:=rf Tryz.underlying9 t0;obtain rfl:c0=.string b0:=by simpa using q0
 obtain⟨c1,y1,e1,t1⟩:=hf 1 _ rfl;obtain⟨b1,q1,-,s1⟩:=rS Tryz.underlying2 t1;obtain rfl:c1=.int .i64 b1:=by simpa using q1
 obtain⟨c2,y2,e2,t2⟩:=hf 2 _ rfl;obtain⟨b2,q2,-,s2⟩:=rf Tryz.underlying9 t2;obtain rfl:c2=.string b2:=by simpa using q2
 obtain⟨c3,y3,e3,t3⟩:=hf 3 _ rfl;obtain⟨b3,q3,-⟩:=rX Tryz.underlying4 t3;obtain rfl:c3=.bool b3:=by simpa using q3
 obtain⟨c4,y4,e4,t4⟩:=hf 4 _ rfl;obtain⟨b4,q4,-,s4⟩:=rf Tryz.underlying9 t4;obtain rfl:c4=.string b4:=by simpa using q4
 unfold maxLen at s0 s2 s4;refine⟨⟨b0,b1,b2,b3,b4⟩,fun i f hi=>?_⟩;rcases i with _|_|_|_|_|i
 ·exact ib
 ·cases hi;exact⟨_,(hc 1 ae).trans e1,rfl⟩
 ·exact lO
 ·cases hi;exact⟨_,(hc 3 ae).trans e3,rfl⟩
 ·cases hi;exact⟨_,(hc 4 ae).trans e4,rfl,show b4.size<=_ by omega⟩
 ·first|(cases hi;done)|(simp[xdF] at hi;done)

theorem ny {n:Nat} {c:Value} {y:DataW H×List MemPlace} (h:rF enc Tryz.prog w base spare held n 25 [c]=some y):∃a len cap,∃xs:List Xd,c=.slice a len cap/\ay w a len cap 5 (xs.map xdF):=by
 rcases open_slice Tryz.underlying25 h with ⟨hcs,_⟩|⟨a,len,cap,m,n',D,Pl,hcs,hb,hl,hm,hmm,_,hx⟩
 ·exact eR
 obtain⟨hlm,hm'⟩:=fw;have hce:Tryz.prog.cellsOf 106=5:=al
 rw[hce] at hx;by_cases h0:len=0
 ·exact eQ
 obtain⟨b,o,spot⟩:=a;obtain⟨cs0,k1,k2⟩:=hx 0 ae;have hspot:spot=none:=by
  exact eV
 subst hspot;have hblt:b<w.heap.size:=by
  exact eW
 have each:∀i,i<len->∃v:Xd,RAt w b (o+i*5) (xdF v):=fun i hi=>by
  obtain⟨cs,k1,k2⟩:=hx i ae;obtain⟨_,hl0,hc0⟩:=rH k1;refine iM (fun j hj=>?_) k2;exact eS
 have hin:Inhabited Xd:=⟨⟨⟨#[]⟩,0,⟨#[]⟩,false,⟨#[]⟩⟩⟩;exact ix

theorem jf {b o n:Nat} {cs:List Value} {x:DataW H×List MemPlace} (hc:∀i,i<6->w.cell? ⟨b,o+i,none⟩=cs[i]?) (h:rF enc Tryz.prog w base spare held n 108 cs=some x):∃v:Pd,RAt w b o (pdF v):=by
 obtain⟨m,hl,hf⟩:=ct Tryz.underlying108 al al h;obtain⟨c0,y0,e0,t0⟩:=hf 0 _ rfl;obtain⟨b0,q0,-,s0⟩:=rf Tryz.underlying9 t0;obtain rfl:c0=.string b0:=by simpa using q0
 obtain⟨c1,y1,e1,t1⟩:=hf 1 _ rfl;obtain⟨b1,q1,-,s1⟩:=rS Tryz.underlying2 t1;obtain rfl:c1=.int .i64 b1:=by simpa using q1
 obtain⟨c2,y2,e2,t2⟩:=hf 2 _ rfl;obtain⟨b2,q2,-,s2⟩:=rf Tryz.underlying9 t2;obtain rfl:c2=.string b2:=by simpa using q2
 obtain⟨c3,y3,e3,t3⟩:=hf 3 _ rfl;obtain⟨b3,l3,p3,zz,rfl,r3⟩:=cP Tryz.underlying63 Tryz.underlying9 al t3;obtain⟨c4,y4,e4,t4⟩:=hf 4 _ rfl;obtain⟨b4,q4,-,s4⟩:=rf Tryz.underlying9 t4;obtain rfl:c4=.string b4:=by simpa using q4
 obtain⟨c5,y5,e5,t5⟩:=hf 5 _ rfl;obtain⟨b5,q5,-,s5⟩:=rS Tryz.underlying2 t5;obtain rfl:c5=.int .i64 b5:=by simpa using q5
 unfold maxLen at s0 s2 s4;refine⟨⟨b0,b1,b2,zz,b4,b5⟩,fun i f hi=>?_⟩;rcases i with _|_|_|_|_|_|i
 ·exact ib
 ·cases hi;exact⟨_,(hc 1 ae).trans e1,rfl⟩
 ·exact lO
 ·cases hi;exact⟨_,(hc 3 ae).trans e3,b3,l3,p3,rfl,r3⟩
 ·cases hi;exact⟨_,(hc 4 ae).trans e4,rfl,show b4.size<=_ by omega⟩
 ·cases hi;exact⟨_,(hc 5 ae).trans e5,rfl⟩
 ·first|(cases hi;done)|(simp[pdF] at hi;done)

theorem nA {n:Nat} {c:Value} {y:DataW H×List MemPlace} (h:rF enc Tryz.prog w base spare held n 26 [c]=some y):∃a len cap,∃xs:List Pd,c=.slice a len cap/\ay w a len cap 6 (xs.map pdF):=by
 rcases open_slice Tryz.underlying26 h with ⟨hcs,_⟩|⟨a,len,cap,m,n',D,Pl,hcs,hb,hl,hm,hmm,_,hx⟩
 ·exact eR
 obtain⟨hlm,hm'⟩:=fw;have hce:Tryz.prog.cellsOf 108=6:=al
 rw[hce] at hx;by_cases h0:len=0
 ·exact eQ
 obtain⟨b,o,spot⟩:=a;obtain⟨cs0,k1,k2⟩:=hx 0 ae;have hspot:spot=none:=by
  exact eV
 subst hspot;have hblt:b<w.heap.size:=by
  exact eW
 have each:∀i,i<len->∃v:Pd,RAt w b (o+i*6) (pdF v):=fun i hi=>by
  obtain⟨cs,k1,k2⟩:=hx i ae;obtain⟨_,hl0,hc0⟩:=rH k1;refine jf (fun j hj=>?_) k2;exact eS
 have hin:Inhabited Pd:=⟨⟨⟨#[]⟩,0,⟨#[]⟩,[],⟨#[]⟩,0⟩⟩;exact ix

end

end Rc
end Go.Proofs.YtdoldaceehdifaaGreatDoor

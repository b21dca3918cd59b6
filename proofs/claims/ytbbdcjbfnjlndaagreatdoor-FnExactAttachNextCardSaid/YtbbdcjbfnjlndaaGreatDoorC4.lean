import Derived.Test.YtbbdcjbfnjlndaaGreatDoorC3
import Derived.WalkKit
import Derived.LaidEql
import Derived.Stop.Asserts
import Derived.RowKitTokens
import Derived.Test.YtbbdcjbfnjlndaaGreatDoorRows
import Derived.WalkSpells
import Derived.RegionTactic
import Derived.Lib.Overlaps
import Derived.Lib.SliceRun
import Derived.Lib.AppendZerosOnto
import Derived.Deep.RegionLaw
import Derived.Shelf.RegionOpenPlain
import Derived.Deep.AppendLies
import Derived.Laws.StructEq
/-
 The program's words for why not: different from each other; errors.Is over them; the code of each.
-/
set_option maxRecDepth 100000
set_option maxHeartbeats 12800000
open And renaming intro→xf
open Array renaming getElem?_push_size→xt, getD_eq_getD_getElem?→xv, getElem?_eq_some_iff→xA, getElem?_setIfInBounds→xJ
open Bool renaming and_eq_true→yk
open Classical renaming byContradiction→yj
open Go.Act renaming put→yx
open Go.Addr renaming add_lit→xB
open Go.Builtin renaming append_→xU, zeroCells→yS, copy_→za
open Go.Calls renaming quiet_of_same→xI
open Go.Op renaming bytesLess→xn
open Go.Region renaming ready→xY, wanted→yA
open Go.RowKit.Below renaming heap_setCell→xi, refl→xj, heap_alloc→xM
open Go.Value renaming string→xo
open Go.World renaming setCell→xZ, block_lt_of_cell?→x8, ownsRow_nil→yq, cell?_of_block→yr
open Int renaming le_trans→xQ, add_assoc→yv
open List renaming getElem?_eq_some_iff→xe, lookup→xg, getElem?_eq_getElem→xm, getElem?_map→xq, take_of_length_le→xw, setIfInBounds_toArray→xx, mem_of_getElem?→xD, length_take→xE, getElem?_take→xF, set_cons_zero→xG, forall_mem_cons→xH, set_cons_succ→xK, eq_nil_of_length_eq_zero→xN, length_append→xO, getElem?_append_left→xP, length_map→xR, getElem?_of_mem→xS, mem_cons→xV, drop_eq_nil_of_le→xW, getElem?_drop→xX, take_add_one→yb, getElem?_append_right→ye, length_drop→yf, getLast→yg, getElem?_eq_none→yi, foldr→yo, range→yt, not_mem_nil→yu, append_assoc→yz, filter_append→yM, length_cons→yU, take_left'→yZ
open Nat renaming le_refl→xk, le_trans→xp, lt_of_lt_of_le→xr, le_succ→xC, zero_add→xL, eq_zero_or_pos→yy
open Option renaming map_eq_some_iff→xu
open Option.some renaming inj→xh, injEq→ym
open Prod.mk renaming injEq→y9
namespace Go.Proofs.YtbbdcjbfnjlndaaGreatDoor
theorem fX {p:Prop} (h:p:=by simp[Value.oneCell']):p:=h
theorem ny {p:Prop} (h:p:=by rw[<-List.flatten_append,List.take_append_drop]):p:=h
theorem kd {p:Prop} (h:p:=by rw[xE];omega):p:=h
theorem kb {p:Prop} (h:p:=by rw[o6 HVA.out,hvl]):p:=h
theorem nr {p:Prop} (h:p:=by simpa[Act.eval] using hu4.symm):p:=h
theorem ix {p:Prop} (h:p:=by simpa using hown5):p:=h
theorem tB {p:Prop} (h:p:=by have e1:=dw h1;have e2:=dw h2;obtain⟨y1,y2⟩:=y;obtain⟨x1,x2⟩:=x;cases e1;cases e2;rfl):p:=h
theorem nq {p:Prop} (h:p:=by simpa[Act.eval] using e27'):p:=h
theorem j_ {p:Prop} (h:p:=by have:=hW.size;omega):p:=h
theorem np {p:Prop} (h:p:=by simpa[Act.eval] using e21):p:=h
theorem nn {p:Prop} (h:p:=by simpa[Act.eval] using e23):p:=h
theorem tz {p:Prop} (h:p:=by simp only[xO,xE,yf];omega):p:=h
end Go.Proofs.YtbbdcjbfnjlndaaGreatDoor
namespace Go.Proofs.YtbbdcjbfnjlndaaGreatDoor
theorem vd {p:Prop} (h:p:=by
 refine⟨v',w',hr,h2,⟨h3.os,h3.tape,h3.output,h3.size,fun k hk hp=>?_⟩⟩;by_cases hkg:some k=v.ownBlock
 ·rcases hown.2 with ⟨rfl,h5⟩|⟨g,cap,cur,rfl,hbg,hg,hnc,hcm,hcs,htake⟩
  ·omega
  ·obtain rfl:k=g:=by simpa[Value.ownBlock] using hkg
   have hc1:cap<n+m:=by
    rcases hp with hp|⟨cs,T,h6,h7⟩
    ·omega
    ·rw[hg] at h6;cases h6;omega
   have hsm:n+m<=9223372036854775807:=by simp only[maxLen] at h63;omega
   have holds:∀(j:Nat) u,xs[j]?=some u->w.cell? ((⟨k,0,none⟩:Addr).add j)=some u:=hown.cells (g:=k) rfl;subst hby;have hr2:=run_append_grow (P:=Tryz.prog) w t ty e i z ht hi hz ⟨k,0,none⟩ n cap xs (by rw[hsize];exact hown.1) holds ad m c news (by rw[hsize];exact hl) hnw af af (growslice_fits af hbytes);rw[hr] at hr2;cases hr2;exact xM w.drew _ k hk
 ·exact h3.block k hk hkg):p:=h
theorem gN {p:Prop} (h:p:=by
 go_simp;refine hK _ _ (Rv.other aj (xj _ _)) ?_;with_reducible rfl):p:=h
theorem fg {p:Prop} (h:p:=by
 rintro e w' ⟨rfl,rfl⟩;go_wp2;go_ret;exact⟨rfl,rfl⟩):p:=h
theorem uP {p:Prop} (h:p:=by
 rw[<-e1] at hs3;have HS1:=aa hs1;have HS2:=aa hs2';have HS3:=aa hs3;have HS4:=aa hs4;obtain⟨o0,o1,o2,o3,o4,o5⟩:=cs6 bo5;have fo0:=aw bo5 0;have fo2:=aw bo5 2;have fo4:=aw bo5 4;clear hs1 hs2' hs3 hs4 bo5 hown5 hgrow e1;go_wp2;exact⟨⟨k+1,_,H',_,by omega,by go_num,HS1,HS2,HS3,HS4⟩,by simp[intOf];omega⟩):p:=h
theorem uO {p:Prop} (h:p:=by
 rcases hown.2 with ⟨rfl,rfl⟩|⟨g,cap,cur,rfl,_,_,hnc,_⟩
 ·cases ax <;> simp[xU,run_underlying ht,sizeOf,typeInfo,hi,Builtin.lenOf,Builtin.firstCells,loadCells,loadCellsFrom]
 ·cases ax <;> simp[xU,run_underlying ht,sizeOf,typeInfo,hi,Builtin.lenOf,Builtin.firstCells,hnc,storeCells,loadCells,loadCellsFrom]):p:=h
theorem kD {p:Prop} (h:p:=by
 rintro v w w' ⟨b,h1,h2,h3⟩ hb;exact⟨b,h1,h2,(hb.block _ (ae h3)).trans h3⟩):p:=h
theorem uy {p:Prop} (h:p:=by
 unfold Oper.wp execOp;simp only[ho,resolve,invoke,builtin,Sem.run_bind,Sem.run_pure,Result.andThen_ok,List.map_toArray,List.map_cons,List.map_nil,hs,hx,hr];exact hK _ _ (h v w (by simpa using hown) (World.grownBy.refl _ _))):p:=h
theorem ux {p:Prop} (h:p:=by
 cases r;all_goals (
  go_wp2
  go_ret
  first
   | exact aq.t ((iG HD.out).2 (of_decide_eq_true HRR.symm)) HB.out
   | exact aq.f (fun h=>(of_decide_eq_false HRR.symm) ((iG HD.out).1 h)) HB.out)):p:=h
theorem qi {p:Prop} (h:p:=by
 rintro e w6 ⟨a',c',rfl,ho,hb6⟩;exact hK _ _ hb6 ⟨a',c',rfl,ho.dX (fun k hk s=>⟨s,hk⟩),Below.size hW⟩):p:=h
theorem uv {p:Prop} (h:p:=by
 cases r;all_goals (
  go_wp2
  go_ret
  first
   | exact aq.t ((gY HD.out).2 (fun h=>by have h9:=HH.2 h;cases h9)) HB.out
   | exact aq.f (fun h=>(gY HD.out).1 h (HH.1 aT)) HB.out)):p:=h
theorem rM {p:Prop} (h:p:=by
 unfold Oper.wp execOp;simp only[ho,resolve,invoke,builtin,Sem.run_bind,Sem.run_pure,Result.andThen_ok,List.map_toArray,List.map_cons,List.map_nil,hs,hx,hr];exact hK _ _ (h v' w' h2 h3)):p:=h
theorem rJ {p:Prop} (h:p:=by
 intro a' c' w' hR hb6;have hsw:=hW.size;exact hK _ _ hb6 ⟨a',c',rfl,hR.dX (fun k _ s=>by show W.heap.size<=k;rcases s with rfl|s <;> omega)⟩):p:=h
theorem rC {p:Prop} (h:p:=by
 obtain⟨b,e,h3⟩:=HC.out j u hj;exact⟨b,e,xr (bG h3) HB.size,(ai HB.out (bG h3)).trans h3⟩):p:=h
theorem rz {p:Prop} (h:p:=by
 obtain⟨i9,n9,_,_,_,h9⟩:=(HT.2.2.2.1.1 k x HXx.out).2.resolve_left HHE.out;obtain⟨v,hv,_⟩:=h9 n t hx2;exact⟨v,hv⟩):p:=h
theorem fL {p:Prop} (h:p:=by
 refine Gi.Obl.plain rfl ?_;intro ac wg K lo hi hsz hW hpr hf hap hK;clear hsz hap hpr;have e1:=hf 1 aj;simp[Gi.ak,xg] at e1;clear hf;exact bx):p:=h
theorem fJ {p:Prop} (h:p:=by
 clear hf;obtain⟨k0,k1,k2,k3,k4,k5⟩:=cs6 ((Below.block hW _ (ae Bk.out)).trans Bk.out);exact bx):p:=h
theorem qU {p:Prop} (h:p:=by
 go_wp2;refine⟨⟨k+1,ca,cl,cc,ys,by omega,by go_num,rfl,⟨HQ.1,HQ.2.1,fun q=>?_,by omega⟩,HL.trans (HBP.mono af)⟩,by simp[intOf];omega⟩;rw[HQ.2.2.1,Wn.yes HXx.out HHE.out,hxz,hnv]):p:=h
theorem qT {p:Prop} (h:p:=by
 refine Gi.Obl.plain rfl ?_;intro ac wg K lo hi hsz hW hpr hf hap hK;clear hsz hap hpr;have hW:wr.grownBy wg v.ownBlock:=hW;have e3:=hf 3 aj;simp[Gi.ak,xg] at e3;clear hf;exact gN):p:=h
theorem qF {p:Prop} (h:p:=by
 rcases hown.2 with ⟨rfl,_⟩|⟨g,cap,cur,rfl,_⟩
 ·exact⟨_,_,_,rfl⟩
 ·exact⟨_,_,_,rfl⟩):p:=h
theorem qB {p:Prop} (h:p:=by
 go_wp2;go_ret;exact⟨_,_,_,ys,rfl,HQ.1,HQ.2.1,by rw[hl5,<-hkl];exact HQ.2.2.1,by have:=HQ.2.2.2;omega,HB.out⟩):p:=h
theorem i_ {p:Prop} (h:p:=by
 have HE:=aa h;have v0:=h.v0;have v1:=h.v1;have v2:=h.v2;have v3:=h.v3;have v4:=h.v4;have v5:=h.v5;have v6:=h.v6;have v7:=h.v7;have v8:=h.v8;have v9:=h.v9;exact xf HE (xf v0 (xf v1 (xf v2 (xf v3 (xf v4 (xf v5 (xf v6 (xf v7 (xf v8 v9)))))))))):p:=h
theorem qg {p:Prop} (h:p:=by
 have Bk:=aa ((HL.block w.heap.size af).trans (heap_alloc_new w (.cells (clo6 a1 l1 y1 a2 l2 y2 a3 l3 y3 a4 l4 y4 a5 l5 y5 c.now) 36)));have HB:=aa ((al w (.cells (clo6 a1 l1 y1 a2 l2 y2 a3 l3 y3 a4 l4 y4 a5 l5 y5 c.now) 36)).trans (HL.mono af));have hLs:w.heap.size+1<=wr.heap.size:=by have h8:=HL.size;rw[cB] at h8;exact h8
 exact xf Bk (xf HB hLs)):p:=h
theorem qd {p:Prop} (h:p:=by
 have hXs:=HBX.size;have HBW:=aa (HBX.trans (HK.low (X:=w.heap.size) hXs (fun k s=>by rcases s with rfl|s <;> omega)));have BkR:=aa ((HK.block w.heap.size af (fun s=>by rcases s with s|s <;> omega)).trans Bk.out);have hKs:=HK.size;exact xf hXs (xf HBW (xf BkR hKs))):p:=h
theorem uh {p:Prop} (h:p:=by
 have HVA:=aa hV.all;have HV1:=aa hV.one;have HFIN:Hid (∀(w4:World) v4 base k,k<=len->w.heap.size<=base->Below w.heap.size w w4->w4.ownsRow base 58 2 v4 (len+1) (bz k [.string x.n,.string x.d] vss).flatten->∃a' c',v4=.slice a' (len+1) c'/\az w4 a' (len+1) c' 2 58 ((bz k x zs).map qdF) (fun k=>B<=k)):=fun w4 v4 base k hk hbs hB4 ho4=>vA hV hll hk hB4 hx1 hx2 (fun k hk=>by omega) ho4;exact xf HVA (xf HV1 HFIN)):p:=h
theorem qb {p:Prop} (h:p:=by
 have hs3:W1.heap.size+1<=wr.heap.size:=by have h8:=HL2.size;rw[cB] at h8;exact h8
 have hyl:ys.length=cl:=by have h9:(ys.map qdF).length=cl:=HQ.1.1;rw[xR] at h9;exact h9
 have hyb:=HQ.2.2.2;exact xf hs3 (xf hyl hyb)):p:=h
theorem ud {p:Prop} (h:p:=by
 have h8:=@run_callFunc_extern Tryz.prog 172 _ Extern.ReflectliteType.typeOf Tryz.func172 an an an an;have h32:=@run_callFunc_extern Tryz.prog 241 _ wj Tryz.func241 an an an an;have tT:=r_;have cT:=jm;have mR:=eQ;exact xf h8 (xf h32 (xf tT (xf cT mR)))):p:=h
theorem tS {p:Prop} (h:p:=by
 have HOW:Hid ((q3.w.alloc (.cells #[] 58)).ownsRow q3.w.heap.size 58 2 (.slice (some ⟨q3.w.heap.size,0,none⟩) 0 0) 0 []):=World.ownsRow_made q3.w #[] 0 (xk _) (Nat.zero_le _) aT;have hik:(k:Int)<=cap:=af
 have hkn:k<=cap:=af
 exact xf HOW (xf hik hkn)):p:=h
theorem tN {p:Prop} (h:p:=by
 have hbP:Below W1.heap.size W1 wr:=(al W1 (.cells (pov x va vl vc) 105)).trans (HL2.mono af);have Bp:=aa ((HL2.block W1.heap.size af).trans (heap_alloc_new W1 (.cells (pov x va vl vc) 105)));exact xf hbP Bp):p:=h
theorem tK {p:Prop} (h:p:=by
 have Br:Hid (W.heap[w.heap.size+1]?=some (.cells (clo6 none 0 0 none 0 0 none 0 0 none 0 0 none 0 0 0) 36 (0,0))):=by rw[hW0];exact bV _ _ _
 have hWs:W.heap.size=w.heap.size+1+1:=by rw[hW0];simp
 exact xf Br hWs):p:=h
theorem tE {p:Prop} (h:p:=by
 have hs2:wr.heap.size+1<w2.heap.size:=by have:=hb2.size;simp at this;omega
 have hsl:∀k,(k=wr.heap.size+1\/wr.heap.size+1+1<=k)->wr.heap.size+1<=k:=fun k s=>by omega
 exact xf hs2 hsl):p:=h
theorem tD {p:Prop} (h:p:=by
 have Bx:Hid (W.heap[w.heap.size+1]?=some (.cells #[.string x.n,.string x.d] 58 (0,0))):=by rw[hW0];exact bV _ _ _
 have HBW:Hid (Below w.heap.size w W):=by rw[hW0];exact aM _ _ _
 exact xf Bx HBW):p:=h
theorem tC {p:Prop} (h:p:=by
 have HG:Hid (∀zs:List ByteArray,x.zs=zs->zs≠[]->wr.heap.size<=g):=fun zs e hz=>by subst e;have:=hsl _ (hg.lt hz).1;omega
 have HB4:=aa hb4;have HO4:=aa (br HO.out hb4);exact xf HG (xf HB4 HO4)):p:=h
end Go.Proofs.YtbbdcjbfnjlndaaGreatDoor
namespace Go.Proofs.YtbbdcjbfnjlndaaGreatDoor
open Go.RowKit Go.Extern.Stop Go.Stop Go.Extern
namespace Rc

structure Ers (w:World) (E:Nat->Addr):Prop where
 v0:w.cell? ⟨2,0,none⟩=some (.iface 216 (.pointer (some (E 0))))
 v1:w.cell? ⟨0,0,none⟩=some (.iface 216 (.pointer (some (E 1))))
 v2:w.cell? ⟨1,0,none⟩=some (.iface 216 (.pointer (some (E 2))))
 v3:w.cell? ⟨4,0,none⟩=some (.iface 216 (.pointer (some (E 3))))
 v4:w.cell? ⟨6,0,none⟩=some (.iface 216 (.pointer (some (E 4))))
 v5:w.cell? ⟨7,0,none⟩=some (.iface 216 (.pointer (some (E 5))))
 v6:w.cell? ⟨5,0,none⟩=some (.iface 216 (.pointer (some (E 6))))
 v7:w.cell? ⟨8,0,none⟩=some (.iface 216 (.pointer (some (E 7))))
 v8:w.cell? ⟨9,0,none⟩=some (.iface 216 (.pointer (some (E 8))))
 v9:w.cell? ⟨3,0,none⟩=some (.iface 216 (.pointer (some (E 9))))
 blk:∀i,i<10->∃cs T,w.heap[(E i).block]?=some (.cells cs T (0,0))
 inj:∀i j,i<10->j<10->E i=E j->i=j
theorem bG {w:World} {b o:Nat} {v:Value} (h:w.cell? ⟨b,o,none⟩=some v):b<w.heap.size:=x8 w _ h
theorem Ers.below {w w':World} {E:Nat->Addr} (h:Ers w E) (hb:Below w.heap.size w w'):Ers w' E:=
 ⟨(ai hb (bG h.v0)).trans h.v0,(ai hb (bG h.v1)).trans h.v1,(ai hb (bG h.v2)).trans h.v2,(ai hb (bG h.v3)).trans h.v3,(ai hb (bG h.v4)).trans h.v4,(ai hb (bG h.v5)).trans h.v5,(ai hb (bG h.v6)).trans h.v6,(ai hb (bG h.v7)).trans h.v7,(ai hb (bG h.v8)).trans h.v8,(ai hb (bG h.v9)).trans h.v9,fun i hi=>by
  obtain⟨cs,T,h1⟩:=h.blk i hi;exact⟨cs,T,(hb.block _ (ae h1)).trans h1⟩,h.inj⟩
theorem Ers.ens {w:World} {E:Nat->Addr} (h:Ers w E):ens w:=⟨_,_,h.v2⟩

theorem r_ (v:Value) (w:World):(Extern.ReflectliteType.typeOf #[.iface 216 v]).run Tryz.prog w=.ok (.iface 202 (.agg #[.pointer (some ⟨11,216,none⟩)])) w:=by kernel_rfl
def wj:Array Value->Sem Value:=Extern.ReflectliteType.method fun t=>do Rtype.noPackHeld "Comparable" t;pure (.bool (<-typeInfo t).comparable)
theorem jm (w:World):(wj #[.agg #[.pointer (some ⟨11,216,none⟩)]]).run Tryz.prog w=.ok (.bool true) w:=by kernel_rfl
theorem eQ (v:Value) (w:World):(Go.method 362 202 v "Comparable").run Tryz.prog w=.ok (241,v) w:=by kernel_rfl
theorem sd:(Tryz.prog.info? 216).map (·.comparable)=some true:=by kernel_rfl
theorem sb:(Tryz.prog.info? 251).map (·.size)=some 1:=by kernel_rfl
theorem we (v:Value) (xT:TypeId) (w:World):(Instr.typeAssert (.iface 216 v) xT 204 true).run Tryz.prog w=.ok (.tuple #[.nilIface,.bool false]) w:=run_typeAssert_lacksB Tryz.underlying204 (by kernel_rfl) (by kernel_rfl) v xT w
theorem oF (v:Value) (xT:TypeId) (w:World):(Instr.typeAssert (.iface 216 v) xT 207 true).run Tryz.prog w=.ok (.tuple #[.nilIface,.bool false]) w:=run_typeAssert_lacksB Tryz.underlying207 (by kernel_rfl) (by kernel_rfl) v xT w
theorem me (v:Value) (xT:TypeId) (w:World):(Instr.typeAssert (.iface 216 v) xT 209 true).run Tryz.prog w=.ok (.tuple #[.nilIface,.bool false]) w:=run_typeAssert_lacksB Tryz.underlying209 (by kernel_rfl) (by kernel_rfl) v xT w

theorem dr (a:Addr) (w:World)  :
  Calls Tryz.prog 140 #[.iface 216 (.pointer (some (a))),.iface 216 (.pointer (some (a)))] w fun e w'=>e=.returned (.bool true)/\w'=w:=by
 obtain⟨i,hi,hcmp⟩:=xu.1 sd;obtain⟨j,hj,hjs⟩:=xu.1 sb;obtain⟨h8,h32,tT,cT,mR⟩:=ud;have heq:=run_eql_iface_ptr_same (P:=Tryz.prog) w a Tryz.underlying71 Tryz.underlying216 hi hcmp hj;go_enter Tryz.func140,Tryz.ntmps140;exact lY

theorem r9 (a b:Addr) (ca cb:Array Value) (ta tb:TypeId) (w:World) (hne:a≠b) (ha:w.heap[a.block]?=some (.cells ca ta (0,0))) (hb:w.heap[b.block]?=some (.cells cb tb (0,0))):
  Calls Tryz.prog 140 #[.iface 216 (.pointer (some (a))),.iface 216 (.pointer (some (b)))] w fun e w'=>e=.returned (.bool false)/\w'=w:=by
 obtain⟨i,hi,hcmp⟩:=xu.1 sd;obtain⟨j,hj,hjs⟩:=xu.1 sb;obtain⟨h8,h32,tT,cT,mR⟩:=ud;have nE:=we;have uE:=oF;have vE:=me;have heq:=run_eql_iface_ptr_other (P:=Tryz.prog) w Tryz.underlying71 Tryz.underlying216 hi hcmp hj (by rw[hjs];decide) hne ha hb;go_enter Tryz.func140,Tryz.ntmps140;exact lY

theorem ay {w:World} {E:Nat->Addr} (h:Ers w E) (i j:Nat) (hi:i<10) (hj:j<10) (hne:¬i=j):
  Calls Tryz.prog 140 #[.iface 216 (.pointer (some (E i))),.iface 216 (.pointer (some (E j)))] w fun e w'=>e=.returned (.bool false)/\w'=w:=by
 obtain⟨ca,ta,h1⟩:=h.blk i hi;obtain⟨cb,tb,h2⟩:=h.blk j hj;exact r9 (E i) (E j) ca cb ta tb w (fun e=>hne (h.inj i j hi hj e)) h1 h2

def fR:Nat->Int
 | 0=>2
 | 1=>1
 | 2=>6
 | 3=>7
 | 4=>9
 | 5=>11
 | 6=>7
 | 7=>11
 | 8=>10
 | 9=>3
 | _=>0

theorem wN (E:Nat->Addr) (w:World) (h:Ers w E):Calls Tryz.prog 83 #[.iface 216 (.pointer (some (E 0)))] w fun e w'=>e=.returned (.int .i64 2)/\w'=w:=by
 obtain⟨HE,v0,v1,v2,v3,v4,v5,v6,v7,v8,v9⟩:=i_;clear h;go_enter Tryz.func83,Tryz.ntmps83;go_wp2_with fail;refine (dr (E 0) _).mono ?_;exact fg

theorem wM (E:Nat->Addr) (w:World) (h:Ers w E):Calls Tryz.prog 83 #[.iface 216 (.pointer (some (E 1)))] w fun e w'=>e=.returned (.int .i64 1)/\w'=w:=by
 obtain⟨HE,v0,v1,v2,v3,v4,v5,v6,v7,v8,v9⟩:=i_;clear h;go_enter Tryz.func83,Tryz.ntmps83;go_wp2_with fail;refine (ay HE.out 1 0 aj aj aj).mono ?_;rintro e w' ⟨rfl,rfl⟩;go_wp2_with fail;refine (ay HE.out 1 9 aj aj aj).mono ?_;rintro e w' ⟨rfl,rfl⟩;go_wp2_with fail;refine (ay HE.out 1 2 aj aj aj).mono ?_;rintro e w' ⟨rfl,rfl⟩;go_wp2_with fail;refine (ay HE.out 1 3 aj aj aj).mono ?_;rintro e w' ⟨rfl,rfl⟩;go_wp2_with fail;refine (ay HE.out 1 6 aj aj aj).mono ?_;rintro e w' ⟨rfl,rfl⟩;go_wp2_with fail;refine (ay HE.out 1 4 aj aj aj).mono ?_;rintro e w' ⟨rfl,rfl⟩;go_wp2_with fail;refine (ay HE.out 1 5 aj aj aj).mono ?_;rintro e w' ⟨rfl,rfl⟩;go_wp2_with fail;refine (ay HE.out 1 7 aj aj aj).mono ?_;rintro e w' ⟨rfl,rfl⟩;go_wp2_with fail;refine (ay HE.out 1 8 aj aj aj).mono ?_;exact fg

theorem wL (E:Nat->Addr) (w:World) (h:Ers w E):Calls Tryz.prog 83 #[.iface 216 (.pointer (some (E 2)))] w fun e w'=>e=.returned (.int .i64 6)/\w'=w:=by
 obtain⟨HE,v0,v1,v2,v3,v4,v5,v6,v7,v8,v9⟩:=i_;clear h;go_enter Tryz.func83,Tryz.ntmps83;go_wp2_with fail;refine (ay HE.out 2 0 aj aj aj).mono ?_;rintro e w' ⟨rfl,rfl⟩;go_wp2_with fail;refine (ay HE.out 2 9 aj aj aj).mono ?_;rintro e w' ⟨rfl,rfl⟩;go_wp2_with fail;refine (dr (E 2) _).mono ?_;exact fg

theorem wK (E:Nat->Addr) (w:World) (h:Ers w E):Calls Tryz.prog 83 #[.iface 216 (.pointer (some (E 3)))] w fun e w'=>e=.returned (.int .i64 7)/\w'=w:=by
 obtain⟨HE,v0,v1,v2,v3,v4,v5,v6,v7,v8,v9⟩:=i_;clear h;go_enter Tryz.func83,Tryz.ntmps83;go_wp2_with fail;refine (ay HE.out 3 0 aj aj aj).mono ?_;rintro e w' ⟨rfl,rfl⟩;go_wp2_with fail;refine (ay HE.out 3 9 aj aj aj).mono ?_;rintro e w' ⟨rfl,rfl⟩;go_wp2_with fail;refine (ay HE.out 3 2 aj aj aj).mono ?_;rintro e w' ⟨rfl,rfl⟩;go_wp2_with fail;refine (dr (E 3) _).mono ?_;exact fg

theorem wJ (E:Nat->Addr) (w:World) (h:Ers w E):Calls Tryz.prog 83 #[.iface 216 (.pointer (some (E 4)))] w fun e w'=>e=.returned (.int .i64 9)/\w'=w:=by
 obtain⟨HE,v0,v1,v2,v3,v4,v5,v6,v7,v8,v9⟩:=i_;clear h;go_enter Tryz.func83,Tryz.ntmps83;go_wp2_with fail;refine (ay HE.out 4 0 aj aj aj).mono ?_;rintro e w' ⟨rfl,rfl⟩;go_wp2_with fail;refine (ay HE.out 4 9 aj aj aj).mono ?_;rintro e w' ⟨rfl,rfl⟩;go_wp2_with fail;refine (ay HE.out 4 2 aj aj aj).mono ?_;rintro e w' ⟨rfl,rfl⟩;go_wp2_with fail;refine (ay HE.out 4 3 aj aj aj).mono ?_;rintro e w' ⟨rfl,rfl⟩;go_wp2_with fail;refine (ay HE.out 4 6 aj aj aj).mono ?_;rintro e w' ⟨rfl,rfl⟩;go_wp2_with fail;refine (dr (E 4) _).mono ?_;exact fg

theorem wI (E:Nat->Addr) (w:World) (h:Ers w E):Calls Tryz.prog 83 #[.iface 216 (.pointer (some (E 5)))] w fun e w'=>e=.returned (.int .i64 11)/\w'=w:=by
 obtain⟨HE,v0,v1,v2,v3,v4,v5,v6,v7,v8,v9⟩:=i_;clear h;go_enter Tryz.func83,Tryz.ntmps83;go_wp2_with fail;refine (ay HE.out 5 0 aj aj aj).mono ?_;rintro e w' ⟨rfl,rfl⟩;go_wp2_with fail;refine (ay HE.out 5 9 aj aj aj).mono ?_;rintro e w' ⟨rfl,rfl⟩;go_wp2_with fail;refine (ay HE.out 5 2 aj aj aj).mono ?_;rintro e w' ⟨rfl,rfl⟩;go_wp2_with fail;refine (ay HE.out 5 3 aj aj aj).mono ?_;rintro e w' ⟨rfl,rfl⟩;go_wp2_with fail;refine (ay HE.out 5 6 aj aj aj).mono ?_;rintro e w' ⟨rfl,rfl⟩;go_wp2_with fail;refine (ay HE.out 5 4 aj aj aj).mono ?_;rintro e w' ⟨rfl,rfl⟩;go_wp2_with fail;refine (dr (E 5) _).mono ?_;exact fg

theorem wH (E:Nat->Addr) (w:World) (h:Ers w E):Calls Tryz.prog 83 #[.iface 216 (.pointer (some (E 6)))] w fun e w'=>e=.returned (.int .i64 7)/\w'=w:=by
 obtain⟨HE,v0,v1,v2,v3,v4,v5,v6,v7,v8,v9⟩:=i_;clear h;go_enter Tryz.func83,Tryz.ntmps83;go_wp2_with fail;refine (ay HE.out 6 0 aj aj aj).mono ?_;rintro e w' ⟨rfl,rfl⟩;go_wp2_with fail;refine (ay HE.out 6 9 aj aj aj).mono ?_;rintro e w' ⟨rfl,rfl⟩;go_wp2_with fail;refine (ay HE.out 6 2 aj aj aj).mono ?_;rintro e w' ⟨rfl,rfl⟩;go_wp2_with fail;refine (ay HE.out 6 3 aj aj aj).mono ?_;rintro e w' ⟨rfl,rfl⟩;go_wp2_with fail;refine (dr (E 6) _).mono ?_;exact fg

theorem wG (E:Nat->Addr) (w:World) (h:Ers w E):Calls Tryz.prog 83 #[.iface 216 (.pointer (some (E 7)))] w fun e w'=>e=.returned (.int .i64 11)/\w'=w:=by
 obtain⟨HE,v0,v1,v2,v3,v4,v5,v6,v7,v8,v9⟩:=i_;clear h;go_enter Tryz.func83,Tryz.ntmps83;go_wp2_with fail;refine (ay HE.out 7 0 aj aj aj).mono ?_;rintro e w' ⟨rfl,rfl⟩;go_wp2_with fail;refine (ay HE.out 7 9 aj aj aj).mono ?_;rintro e w' ⟨rfl,rfl⟩;go_wp2_with fail;refine (ay HE.out 7 2 aj aj aj).mono ?_;rintro e w' ⟨rfl,rfl⟩;go_wp2_with fail;refine (ay HE.out 7 3 aj aj aj).mono ?_;rintro e w' ⟨rfl,rfl⟩;go_wp2_with fail;refine (ay HE.out 7 6 aj aj aj).mono ?_;rintro e w' ⟨rfl,rfl⟩;go_wp2_with fail;refine (ay HE.out 7 4 aj aj aj).mono ?_;rintro e w' ⟨rfl,rfl⟩;go_wp2_with fail;refine (ay HE.out 7 5 aj aj aj).mono ?_;rintro e w' ⟨rfl,rfl⟩;go_wp2_with fail;refine (dr (E 7) _).mono ?_;exact fg

theorem wF (E:Nat->Addr) (w:World) (h:Ers w E):Calls Tryz.prog 83 #[.iface 216 (.pointer (some (E 8)))] w fun e w'=>e=.returned (.int .i64 10)/\w'=w:=by
 obtain⟨HE,v0,v1,v2,v3,v4,v5,v6,v7,v8,v9⟩:=i_;clear h;go_enter Tryz.func83,Tryz.ntmps83;go_wp2_with fail;refine (ay HE.out 8 0 aj aj aj).mono ?_;rintro e w' ⟨rfl,rfl⟩;go_wp2_with fail;refine (ay HE.out 8 9 aj aj aj).mono ?_;rintro e w' ⟨rfl,rfl⟩;go_wp2_with fail;refine (ay HE.out 8 2 aj aj aj).mono ?_;rintro e w' ⟨rfl,rfl⟩;go_wp2_with fail;refine (ay HE.out 8 3 aj aj aj).mono ?_;rintro e w' ⟨rfl,rfl⟩;go_wp2_with fail;refine (ay HE.out 8 6 aj aj aj).mono ?_;rintro e w' ⟨rfl,rfl⟩;go_wp2_with fail;refine (ay HE.out 8 4 aj aj aj).mono ?_;rintro e w' ⟨rfl,rfl⟩;go_wp2_with fail;refine (ay HE.out 8 5 aj aj aj).mono ?_;rintro e w' ⟨rfl,rfl⟩;go_wp2_with fail;refine (ay HE.out 8 7 aj aj aj).mono ?_;rintro e w' ⟨rfl,rfl⟩;go_wp2_with fail;refine (dr (E 8) _).mono ?_;exact fg

theorem jM (E:Nat->Addr) (i:Nat) (w:World) (h:Ers w E) (hi:i<9):Calls Tryz.prog 83 #[.iface 216 (.pointer (some (E i)))] w fun e w'=>e=.returned (.int .i64 (fR i))/\w'=w:=by
 match i,hi with
 | 0,_=>exact wN E w h
 | 1,_=>exact wM E w h
 | 2,_=>exact wL E w h
 | 3,_=>exact wK E w h
 | 4,_=>exact wJ E w h
 | 5,_=>exact wI E w h
 | 6,_=>exact wH E w h
 | 7,_=>exact wG E w h
 | 8,_=>exact wF E w h

theorem fV (E:Nat->Addr) (i:Nat) (cc:Int) (hcc:cc=fR i) (w:World) (h:Ers w E) (hi:i<9):Calls Tryz.prog 33 #[.iface 216 (.pointer (some (E i)))] w fun e w'=>e=.returned (.agg #[.slice none 0 0,.slice none 0 0,.slice none 0 0,.slice none 0 0,.slice none 0 0,.int .i64 0,.string ⟨#[]⟩,.int .i64 cc])/\Below w.heap.size w w':=by
 have HE:=aa (h.below (al w (.cells #[.slice none 0 0,.slice none 0 0,.slice none 0 0,.slice none 0 0,.slice none 0 0,.int .i64 0,.string ⟨#[]⟩,.int .i64 0] 38)));clear h;go_enter Tryz.func33,Tryz.ntmps33;go_wp2_with fail;refine (jM E i _ HE.out hi).mono ?_;rintro e w' ⟨rfl,rfl⟩;rw[<-hcc];clear hcc;go_wp2;exact bodyPost_ret (v:=.agg #[.slice none 0 0,.slice none 0 0,.slice none 0 0,.slice none 0 0,.slice none 0 0,.int .i64 0,.string ⟨#[]⟩,.int .i64 cc]) (by simp[results,Tryz.results33,go_sem]) rfl ⟨rfl,al _ _⟩

end Rc
end Go.Proofs.YtbbdcjbfnjlndaaGreatDoor

namespace Go.Proofs.YtbbdcjbfnjlndaaGreatDoor
open Go.RowKit

end Go.Proofs.YtbbdcjbfnjlndaaGreatDoor

namespace Go.Proofs.YtbbdcjbfnjlndaaGreatDoor
open Go.RowKit
namespace Rc
open Mk

theorem Below.vq {B:Nat} {w w':World} (h:Below B w w'):Below B w w'.drew:=⟨h.os,h.tape,h.output,h.size,h.block⟩
end Rc
end Go.Proofs.YtbbdcjbfnjlndaaGreatDoor

namespace Go.Proofs.YtbbdcjbfnjlndaaGreatDoor
open Go.RowKit
namespace Gi

abbrev Rs:=Option Tmp->World->World->Prop
structure Rel (R:Rs) (sp:Tmp):Prop where
 refl:∀w,R none w w
 trans:∀{a b c},R none a b->R none b c->R none a c
 size:∀{a b},R none a b->a.heap.size<=b.heap.size
 drew:∀w,R none w w.drew
 sub:∀s {a b},R s a b->R none a b
 low:∀s {a b},¬s=none->¬s=some sp->R s a b->Below a.heap.size a b
abbrev Fact:=Value->World->Nat->Nat->Prop
abbrev Ex:=Tmp->Option Tmp
def Fact.bw (R:Rs) (ex:Ex) (d:Option Tmp) (φ:Fact):Prop:=∀s,¬s=none->¬s=d->(∀t e,d=some t->ex t=some e->¬s=some e)->∀v w w' l h,φ v w l h->R s w w'->φ v w' l h
theorem Fact.gz (R:Rs) (ex:Ex) (d:Option Tmp) (c:Value):Fact.bw R ex d (fun v _ _ _=>v=c):=fun _ _ _ _ _ _ _ _ _ h _=>h

def ak (ex:Ex) (d:Option Tmp) (a0:Act) (known:List (Tmp×Fact)) (a:Act) (w:World) (lo hi:Tmp->Nat) (t:Tmp):Prop:=
 match known.lookup t with
 | some φ=>(ex t=none\/ex t=d)->φ (a.tmps.getD t undef) w (lo t) (hi t)
 | none=>a.tmps.getD t undef=a0.tmps.getD t undef

def jI (known:List (Tmp×Fact)) (lo hi:Tmp->Nat) (ts:List Tmp):Prop:=∀t∈ts,∀t'∈ts,(known.lookup t).isSome=true->(known.lookup t').isSome=true->¬t=t'->hi t<=lo t'\/hi t'<=lo t
def Obl (R:Rs) (sp:Tmp) (ex:Ex) (P:Program) (ops:Array Oper) (Q:Exit->Act->World->Prop) (W:World) (a0:Act) (known:List (Tmp×Fact)) (o:Oper) (φ:Fact):Prop:=
 ∀(a:Act) (w:World) (K:Act->World->Prop) (lo hi:Tmp->Nat),a.tmps.size=a0.tmps.size->R none W w->(o.dst=some sp->Below W.heap.size W w)->(∀t∈o.looksAt ops,ak ex o.dst a0 known a w lo hi t)->jI known lo hi (o.looksAt ops)->
  (∀v w',R o.dst w w'->φ v w' w.heap.size w'.heap.size->K (a.put o.dst v) w')->if yA o (yielded ops a.tmps)=true then o.wp P a w K Q else K (a.put o.dst undef) w

theorem Obl.plain {R:Rs} {sp:Tmp} {ex:Ex} {P:Program} {ops:Array Oper} {Q:Exit->Act->World->Prop} {W:World} {a0:Act} {known:List (Tmp×Fact)} {o:Oper} {φ:Fact} (hg:o.guard=none)
  (h:∀(a:Act) (w:World) (K:Act->World->Prop) (lo hi:Tmp->Nat),a.tmps.size=a0.tmps.size->R none W w->(o.dst=some sp->Below W.heap.size W w)->(∀t∈da o,ak ex o.dst a0 known a w lo hi t)->jI known lo hi (da o)->(∀v w',R o.dst w w'->φ v w' w.heap.size w'.heap.size->K (a.put o.dst v) w')->o.wp P a w K Q):Obl R sp ex P ops Q W a0 known o φ:=by
 intro a w K lo hi h1 h2 h6 h3 h5 h4;have hw:yA o (yielded ops a.tmps)=true:=by simp[yA,hg]
 rw[if_pos hw];have hs:∀t∈da o,t∈o.looksAt ops:=fun t ht=>by unfold Oper.looksAt;exact List.mem_append_left _ ht
 exact h a w K lo hi h1 h2 h6 (fun t ht=>h3 t (hs t ht)) (fun t ht t' ht'=>h5 t (hs t ht) t' (hs t' ht')) h4

def aI (a0:Act) (known:List (Tmp×Fact)) (x:Tmp->Value):Act:=known.foldr (fun p b=>b.put (some p.1) (x p.1)) a0
def wC (known:List (Tmp×Fact)) (lo hi:Tmp->Nat):Prop:=∀p∈known,∀q∈known,¬p.1=q.1->hi p.1<=lo q.1\/hi q.1<=lo p.1
def Fin (R:Rs) (ex:Ex) (P:Program) (ops:Array Oper) (Q:Exit->Act->World->Prop) (W:World) (a0:Act) (back:Option Oper) (known:List (Tmp×Fact)):Prop:=
 ∀(x:Tmp->Value) (w:World) (lo hi:Tmp->Nat),R none W w->(∀p∈known,ex p.1=none->p.2 (x p.1) w (lo p.1) (hi p.1))->wC known lo hi->dE P ops Q back (aI a0 known x) w

def kn (d:Option Tmp) (φ:Fact) (known:List (Tmp×Fact)):List (Tmp×Fact):=match d with|some t=>(t,φ) ::known|none=>known

def Grow (R:Rs) (sp:Tmp) (ex:Ex) (P:Program) (ops:Array Oper) (Q:Exit->Act->World->Prop) (W:World) (a0:Act) (back:Option Oper):List Oper->List (Tmp×Fact)->Prop
 | [],known=>Fin R ex P ops Q W a0 back known
 | o ::rest,known=> ∃φ:Fact,φ.bw R ex o.dst/\Obl R sp ex P ops Q W a0 known o φ/\Grow R sp ex P ops Q W a0 back rest (kn o.dst φ known)
theorem Grow.step {R:Rs} {sp:Tmp} {ex:Ex} {P:Program} {ops:Array Oper} {Q:Exit->Act->World->Prop} {W:World} {a0:Act} {back:Option Oper} {o:Oper} {rest:List Oper} {known:List (Tmp×Fact)} {t:Tmp} (φ:Fact) (hd:o.dst=some t) (hφ:φ.bw R ex (some t)) (ho:Obl R sp ex P ops Q W a0 known o φ)
  (h:Grow R sp ex P ops Q W a0 back rest ((t,φ) ::known)):Grow R sp ex P ops Q W a0 back (o ::rest) known:=⟨φ,by rw[hd];exact hφ,ho,by rw[hd];exact h⟩
theorem Grow.ar {R:Rs} {sp:Tmp} {ex:Ex} {P:Program} {ops:Array Oper} {Q:Exit->Act->World->Prop} {W:World} {a0:Act} {back:Option Oper} {o:Oper} {rest:List Oper} {known:List (Tmp×Fact)} {t:Tmp} (c:Value) (hd:o.dst=some t) (ho:Obl R sp ex P ops Q W a0 known o (fun v _ _ _=>v=c))
  (h:Grow R sp ex P ops Q W a0 back rest ((t,fun v _ _ _=>v=c) ::known)):Grow R sp ex P ops Q W a0 back (o ::rest) known:=Grow.step _ hd (Fact.gz R ex _ c) ho h
theorem Grow.done {R:Rs} {sp:Tmp} {ex:Ex} {P:Program} {ops:Array Oper} {Q:Exit->Act->World->Prop} {W:World} {a0:Act} {back:Option Oper} {known:List (Tmp×Fact)} (h:Fin R ex P ops Q W a0 back known):Grow R sp ex P ops Q W a0 back [] known:=h

section
variable {R:Rs} {sp:Tmp} {ex:Ex} {P:Program} {ops:Array Oper} {Q:Exit->Act->World->Prop} {W:World} {a0:Act} {back:Option Oper}

def knAll:List (Tmp×Fact)->List Oper->List Fact->List (Tmp×Fact)
 | known,o ::l,φ ::φs=>knAll (kn o.dst φ known) l φs
 | known,_,_=>known
theorem bR (known:List (Tmp×Fact)) (φs:List Fact):knAll known [] φs=known:=by cases φs <;> rfl

theorem Grow.spec:∀(l:List Oper) (known:List (Tmp×Fact)),Grow R sp ex P ops Q W a0 back l known->∃φs:List Fact,φs.length=l.length/\
  (∀(i:Nat) (o:Oper) (φ:Fact),l[i]?=some o->φs[i]?=some φ->φ.bw R ex o.dst/\Obl R sp ex P ops Q W a0 (knAll known (l.take i) (φs.take i)) o φ)/\Fin R ex P ops Q W a0 back (knAll known l φs)
 | [],known,h=>⟨[],rfl,fun i o φ h=>by simp at h,by rw[bR];exact h⟩
 | o ::l,known,h=>by
  exact uS

theorem fO (d:Option Tmp) (φ:Fact) (known:List (Tmp×Fact)) (t:Tmp):(kn d φ known).lookup t=if d=some t then some φ else known.lookup t:=by
 exact uz

theorem b_:∀(l:List Oper) (φs:List Fact) (known:List (Tmp×Fact)) {t:Tmp} {φ:Fact},(knAll known l φs).lookup t=some φ->
  (∃(i:Nat) (o:Oper),l[i]?=some o/\o.dst=some t/\φs[i]?=some φ)\/known.lookup t=some φ
 | [],φs,known,t,φ,h=>by rw[bR] at h;exact .inr h
 | o ::l,[],known,t,φ,h=>.inr h
 | o ::l,ψ ::φs,known,t,φ,h=>by
  exact uL
theorem cd:∀(l:List Oper) (φs:List Fact) (known:List (Tmp×Fact)) {t:Tmp},(knAll known l φs).lookup t=none->
  known.lookup t=none/\∀(i:Nat) (o:Oper) (φ:Fact),l[i]?=some o->φs[i]?=some φ->o.dst≠some t
 | [],φs,known,t,h=>by rw[bR] at h;exact⟨h,fun i o φ h=>by simp at h⟩
 | o ::l,[],known,t,h=>⟨h,fun i o φ _ h=>by simp at h⟩
 | o ::l,ψ ::φs,known,t,h=>by
  exact uU
theorem cH:∀(l:List Oper) (φs:List Fact) (known:List (Tmp×Fact)) {p:Tmp×Fact},p∈knAll known l φs->
  (∃(i:Nat) (o:Oper),l[i]?=some o/\o.dst=some p.1/\φs[i]?=some p.2)\/p∈known
 | [],φs,known,p,h=>by rw[bR] at h;exact .inr h
 | o ::l,[],known,p,h=>.inr h
 | o ::l,ψ ::φs,known,p,h=>by
  exact uR

theorem cv (a0:Act) (x:Tmp->Value):∀known,(aI a0 known x).tmps.size=a0.tmps.size
 | []=>rfl
 | p ::l=>by unfold aI;rw[List.foldr_cons,size_put];exact cv a0 x l
theorem cw (a0:Act) (x:Tmp->Value):∀known,(aI a0 known x).defers=a0.defers
 | []=>rfl
 | p ::l=>by unfold aI;rw[List.foldr_cons,dQ];exact cw a0 x l
theorem fj (a0 a:Act) (known:List (Tmp×Fact)) (hk:∀p∈known,p.1<a0.tmps.size) (t:Tmp) (h:(∀p∈known,p.1≠t)->a.tmps.getD t undef=a0.tmps.getD t undef):
  (aI a0 known (fun t=>a.tmps.getD t undef)).tmps.getD t undef=a.tmps.getD t undef:=by
 exact uZ
structure At (R:Rs) (sp:Tmp) (ex:Ex) (front:List Oper) (φs:List Fact) (W:World) (a0:Act) (listed:Array Bool) (a:Act) (w:World) (lo hi:Tmp->Nat):Prop where
 size:a.tmps.size=a0.tmps.size
 defers:a.defers=a0.defers
 below:R none W w
 pre:(∀(i:Nat) (p:Oper),front[i]?=some p->p.dst=some sp->listed.getD i false=false)->Below W.heap.size W w
 known:∀(i:Nat) (o:Oper) (φ:Fact),front[i]?=some o->φs[i]?=some φ->∀t,o.dst=some t->listed.getD i false=true->(∀e,ex t=some e->∀(i':Nat) (p':Oper),front[i']?=some p'->p'.dst=some e->listed.getD i' false=false)->φ (a.tmps.getD t undef) w (lo t) (hi t)
 top:∀(i:Nat) (o:Oper),front[i]?=some o->∀t,o.dst=some t->listed.getD i false=true->hi t<=w.heap.size
 apart:∀(i:Nat) (o:Oper) (i':Nat) (o':Oper),front[i]?=some o->front[i']?=some o'->∀t t',o.dst=some t->o'.dst=some t'->listed.getD i false=true->listed.getD i' false=true->¬t=t'->hi t<=lo t'\/hi t'<=lo t
 other:∀t,(∀(i:Nat) (o:Oper),front[i]?=some o->o.dst=some t->listed.getD i false=false)->a.tmps.getD t undef=a0.tmps.getD t undef

theorem At.step {front:List Oper} {φs:List Fact} {listed:Array Bool} {a:Act} {w w':World} {lo hi:Tmp->Nat} {j:Nat} {o:Oper} {φ:Fact} {v:Value} (hR:Rel R sp) (hds:¬o.dst=none) (h:At R sp ex front φs W a0 listed a w lo hi)
  (hn:(front.filterMap (·.dst)).Nodup) (hin:∀o∈front,∀t,o.dst=some t->t<a0.tmps.size) (hmono:∀(i:Nat) (o:Oper) (φ:Fact),front[i]?=some o->φs[i]?=some φ->φ.bw R ex o.dst)
  (ho:front[j]?=some o) (hφ:φs[j]?=some φ) (hj:j<listed.size) (hb:R o.dst w w') (hv:φ v w' w.heap.size w'.heap.size):∃lo hi,At R sp ex front φs W a0 (listed.setIfInBounds j true) (a.put o.dst v) w' lo hi:=by
 have old:∀(i:Nat) (p:Oper) t,front[i]?=some p->p.dst=some t->¬j=i->(listed.setIfInBounds j true).getD i false=true->¬o.dst=some t/\listed.getD i false=true:=fun i p t hp ht e hl=>
  ⟨fun hd=>e (dC front hn ho hp hd ht),by simpa[xv,xJ,e] using hl⟩
 refine⟨fun t=>if o.dst=some t then w.heap.size else lo t,fun t=>if o.dst=some t then w'.heap.size else hi t,(size_put _ _ _).trans h.size,(dQ _ _ _).trans h.defers,hR.trans h.below (hR.sub _ hb),fun hx=>?_,?_,?_,?_,?_⟩
 ·have hns:¬o.dst=some sp:=fun e=>by
   have:=hx j o ho e;simp[xv,hj] at this
  have h1:=h.pre (fun i p hp hd=>by
   have h2:=hx i p hp hd
   have e:¬j=i:=fun e=>by subst e;exact hns (by rw[xh (ho.symm.trans hp)];exact hd)
   simpa[xv,xJ,e] using h2)
  exact h1.trans ((hR.low _ hds hns hb).mono h1.size)
 ·intro i p ψ hp hψ t ht hl hx;by_cases e:j=i
  ·subst e;obtain rfl:o=p:=xh (ho.symm.trans hp);obtain rfl:φ=ψ:=xh (hφ.symm.trans hψ);simp only[if_pos ht];exact rj
  ·obtain⟨hne,hl'⟩:=old i p t hp ht e hl;simp only[if_neg hne];have hxo:∀e,ex t=some e->∀(i':Nat) (p':Oper),front[i']?=some p'->p'.dst=some e->¬j=i'/\listed.getD i' false=false:=fun e9 he i' p' hp' hd'=>by
    have h9:=hx e9 he i' p' hp' hd';by_cases ej:j=i'
    ·subst ej;simp[xv,hj] at h9
    ·exact⟨ej,by simpa[xv,xJ,ej] using h9⟩
   have h1:=hmono i p ψ hp hψ o.dst hds (fun e9=>hne (e9.trans ht)) (fun t9 e9 h8 h9 hd=>by
    obtain rfl:t=t9:=xh (ht.symm.trans h8)
    exact (hxo e9 h9 j o ho hd).1 rfl) _ _ _ _ _ (h.known i p ψ hp hψ t ht hl' (fun e9 he i' p' hp' hd'=>(hxo e9 he i' p' hp' hd').2)) hb
   exact qJ
 ·intro i p hp t ht hl;by_cases e:j=i
  ·subst e;obtain rfl:o=p:=xh (ho.symm.trans hp);simp only[if_pos ht];exact xk _
  ·obtain⟨hne,hl'⟩:=old i p t hp ht e hl;simp only[if_neg hne];exact xp (h.top i p hp t ht hl') (hR.size (hR.sub _ hb))
 ·intro i p i' p' hp hp' t t' ht ht' hl hl' hne;by_cases e:j=i
  ·subst e;obtain rfl:o=p:=xh (ho.symm.trans hp);by_cases e':j=i'
   ·subst e';obtain rfl:o=p':=xh (ho.symm.trans hp');exact absurd (xh (ht.symm.trans ht')) hne
   ·obtain⟨hne',hl''⟩:=old i' p' t' hp' ht' e' hl';simp only[if_pos ht,if_neg hne'];exact .inr (h.top i' p' hp' t' ht' hl'')
  ·obtain⟨hne1,hl1⟩:=old i p t hp ht e hl;by_cases e':j=i'
   ·subst e';obtain rfl:o=p':=xh (ho.symm.trans hp');simp only[if_pos ht',if_neg hne1];exact .inl (h.top i p hp t ht hl1)
   ·obtain⟨hne',hl''⟩:=old i' p' t' hp' ht' e' hl';simp only[if_neg hne1,if_neg hne'];exact h.apart i p i' p' hp hp' t t' ht ht' hl1 hl'' hne
 ·exact uY

theorem Fin.last {front:List Oper} {φs:List Fact} {listed:Array Bool} {a:Act} {w:World} {lo hi:Tmp->Nat} (hf:Fin R ex P ops Q W a0 back (knAll [] front φs)) (hlen:φs.length=front.length) (hin:∀o∈front,∀t,o.dst=some t->t<a0.tmps.size)
  (h:At R sp ex front φs W a0 listed a w lo hi) (hall:∀i,i<front.length->listed.getD i false=true):dE P ops Q back a w:=by
 have h1:=hf (fun t=>a.tmps.getD t undef) w lo hi h.below (fun p hp hpe=>by
  rcases cH front φs [] hp with ⟨i,o,h1,h2,h3⟩|h1
  ·exact h.known i o p.2 h1 h3 p.1 h2 (hall i (xe.1 h1).1) (fun e he=>by rw[hpe] at he;cases he)
  ·simp at h1) (fun p hp q hq hne=>by
  rcases cH front φs [] hp with ⟨i,o,h1,h2,h3⟩|h1
  ·rcases cH front φs [] hq with ⟨i',o',g1,g2,g3⟩|g1
   ·exact h.apart i o i' o' h1 g1 p.1 q.1 h2 g2 (hall i (xe.1 h1).1) (hall i' (xe.1 g1).1) hne
   ·simp at g1
  ·simp at h1)
 exact ve

theorem ck {front:List Oper} {φs:List Fact} (hR:Rel R sp) (hds:∀o∈front,¬o.dst=none) (hops:ops=(front++back.toList).toArray) (hB:growB a0.tmps.size front back=true) (hlen:φs.length=front.length)
  (hs:∀(i:Nat) (o:Oper) (φ:Fact),front[i]?=some o->φs[i]?=some φ->φ.bw R ex o.dst/\Obl R sp ex P ops Q W a0 (knAll [] (front.take i) (φs.take i)) o φ) (hf:Fin R ex P ops Q W a0 back (knAll [] front φs)):
  ∀(fuel:Nat) (listed:Array Bool) (a:Act) (w:World),listed.size=ops.size->listed.toList.count false<=fuel->(∀o,back=some o->listed.getD front.length false=false)->(∃lo hi,At R sp ex front φs W a0 listed a w lo hi)->wpAny P .any ops Q fuel listed a w:=by
 obtain⟨hn,hin,hdep,hlt,hback⟩:=cJ hB;rw[<-hops] at hdep hlt;have hsz:ops.size=front.length+back.toList.length:=by rw[hops];simp
 have hend:∀(listed:Array Bool) (a:Act) (w:World),listed.size=ops.size->(∀i,i<ops.size->listed.getD i false=true)->(∀o,back=some o->listed.getD front.length false=false)->(∃lo hi,At R sp ex front φs W a0 listed a w lo hi)->Q .normal a w:=by
  rintro listed a w hz hall hb ⟨lo,hi,h⟩;have h1:=hf.last hlen hin h (fun i hi=>hall i af);exact nO
 intro fuel;induction fuel with
 | zero=>
  intro listed a w hz hc hb h;have hall:∀i,i<ops.size->listed.getD i false=true:=fun i hi=>fk af i af;refine⟨?_,hend listed a w hz hall hb h⟩
  cases hr:xY .any ops listed with
  | nil=>rfl
  | cons j js=>
   have hm:j∈xY .any ops listed:=by rw[hr];simp
   obtain⟨h1,o,ho,-⟩:=mem_ready.1 hm;have hj:=(xA.1 ho).1;rw[<-cg af,hall j hj] at h1
   cases h1
 | succ fuel ih=>
  intro listed a w hz hc hb hlh;refine⟨fun hr=>hend listed a w hz (dk hz hlt hr) hb hlh,fun j hj=>?_⟩;obtain⟨lo,hi,h⟩:=hlh;obtain⟨hun,o,ho,hall⟩:=mem_ready.1 hj;have hjs:j<ops.size:=(xA.1 ho).1;have hcs:=count_set (listed:=listed) (i:=j) af hun
  by_cases hjf:j<front.length
  ·have hof:front[j]?=some o:=by rw[hops] at ho;simpa[xP hjf] using ho
   have hφ:φs[j]?=some (φs[j]'(by omega)):=xm _;obtain⟨hm,hob⟩:=hs j o _ hof hφ
   have hfacts:∀t∈o.looksAt ops,ak ex o.dst a0 (knAll [] (front.take j) (φs.take j)) a w lo hi t:=by
    intro t ht;unfold ak
    cases hk:(knAll [] (front.take j) (φs.take j)).lookup t with
    | some φ=>
     rcases b_ _ _ _ hk with ⟨i,p,h1,h2,h3⟩|h1
     ·have hij:i<j:=by have:=(xe.1 h1).1;simp at this;omega
      rw[xF,if_pos hij] at h1 h3;obtain⟨-,e,he,hon,hbi⟩:=hdep j o hof t ht i p h1 h2;have hl:=hall e he hbi;rw[hon] at hl;intro hex;refine h.known i p φ h1 h3 t h2 hl (fun e9 he i' p' hp' hd'=>?_)
      rcases hex with h9|h9
      ·rw[h9] at he;cases he
      ·have:i'=j:=dC front hn hp' hof hd' (h9.symm.trans he);subst this;rw[cg af];exact hun
     ·simp at h1
    | none=>
     refine h.other t (fun i p hp hd=>?_)
     exfalso
     obtain⟨hij,-⟩:=hdep j o hof t ht i p hp hd;have hi:=(xe.1 hp).1;exact (cd _ _ _ hk).2 i p (φs[i]'(by omega)) nu nA hd
   have hfind:∀t∈o.looksAt ops,((knAll [] (front.take j) (φs.take j)).lookup t).isSome=true->∃(i:Nat) (p:Oper),front[i]?=some p/\p.dst=some t/\listed.getD i false=true:=by
    intro t ht hk;obtain⟨φ,hφ'⟩:=Option.isSome_iff_exists.1 hk
    rcases b_ _ _ _ hφ' with ⟨i,p,h1,h2,h3⟩|h1
    ·have hij:i<j:=by have:=(xe.1 h1).1;simp at this;omega
     rw[xF,if_pos hij] at h1;obtain⟨-,e,he,hon,hbi⟩:=hdep j o hof t ht i p h1 h2;have hl:=hall e he hbi;rw[hon] at hl;exact⟨i,p,h1,h2,hl⟩
    ·simp at h1
   have hap:jI (knAll [] (front.take j) (φs.take j)) lo hi (o.looksAt ops):=by
    intro t ht t' ht' hk hk' hne;obtain⟨i,p,h1,h2,h3⟩:=hfind t ht hk;obtain⟨i',p',g1,g2,g3⟩:=hfind t' ht' hk';exact h.apart i p i' p' h1 g1 t t' h2 g2 h3 g3 hne
   have hpre:o.dst=some sp->Below W.heap.size W w:=fun hd=>h.pre (fun i p hp hd'=>by
    have:i=j:=dC front hn hp hof hd' hd;subst this;rw[cg af]
    exact hun)
   have h1:=hob a w (wpAny P .any ops Q fuel (listed.setIfInBounds j true)) lo hi h.size h.below hpre hfacts hap (fun v w' hbw hv=>by
    refine ih _ _ _ (by simpa using hz) af (fun o' ho'=>?_) (h.step hR (hds o (xD hof)) hn hin (fun i o φ h1 h2=>(hs i o φ h1 h2).1) hof hφ af hbw hv);have h2:=hb o' ho'
    have e:¬j=front.length:=af
    simpa[xv,xJ,e] using h2)
   unfold wpOp;rw[ho]
   simp only
   split
   ·rename_i hw;rw[if_pos hw] at h1;exact .inl h1
   ·rename_i hw;rw[if_neg hw] at h1;exact h1
  ·cases hk:back with
   | none=>rw[hk] at hsz;simp at hsz;omega
   | some b=>
    have hjn:j=front.length:=by rw[hk] at hsz;simp at hsz;omega
    subst hjn
    have hob:o=b:=by
     rw[hops,hk] at ho
     simp at ho
     exact ho.symm
    subst hob
    have hfl:∀i,i<front.length->listed.getD i false=true:=fun i hi=>by
     obtain⟨e,he,hon,hbi⟩:=hback o hk i hi;have:=hall e he hbi
     rwa [hon] at this
    have h1:=hf.last hlen hin h hfl;rw[hk] at h1
    have h2:=h1 (wpAny P .any ops Q fuel (listed.setIfInBounds front.length true)) (fun a' w' hq=>by
     have hr:xY .any ops (listed.setIfInBounds front.length true)=[]:=by
      cases hr:xY .any ops (listed.setIfInBounds front.length true) with
      | nil=>rfl
      | cons i is=>
       have hm:i∈xY .any ops (listed.setIfInBounds front.length true):=by rw[hr];simp
       obtain⟨h3,o',ho',-⟩:=mem_ready.1 hm;have hi:=(xA.1 ho').1
       exfalso
       by_cases e:front.length=i
       ·subst e
        simp[xv,show front.length<listed.size from by omega] at h3
       ·have h4:=hfl i nt;rw[cg af] at h4
        simp[xv,e] at h3 h4
        rw[h3] at h4
        cases h4
     cases fuel with
     | zero=>exact⟨hr,hq⟩
     | succ fuel=>exact⟨fun _=>hq,fun i hi=>by rw[hr] at hi;cases hi⟩)
    unfold wpOp;rw[ho]
    simp only
    split
    ·rename_i hw;rw[if_pos hw] at h2;exact .inl h2
    ·rename_i hw;rw[if_neg hw] at h2;exact h2
end

theorem bY {R:Rs} {sp:Tmp} {ex:Ex} (hR:Rel R sp) {P:Program} {id:Nat} {Q:Exit->Act->World->Prop} {a0:Act} {W:World} {l:List Oper} {front:List Oper} {back:Option Oper} (hm:P.follows .mixedOrders=true) (hl:l=front++back.toList) (hds:front.all (fun o=>o.dst.isSome)=true) (hB:growB a0.tmps.size front back=true)
  (h:Grow R sp ex P l.toArray Q W a0 back front []):(Code.region id l.toArray true).wp P Q a0 W:=by
 obtain⟨φs,hlen,hs,hf⟩:=Grow.spec _ _ h;refine wp_region_any hm (ck hR (fun o ho e=>by have:=List.all_eq_true.1 hds o ho;rw[e] at this;cases this) (by rw[hl]) hB hlen hs hf _ _ _ _ aT ?_ (fun o ho=>?_) ⟨fun _=>0,fun _=>0,rfl,rfl,hR.drew _,fun _=>(xj _ _).drew,fun i o φ h1 h2 t ht hx _=>?_,fun i o h1 t ht hx=>?_,fun i o i' o' h1 h2 t t' ht ht' hx=>?_,fun t _=>rfl⟩)
 ·exact nK
 ·exact bm _ _
 ·rw[bm] at hx;cases hx
 ·rw[bm] at hx;cases hx
 ·rw[bm] at hx;cases hx
theorem aB {R:Rs} {sp:Tmp} {ex:Ex} (hR:Rel R sp) {P:Program} {id:Nat} {Q:Exit->Act->World->Prop} {a0:Act} {W:World} {l:List Oper} {front:List Oper} {last:Oper} (hm:P.follows .mixedOrders=true) (hf:l.dropLast=front) (hb:l.getLast?=some last) (hds:front.all (fun o=>o.dst.isSome)=true) (hB:growB a0.tmps.size front (some last)=true)
  (h:Grow R sp ex P l.toArray Q W a0 (some last) front []):(Code.region id l.toArray true).wp P Q a0 W:=by
 refine bY hR hm ?_ hds hB h;exact nJ

def Bel (w w':World):Prop:=Below w.heap.size w w'
theorem Bel.rel (sp:Tmp):Rel (fun _=>Bel) sp:=⟨fun _=>xj _ _,fun h k=>Below.trans h (Below.mono k (Below.size h)),fun h=>Below.size h,fun _=>(xj _ _).drew,fun _ _ _ h=>h,fun _ _ _ _ _ h=>h⟩
end Gi
end Go.Proofs.YtbbdcjbfnjlndaaGreatDoor

namespace Go.Proofs.YtbbdcjbfnjlndaaGreatDoor
open Go.RowKit
namespace Rc
open Mk

structure Sm (c:Cl):Prop where
 n:c.ns.length<=8
 ns:∀(j:Nat) x,c.ns[j]?=some x->x.zs.length<=8001
 k:c.ks.length<=8
 v:c.vs.length<=8
 vs:∀(j:Nat) x,c.vs[j]?=some x->x.zs.length<=8001
 x:c.xs.length<=8
 p:c.ps.length<=8
 ps:∀(j:Nat) x,c.ps[j]?=some x->x.zs.length<=8001
theorem a8.sm {c:Cl} (h:a8 c):Sm c:=by
 obtain⟨_,⟨⟨h1,h2,_⟩,⟨h3,_⟩,⟨h4,h5,_⟩,⟨h6,_⟩,⟨h7,h8,_⟩⟩,_⟩:=h;refine⟨by omega,fun j x hj=>?_,by omega,by omega,fun j x hj=>?_,by omega,by omega,fun j x hj=>?_⟩
 ·have:=(h2 j x hj).2.2.2.2.2.1;omega
 ·have:=(dD (h5 j x hj).2.2.2.2.2.2).1;omega
 ·have:=(h8 j x hj).2.2.2.1.1;omega

def cY (r:List Fv):List Value:=r.map fun f=>f.val.getD undef
def en (r:List Fv):Prop:=∀(i:Nat) f,r[i]?=some f->∃v,f.val=some v
theorem Fv.Is.val {w:World} {f:Fv} {v u:Value} (h:f.Is w v) (hu:f.val=some u):v=u/\f.Fr w 0 (fun _=>False) v:=by
 cases f with
 | s t=>cases hu;exact⟨h.1,h⟩
 | i n=>cases hu;exact⟨h,h⟩
 | b x=>cases hu;exact⟨h,h⟩
 | l zs=>cases hu
theorem Fv.Fr.any {w w':World} {f:Fv} {v u:Value} {h h':Nat} {S S':Nat->Prop} (k:f.Fr w h S v) (hu:f.val=some u):f.Fr w' h' S' v:=by
 cases f with
 | l zs=>cases hu
 | _=>exact k
theorem so {r:List Fv} (hf:en r) {i:Nat} {f:Fv} (hi:r[i]?=some f):∃u,f.val=some u/\(cY r)[i]?=some u:=by
 obtain⟨u,hu⟩:=hf i f hi;exact⟨u,hu,by rw[cY,xq,hi];simp[hu]⟩
theorem oY {r:List Fv} (hf:en r) {i:Nat} {u:Value} (hi:(cY r)[i]?=some u):∃f,r[i]?=some f/\f.val=some u:=by
 rw[cY,xq] at hi;obtain⟨f,h1,h2⟩:=xu.1 hi;obtain⟨v,hv⟩:=hf i f h1;rw[hv] at h2;exact⟨f,h1,by rw[hv];simpa using h2⟩
section
variable {w:World} {a:Option Addr} {len cap m:Nat} {rs:List (List Fv)}
theorem fx (hm:∀(j:Nat) r,rs[j]?=some r->r.length=m):∀(j:Nat) vs,(rs.map cY)[j]?=some vs->vs.length=m:=by
 intro j vs hj;rw[xq] at hj;obtain⟨r,h1,rfl⟩:=xu.1 hj;rw[cY,xR];exact hm j r h1
theorem iO {b o:Nat} (h:aF w (some ⟨b,o,none⟩) len cap m rs) (hm:∀(j:Nat) r,rs[j]?=some r->r.length=m/\en r):∀(k:Nat) u,(rs.map cY).flatten[k]?=some u->w.cell? ((⟨b,o,none⟩:Addr).add k)=some u:=by
 intro k u hk;obtain⟨j,i,vs,h1,h2,rfl⟩:=fw (fx fun j r hj=>(hm j r hj).1) hk;rw[xq] at h1;obtain⟨r,h3,rfl⟩:=xu.1 h1;obtain⟨f,h4,h5⟩:=oY (hm j r h3).2 h2;rcases h.2.2.2 with rfl|⟨b',o',e,_,hc⟩
 ·simp at h3
 ·cases e;obtain⟨v,h6,h7⟩:=hc j r h3 i f h4;rw[xB,<-Nat.add_assoc,h6,(h7.val h5).1]
theorem eA (h:aF w a len cap m rs) (hm:∀(j:Nat) r,rs[j]?=some r->r.length=m/\en r) (w':World) (S:Nat->Prop):aP w' S m rs (rs.map cY) (fun _ _=>0):=by
 refine⟨by simp,fx fun j r hj=>(hm j r hj).1,fun j r hj=>(hm j r hj).1,fun j r vs hj hv i f hi=>?_,fun j r i zs j' r' i' zs' hj hi=>?_⟩
 ·rw[xq,hj] at hv;cases hv;obtain⟨u,h1,h2⟩:=so (hm j r hj).2 hi;rcases h.2.2.2 with rfl|⟨b',o',e,_,hc⟩
  ·simp at hj
  ·obtain⟨v,h6,h7⟩:=hc j r hj i f hi;obtain⟨rfl,h8⟩:=h7.val h1;exact⟨v,h2,h8.any h1⟩
 ·obtain⟨v,hv⟩:=(hm j r hj).2 i _ hi;cases hv
end
theorem m_ {o:Oper} {a:Act} {w:World} {K:Act->World->Prop} {Q:Exit->Act->World->Prop} (s x:Operand) (t T:TypeId) (ho:o.op=.call { callee:=.builtin .append,args:=#[s,x],argTypes:=#[t,t] }) (i:TypeInfo) (z:Value) (m bytes:Nat) (ht:Tryz.prog.underlying t=some (.slice T)) (hi:Tryz.prog.info? T=some i) (hz:i.zero=some z)
  (hsize:i.size=m) (hby:i.bytes=bytes) (hzs:z.cells.size=m) (hsz:0<m) (hT:¬T=9) (base:Nat) (v0:Value) (hs:a.eval s=v0) (hown:w.ownsRow base T m v0 0 []) (hbw:base<=w.heap.size) {ad:Addr} {len cap:Nat} {rs:List (List Fv)} (hx:a.eval x=.slice (some ad) len cap) (hr:aF w (some ad) len cap m rs) (hm:∀(j:Nat) r,rs[j]?=some r->r.length=m/\en r) (hl:len<=8) (hb8:bytes<=1000)
  (h:∀a' c' w',az w' a' len c' m T rs (fun k=>base<=k/\k<w'.heap.size)->w.grownBy w' v0.ownBlock->K (a.put o.dst (.slice a' len c')) w'):o.wp Tryz.prog a w K Q:=by
 have hlen:((rs.map cY).flatten).length=len*m:=by rw[dj (fx fun j r hj=>(hm j r hj).1),xR,hr.1]
 have hne:rs=[]\/∃b o,ad=(⟨b,o,none⟩:Addr):=by
  rcases hr.2.2.2 with h1|⟨b,o,e,_⟩
  ·exact .inl h1
  ·cases e;exact .inr ⟨b,o,rfl⟩
 have hnews:∀(j:Nat) u,((rs.map cY).flatten)[j]?=some u->w.cell? (ad.add j)=some u:=by
  rcases hne with rfl|⟨b,o,rfl⟩
  ·intro j u hu;simp at hu
  ·exact iO hr hm
 refine wp_append_own w s x t ho base T i z m bytes ht hi hz hsize hby hzs hsz v0 0 [] hs hown ad len cap (rs.map cY).flatten hx hlen hnews (eA hr hm w (fun _=>True)).one bJ (by have:(0+len)*bytes<=8*1000:=Nat.mul_le_mul af hb8;omega) hbw ?_;intro v' w' ho' hg' _;rw[xL,List.nil_append] at ho';obtain⟨a',c',rfl,hR⟩:=(eA hr hm w' (fun k=>base<=k/\k<w'.heap.size)).own ho' hr.1.symm hT (fun g hg=>ho'.lt g hg);rw[hr.1] at hR ⊢;exact h a' c' w' hR hg'
theorem nY (x:Kd):(kdF x).length=4/\en (kdF x):=⟨rfl,fun i f h=>by
 rcases i with _|_|_|_|i <;> first|(cases h;exact⟨_,rfl⟩)|(simp[kdF] at h)⟩
theorem mZ (x:Xd):(xdF x).length=5/\en (xdF x):=⟨rfl,fun i f h=>by
 rcases i with _|_|_|_|_|i <;> first|(cases h;exact⟨_,rfl⟩)|(simp[xdF] at h)⟩
theorem fp {α:Type} {F:α->List Fv} {m:Nat} (hF:∀x,(F x).length=m/\en (F x)) (xs:List α):∀(j:Nat) r,(xs.map F)[j]?=some r->r.length=m/\en r:=by
 intro j r hj;rw[xq] at hj;obtain⟨x,_,rfl⟩:=xu.1 hj;exact hF x
def gy (B:Nat) (len m:Nat) (T:TypeId) (rs:List (List Fv)):Gi.Fact:=fun v w l h=> ∃a c,v=.slice a len c/\az w a len c m T rs (fun k=>l<=k/\k<h)/\B<=l
theorem gy.mono (ex:Gi.Ex) (s:Option Tmp) (B len m:Nat) (T:TypeId) (rs:List (List Fv)):Gi.Fact.bw (fun _=>Gi.Bel) ex s (gy B len m T rs):=by
 rintro s' _ _ _ v w w' l h ⟨a,c,h1,h2,h3⟩ hb;exact⟨a,c,h1,h2.below hb,h3⟩
def ClF (B:Nat) (c:Cl):Gi.Fact:=fun v w _ _=> ∃d:Ad,v=.agg #[.slice d.a1 d.l1 d.c1,.slice d.a2 d.l2 d.c2,.slice d.a3 d.l3 d.c3,.slice d.a4 d.l4 d.c4,.slice d.a5 d.l5 d.c5,.int .i64 c.now]/\bP w d c.raw (fun k=>B<=k)
theorem ClF.mono (ex:Gi.Ex) (s:Option Tmp) (B:Nat) (c:Cl):Gi.Fact.bw (fun _=>Gi.Bel) ex s (ClF B c):=by
 rintro s' _ _ _ v w w' l h ⟨d,h1,h2⟩ hb;exact⟨d,h1,h2.below hb⟩

theorem oN (d:Ad) (c:Cl) (w:World) (hr:aK w d c.raw) (hs:Sm c):
  Calls Tryz.prog 89 #[.agg #[.slice d.a1 d.l1 d.c1,.slice d.a2 d.l2 d.c2,.slice d.a3 d.l3 d.c3,.slice d.a4 d.l4 d.c4,.slice d.a5 d.l5 d.c5,.int .i64 c.now]] w fun e w'=> ∃d',e=.returned (.agg #[.slice d'.a1 d'.l1 d'.c1,.slice d'.a2 d'.l2 d'.c2,.slice d'.a3 d'.l3 d'.c3,.slice d'.a4 d'.l4 d'.c4,.slice d'.a5 d'.l5 d'.c5,.int .i64 c.now])/\bP w' d' c.raw (fun k=>w.heap.size<=k)/\Below w.heap.size w w':=by
 have HR:=aa hr;have HS:=aa hs;have hl1:c.ns.length=d.l1:=by simpa using (show (c.ns.map ndF).length=d.l1 from hr.n.1)
 have hl2:c.ks.length=d.l2:=by simpa using (show (c.ks.map kdF).length=d.l2 from hr.k.1)
 have hl3:c.vs.length=d.l3:=by simpa using (show (c.vs.map vdF).length=d.l3 from hr.v.1)
 have hl4:c.xs.length=d.l4:=by simpa using (show (c.xs.map xdF).length=d.l4 from hr.x.1)
 have hl5:c.ps.length=d.l5:=by simpa using (show (c.ps.map pdF).length=d.l5 from hr.p.1)
 clear hr hs;obtain⟨i2,hi2⟩:=xu.1 mF;obtain⟨i4,hi4⟩:=xu.1 mB;have HI2:=aa hi2;have HI4:=aa hi4;clear hi2 hi4;obtain⟨W,hW0⟩:∃W,W=(w.alloc (.cells (clv d c.now) 36)).alloc (.cells (clo6 none 0 0 none 0 0 none 0 0 none 0 0 none 0 0 0) 36):=⟨_,rfl⟩;have HB:Hid (Below w.heap.size w W):=by rw[hW0];exact aM _ _ _
 have Bk:Hid (W.heap[w.heap.size]?=some (.cells (clv d c.now) 36 (0,0))):=by rw[hW0];exact cL _ _ _
 obtain⟨Br,hWs⟩:=tK;go_enter Tryz.func89,Tryz.ntmps89;go_wp2_with fail;rw[<-hW0];clear hW0;rename_i K0 hK0;refine Gi.aB (ex:=fun _=>none) (Gi.Bel.rel 0) an rfl rfl an an ?_;refine' Gi.Grow.ar _ rfl ?_ ?_;rotate_left 1
 ·exact fL
 refine' Gi.Grow.ar _ rfl ?_ ?_;rotate_left 1
 ·refine Gi.Obl.plain rfl ?_;intro ac wg K lo hi hsz hW hpr hf hap hK;clear hsz hap hpr;have e3:=hf 3 aj;simp[Gi.ak,xg] at e3;exact fJ
 refine Gi.Grow.step (gy W.heap.size d.l1 7 103 (c.ns.map ndF)) rfl (gy.mono _ _ _ _ _ _ _) ?_ ?_
 ·refine Gi.Obl.plain rfl ?_;intro ac wg K lo hi hsz hW hpr hf hap hK;clear hsz hpr hap;have e4:=hf 4 aj;simp[Gi.ak,xg] at e4;clear hf;go_simp;refine (jr d.a1 d.l1 d.c1 c.ns _ (HR.n.below (HB.trans (Below.mono hW HB.size))) (by have:=HS.n;omega) HS.ns).mono ?_;exact qi
 refine' Gi.Grow.ar _ rfl ?_ ?_;rotate_left 1
 ·exact fL
 refine' Gi.Grow.ar _ rfl ?_ ?_;rotate_left 1
 ·refine Gi.Obl.plain rfl ?_;intro ac wg K lo hi hsz hW hpr hf hap hK;clear hsz hap hpr;have e6:=hf 6 aj;simp[Gi.ak,xg] at e6;exact fJ
 refine Gi.Grow.step (gy W.heap.size d.l2 4 111 (c.ks.map kdF)) rfl (gy.mono _ _ _ _ _ _ _) ?_ ?_
 ·refine Gi.Obl.plain rfl ?_;intro ac wg K lo hi hsz hW hpr hf hap hK;clear hsz hpr hap;have e7:=hf 7 aj;simp[Gi.ak,xg] at e7;clear hf;cases hq:d.a2 with
  | none=>
   have h0:c.ks=[]:=by
    rcases HR.k.2.2.2 with h|⟨b,o,e,_⟩
    ·have h9:c.ks.map kdF=[]:=h
     simpa using h9
    ·rw[hq] at e;cases e
   have hl0:d.l2=0:=by rw[<-hl2,h0];rfl
   rw[hq,hl0] at e7;go_simp;refine hK _ _ (xj _ _) ⟨none,0,by rw[hl0],?_,Below.size hW⟩;rw[hl0,h0];exact az.nil _ _ _ _ _ af
  | some ad=>
   rw[hq] at e7;have hin:=HR.k.below (HB.trans (Below.mono hW HB.size));have hin2:aF wg d.a2 d.l2 d.c2 4 (c.ks.map kdF):=hin;rw[hq] at hin2
   have hz:i2.zero=some (.agg #[.string ⟨#[]⟩,.bool false,.bool false,.string ⟨#[]⟩])/\i2.size=4/\i2.bytes=40:=by have:=HI2.2;simp only[y9] at this;exact this
   refine m_ _ (.tmp 7) 31 111 rfl i2 (.agg #[.string ⟨#[]⟩,.bool false,.bool false,.string ⟨#[]⟩]) 4 40 Tryz.underlying31 HI2.1 hz.1 hz.2.1 hz.2.2 rfl aj aj wg.heap.size (.slice none 0 0) rfl (yq _ _ _ _) (xk _) (by simpa[Act.eval] using e7) hin2 (fp nY _) (by have:=HS.k;omega) aj ?_;intro a' c' w' hR hg;exact hK _ _ ((xj _ _).grown hg (xk _) (fun k hk=>by cases hk)) ⟨a',c',rfl,hR,Below.size hW⟩
 refine' Gi.Grow.ar _ rfl ?_ ?_;rotate_left 1
 ·exact fL
 refine' Gi.Grow.ar _ rfl ?_ ?_;rotate_left 1
 ·refine Gi.Obl.plain rfl ?_;intro ac wg K lo hi hsz hW hpr hf hap hK;clear hsz hap hpr;have e9:=hf 9 aj;simp[Gi.ak,xg] at e9;exact fJ
 refine Gi.Grow.step (gy W.heap.size d.l3 8 62 (c.vs.map vdF)) rfl (gy.mono _ _ _ _ _ _ _) ?_ ?_
 ·refine Gi.Obl.plain rfl ?_;intro ac wg K lo hi hsz hW hpr hf hap hK;clear hsz hpr hap;have e10:=hf 10 aj;simp[Gi.ak,xg] at e10;clear hf;go_simp;refine (jo d.a3 d.l3 d.c3 c.vs _ (HR.v.below (HB.trans (Below.mono hW HB.size))) (by have:=HS.v;omega) HS.vs).mono ?_;exact qi
 refine' Gi.Grow.ar _ rfl ?_ ?_;rotate_left 1
 ·exact fL
 refine' Gi.Grow.ar _ rfl ?_ ?_;rotate_left 1
 ·refine Gi.Obl.plain rfl ?_;intro ac wg K lo hi hsz hW hpr hf hap hK;clear hsz hap hpr;have e12:=hf 12 aj;simp[Gi.ak,xg] at e12;exact fJ
 refine Gi.Grow.step (gy W.heap.size d.l4 5 114 (c.xs.map xdF)) rfl (gy.mono _ _ _ _ _ _ _) ?_ ?_
 ·refine Gi.Obl.plain rfl ?_;intro ac wg K lo hi hsz hW hpr hf hap hK;clear hsz hpr hap;have e13:=hf 13 aj;simp[Gi.ak,xg] at e13;clear hf;cases hq:d.a4 with
  | none=>
   have h0:c.xs=[]:=by
    rcases HR.x.2.2.2 with h|⟨b,o,e,_⟩
    ·have h9:c.xs.map xdF=[]:=h
     simpa using h9
    ·rw[hq] at e;cases e
   have hl0:d.l4=0:=by rw[<-hl4,h0];rfl
   rw[hq,hl0] at e13;go_simp;refine hK _ _ (xj _ _) ⟨none,0,by rw[hl0],?_,Below.size hW⟩;rw[hl0,h0];exact az.nil _ _ _ _ _ af
  | some ad=>
   rw[hq] at e13;have hin:=HR.x.below (HB.trans (Below.mono hW HB.size));have hin2:aF wg d.a4 d.l4 d.c4 5 (c.xs.map xdF):=hin;rw[hq] at hin2
   have hz:i4.zero=some (.agg #[.string ⟨#[]⟩,.int .i64 0,.string ⟨#[]⟩,.bool false,.string ⟨#[]⟩])/\i4.size=5/\i4.bytes=64:=by have:=HI4.2;simp only[y9] at this;exact this
   refine m_ _ (.tmp 13) 33 114 rfl i4 (.agg #[.string ⟨#[]⟩,.int .i64 0,.string ⟨#[]⟩,.bool false,.string ⟨#[]⟩]) 5 64 Tryz.underlying33 HI4.1 hz.1 hz.2.1 hz.2.2 rfl aj aj wg.heap.size (.slice none 0 0) rfl (yq _ _ _ _) (xk _) (by simpa[Act.eval] using e13) hin2 (fp mZ _) (by have:=HS.x;omega) aj ?_;intro a' c' w' hR hg;exact hK _ _ ((xj _ _).grown hg (xk _) (fun k hk=>by cases hk)) ⟨a',c',rfl,hR,Below.size hW⟩
 refine' Gi.Grow.ar _ rfl ?_ ?_;rotate_left 1
 ·exact fL
 refine' Gi.Grow.ar _ rfl ?_ ?_;rotate_left 1
 ·refine Gi.Obl.plain rfl ?_;intro ac wg K lo hi hsz hW hpr hf hap hK;clear hsz hap hpr;have e15:=hf 15 aj;simp[Gi.ak,xg] at e15;exact fJ
 refine Gi.Grow.step (gy W.heap.size d.l5 6 105 (c.ps.map pdF)) rfl (gy.mono _ _ _ _ _ _ _) ?_ ?_
 ·refine Gi.Obl.plain rfl ?_;intro ac wg K lo hi hsz hW hpr hf hap hK;clear hsz hpr hap;have e16:=hf 16 aj;simp[Gi.ak,xg] at e16;clear hf;go_simp;refine (jq d.a5 d.l5 d.c5 c.ps _ (HR.p.below (HB.trans (Below.mono hW HB.size))) (by have:=HS.p;omega) HS.ps).mono ?_;exact qi
 refine' Gi.Grow.ar _ rfl ?_ ?_;rotate_left 1
 ·exact fL
 refine' Gi.Grow.ar _ rfl ?_ ?_;rotate_left 1
 ·refine Gi.Obl.plain rfl ?_;intro ac wg K lo hi hsz hW hpr hf hap hK;clear hsz hap hpr;have e18:=hf 18 aj;simp[Gi.ak,xg] at e18;exact fJ
 refine Gi.Grow.step (ClF W.heap.size c) rfl (ClF.mono _ _ _ _) ?_ ?_
 ·refine Gi.Obl.plain rfl ?_;intro ac wg K lo hi hsz hW hpr hf hap hK;clear hsz hpr;have e5:=hf 5 aj;simp[Gi.ak,xg] at e5;have e8:=hf 8 aj;simp[Gi.ak,xg] at e8;have e11:=hf 11 aj;simp[Gi.ak,xg] at e11;have e14:=hf 14 aj;simp[Gi.ak,xg] at e14;have e17:=hf 17 aj;simp[Gi.ak,xg] at e17;have e19:=hf 19 aj;simp[Gi.ak,xg] at e19;clear hf;obtain⟨a1,c1,e5,ho1,hB1⟩:=e5;obtain⟨a2,c2,e8,ho2,hB2⟩:=e8;obtain⟨a3,c3,e11,ho3,hB3⟩:=e11;obtain⟨a4,c4,e14,ho4,hB4⟩:=e14;obtain⟨a5,c5,e17,ho5,hB5⟩:=e17;have hap2:∀t∈[5,8,11,14,17],∀t'∈[5,8,11,14,17],¬t=t'->hi t<=lo t'\/hi t'<=lo t:=by
   intro t ht t' ht' hne;refine hap t ?_ t' ?_ ?_ ?_ hne
   ·simp only[xV,yu,or_false] at ht;rcases ht with rfl|rfl|rfl|rfl|rfl <;> decide
   ·simp only[xV,yu,or_false] at ht';rcases ht' with rfl|rfl|rfl|rfl|rfl <;> decide
   ·simp only[xV,yu,or_false] at ht;rcases ht with rfl|rfl|rfl|rfl|rfl <;> rfl
   ·simp only[xV,yu,or_false] at ht';rcases ht' with rfl|rfl|rfl|rfl|rfl <;> rfl
  clear hap;have q01:=hap2 5 aj 8 aj aj;have q02:=hap2 5 aj 11 aj aj;have q03:=hap2 5 aj 14 aj aj;have q04:=hap2 5 aj 17 aj aj;have q12:=hap2 8 aj 11 aj aj;have q13:=hap2 8 aj 14 aj aj;have q14:=hap2 8 aj 17 aj aj;have q23:=hap2 11 aj 14 aj aj;have q24:=hap2 11 aj 17 aj aj;have q34:=hap2 14 aj 17 aj aj;clear hap2;have hC:bP wg ⟨a1,d.l1,c1,a2,d.l2,c2,a3,d.l3,c3,a4,d.l4,c4,a5,d.l5,c5⟩ c.raw (fun k=>W.heap.size<=k):=by
   refine⟨fun k=>if lo 5<=k/\k<hi 5 then 1 else if lo 8<=k/\k<hi 8 then 2 else if lo 11<=k/\k<hi 11 then 3 else if lo 14<=k/\k<hi 14 then 4 else 5,?_,?_,?_,?_,?_⟩
   ·exact ho1.dX (fun k _ s=>⟨by have s1:lo 5<=k:=s.1;show W.heap.size<=k;omega,by have s1:lo 5<=k:=s.1;have s2:k<hi 5:=s.2;show (if lo 5<=k/\k<hi 5 then 1 else if lo 8<=k/\k<hi 8 then 2 else if lo 11<=k/\k<hi 11 then 3 else if lo 14<=k/\k<hi 14 then 4 else 5)=1;rw[if_pos ⟨s1,s2⟩]⟩)
   ·exact ho2.dX (fun k _ s=>⟨by have s1:lo 8<=k:=s.1;show W.heap.size<=k;omega,by have s1:lo 8<=k:=s.1;have s2:k<hi 8:=s.2;show (if lo 5<=k/\k<hi 5 then 1 else if lo 8<=k/\k<hi 8 then 2 else if lo 11<=k/\k<hi 11 then 3 else if lo 14<=k/\k<hi 14 then 4 else 5)=2;rw[if_neg af];rw[if_pos ⟨s1,s2⟩]⟩)
   ·exact ho3.dX (fun k _ s=>⟨by have s1:lo 11<=k:=s.1;show W.heap.size<=k;omega,by have s1:lo 11<=k:=s.1;have s2:k<hi 11:=s.2;show (if lo 5<=k/\k<hi 5 then 1 else if lo 8<=k/\k<hi 8 then 2 else if lo 11<=k/\k<hi 11 then 3 else if lo 14<=k/\k<hi 14 then 4 else 5)=3;rw[if_neg af];rw[if_neg af];rw[if_pos ⟨s1,s2⟩]⟩)
   ·exact ho4.dX (fun k _ s=>⟨by have s1:lo 14<=k:=s.1;show W.heap.size<=k;omega,by have s1:lo 14<=k:=s.1;have s2:k<hi 14:=s.2;show (if lo 5<=k/\k<hi 5 then 1 else if lo 8<=k/\k<hi 8 then 2 else if lo 11<=k/\k<hi 11 then 3 else if lo 14<=k/\k<hi 14 then 4 else 5)=4;rw[if_neg af];rw[if_neg af];rw[if_neg af];rw[if_pos ⟨s1,s2⟩]⟩)
   ·exact ho5.dX (fun k _ s=>⟨by have s1:lo 17<=k:=s.1;show W.heap.size<=k;omega,by have s1:lo 17<=k:=s.1;have s2:k<hi 17:=s.2;show (if lo 5<=k/\k<hi 5 then 1 else if lo 8<=k/\k<hi 8 then 2 else if lo 11<=k/\k<hi 11 then 3 else if lo 14<=k/\k<hi 14 then 4 else 5)=5;rw[if_neg af];rw[if_neg af];rw[if_neg af];rw[if_neg af]⟩)
  have HC:=aa hC;clear hC ho1 ho2 ho3 ho4 ho5 q01 q02 q03 q04 q12 q13 q14 q23 q24 q34 hB1 hB2 hB3 hB4 hB5;go_simp;exact hK _ _ (xj _ _) ⟨_,rfl,HC.out⟩
 refine Gi.Grow.done ?_;intro q wz lo hi hW hf hap;clear hap;simp only[xH] at hf;obtain⟨hf20,-⟩:=hf;obtain⟨d',h20,ho⟩:=hf20 bA;have HO:=aa ho;have HBz:=aa (HB.trans (Below.mono hW HB.size));have gr:=(Below.block hW _ (ae Br.out)).trans Br.out;obtain⟨r0,r1,r2,r3,r4,r5⟩:=cs6 gr;have f0:=aw gr 0;have f1:=aw gr 1;have f2:=aw gr 2;have f3:=aw gr 3;have f4:=aw gr 4;have f5:=aw gr 5;clear gr ho hW;intro K hK;rw[if_pos (by rfl)];simp only[Gi.aI,yo,yx,xx,xG,xK,h20];simp only[yg];go_simp;refine hK _ _ ?_;refine hK0 _ _ ?_;clear hK hK0 K K0;go_wp2_with fail;refine bodyPost_ret (v:=.agg #[.slice d'.a1 d'.l1 d'.c1,.slice d'.a2 d'.l2 d'.c2,.slice d'.a3 d'.l3 d'.c3,.slice d'.a4 d'.l4 d'.c4,.slice d'.a5 d'.l5 d'.c5,.int .i64 c.now]) (by simp[results,Tryz.results89,go_sem, *]) rfl ⟨d',rfl,?_,sb1 (sb1 (sb1 (sb1 (sb1 (sb1 (HBz.out))))))⟩;obtain⟨P,hP⟩:=HO.out;exact⟨P,hP.aN (fun k _ s=>by have s1:W.heap.size<=k:=s;rw[xi _ _ _ _ (show k≠w.heap.size+1 by omega),xi _ _ _ _ (show k≠w.heap.size+1 by omega),xi _ _ _ _ (show k≠w.heap.size+1 by omega),xi _ _ _ _ (show k≠w.heap.size+1 by omega),xi _ _ _ _ (show k≠w.heap.size+1 by omega),xi _ _ _ _ (show k≠w.heap.size+1 by omega)]) (fun k _ s=>by have s1:W.heap.size<=k:=s;show w.heap.size<=k;omega)⟩

structure Co where
 c:Cl
 n:ByteArray
 p:Int
def cl0:Cl:=⟨[],[],[],[],[],0⟩
def co0 (p:Int):Co:=⟨cl0,⟨#[]⟩,p⟩
def ad0:Ad:=⟨none,0,0,none,0,0,none,0,0,none,0,0,none,0,0⟩
theorem wb (w:World) (S:Nat->Prop):bP w ad0 cl0.raw S:=⟨fun _=>1,az.nil _ _ _ _ _ (by decide),az.nil _ _ _ _ _ (by decide),az.nil _ _ _ _ _ (by decide),az.nil _ _ _ _ _ (by decide),az.nil _ _ _ _ _ (by decide)⟩
def wZ (Is:Co->Prop) (w:World) (e:Ending) (w':World):Prop:=∃g o,e=.returned (.agg #[.slice g.a1 g.l1 g.c1,.slice g.a2 g.l2 g.c2,.slice g.a3 g.l3 g.c3,.slice g.a4 g.l4 g.c4,.slice g.a5 g.l5 g.c5,.int .i64 o.c.now,.string o.n,.int .i64 o.p])/\Is o/\bP w' g o.c.raw (fun k=>w.heap.size<=k)/\Below w.heap.size w w'
def wx (Is:Co->Prop) (w:World) (e:Ending) (w':World):Prop:=∃g o,e=.returned (.agg #[.slice g.a1 g.l1 g.c1,.slice g.a2 g.l2 g.c2,.slice g.a3 g.l3 g.c3,.slice g.a4 g.l4 g.c4,.slice g.a5 g.l5 g.c5,.int .i64 o.c.now,.string o.n,.int .i64 o.p])/\Is o/\aK w' g o.c.raw/\Below w.heap.size w w'

theorem eR (g g':Ad) (o:Co) (w:World) (hr:aK w g o.c.raw) (hr':aK w g' o.c.raw):
  Calls Tryz.prog 8 #[.agg #[.slice g.a1 g.l1 g.c1,.slice g.a2 g.l2 g.c2,.slice g.a3 g.l3 g.c3,.slice g.a4 g.l4 g.c4,.slice g.a5 g.l5 g.c5,.int .i64 o.c.now,.string o.n,.int .i64 o.p],.agg #[.slice g'.a1 g'.l1 g'.c1,.slice g'.a2 g'.l2 g'.c2,.slice g'.a3 g'.l3 g'.c3,.slice g'.a4 g'.l4 g'.c4,.slice g'.a5 g'.l5 g'.c5,.int .i64 o.c.now,.string o.n,.int .i64 o.p]] w fun e w'=>e=.returned (.bool true)/\Below w.heap.size w w':=by
 have HR:=aa hr;have HR':=aa hr';have HB:=aa (xj w.heap.size w);clear hr hr';go_enter Tryz.func8,Tryz.ntmps8;go_wp2_with fail;refine (eN g g' o.c _ (HR.below (HB.trans ((aM _ _ _).mono HB.size))) (HR'.below (HB.trans ((aM _ _ _).mono HB.size)))).mono ?_;rintro e w1 ⟨rfl,hb⟩;obtain⟨HA0,HA1,hbx⟩:=de hb;have Ba:=aa HA0;have Bb:=aa HA1;replace HB:=upB HB hbx;clear hb hbx HA0 HA1;obtain⟨a0,a1,a2,a3,a4,a5,a6,a7⟩:=cs8 Ba;obtain⟨b0,b1,b2,b3,b4,b5,b6,b7⟩:=cs8 Bb;go_wp2;go_ret;exact⟨rfl,HB.out⟩

theorem ji (g:Ad) (o:Co) (N:Int) (S:Nat->Prop) (w:World) (ho:bP w g o.c.raw S) (hS:∀k,S k->k<w.heap.size) (hN:0<N) (hb:cS N o.c.raw<=1152921504606846976):
  Calls Tryz.prog 11 #[.agg #[.slice g.a1 g.l1 g.c1,.slice g.a2 g.l2 g.c2,.slice g.a3 g.l3 g.c3,.slice g.a4 g.l4 g.c4,.slice g.a5 g.l5 g.c5,.int .i64 o.c.now,.string o.n,.int .i64 o.p],.int .i64 N] w fun e w'=>e=.returned (.int .i64 (cS N o.c.raw))/\bP w' g (mkC N o.c.raw) S/\aG S w w':=by
 have HO:=aa (ho.below (al w (.cells #[.slice g.a1 g.l1 g.c1,.slice g.a2 g.l2 g.c2,.slice g.a3 g.l3 g.c3,.slice g.a4 g.l4 g.c4,.slice g.a5 g.l5 g.c5,.int .i64 o.c.now,.string o.n,.int .i64 o.p] 38)));have HS:=aa hS;clear ho hS;go_enter Tryz.func11,Tryz.ntmps11;go_wp2_with fail;refine (dW g o.c N S _ HO.out (fun k s=>by have:=HS.out k s;simp;omega) hN hb).mono ?_;rintro e w1 ⟨rfl,ho,hk⟩;have HO1:=aa ho;have HK:=aa ((aG.bh (S:=S) (al w (.cells #[.slice g.a1 g.l1 g.c1,.slice g.a2 g.l2 g.c2,.slice g.a3 g.l3 g.c3,.slice g.a4 g.l4 g.c4,.slice g.a5 g.l5 g.c5,.int .i64 o.c.now,.string o.n,.int .i64 o.p] 38))).trans hk);clear ho hk;go_wp2;go_ret;exact⟨rfl,HO1.out,HK.out⟩

theorem jx (g:Ad) (o:Co) (N:Int) (w:World) (hr:aK w g (mkC N o.c.raw)) (hN:0<N) (hb:cS N o.c.raw<=1152921504606846976):
  Calls Tryz.prog 12 #[.agg #[.slice g.a1 g.l1 g.c1,.slice g.a2 g.l2 g.c2,.slice g.a3 g.l3 g.c3,.slice g.a4 g.l4 g.c4,.slice g.a5 g.l5 g.c5,.int .i64 o.c.now,.string o.n,.int .i64 o.p],.int .i64 N] w fun e w'=>e=.returned (.int .i64 (cS N o.c.raw))/\Below w.heap.size w w':=by
 have HR:=aa (hr.below (al w (.cells #[.slice g.a1 g.l1 g.c1,.slice g.a2 g.l2 g.c2,.slice g.a3 g.l3 g.c3,.slice g.a4 g.l4 g.c4,.slice g.a5 g.l5 g.c5,.int .i64 o.c.now,.string o.n,.int .i64 o.p] 38)));clear hr;obtain⟨M,hM⟩:∃M,M=cS N o.c.raw:=⟨_,rfl⟩;have hM0:¬M<0:=by rw[hM];have:=jh N o.c.raw;omega
 have HM:=aa hM;clear hM;go_enter Tryz.func12,Tryz.ntmps12;go_wp2_with fail;refine (gv g o.c o.c.now N _ HR.out hN hb).mono ?_;rintro e w1 ⟨rfl,hb1⟩;rw[<-HM.out];have HB:=aa (aH hb1).2;clear hb1;go_wp2;go_ret;exact⟨by rw[<-HM.out];rfl,HB.out⟩

def wo {α:Type} (nm:α->ByteArray) (t:ByteArray) (xs:List α):List α:=xs.filter fun x=> !((nm x).toList==t.toList)
theorem lv {α:Type} {nm:α->ByteArray} {t:ByteArray} {xs:List α} {k:Nat} {x:α} (h:xs[k]?=some x) (hn:((nm x).toList==t.toList)=false):wo nm t (xs.take (k+1))=wo nm t (xs.take k)++[x]:=by
 unfold wo;rw[yb,h,yM];simp[hn]
theorem tq {α:Type} {nm:α->ByteArray} {t:ByteArray} {xs:List α} {k:Nat} {x:α} (h:xs[k]?=some x) (hn:((nm x).toList==t.toList)=true):wo nm t (xs.take (k+1))=wo nm t (xs.take k):=by
 unfold wo;rw[yb,h,yM];simp[hn]
theorem tr {α:Type} (nm:α->ByteArray) (t:ByteArray) (xs:List α):(wo nm t xs).length<=xs.length:=List.length_filter_le _ _
structure Sel {α β:Type} (xs ys:List α) (vss ws:List β) (k:Nat) (f:Nat->Nat):Prop where
 len:ws.length=ys.length
 y:∀j,j<ys.length->ys[j]?=xs[f j]?
 v:∀j,j<ys.length->ws[j]?=vss[f j]?
 lt:∀j,j<ys.length->f j<k
 inj:∀i j,i<ys.length->j<ys.length->f i=f j->i=j
theorem Sel.nil {α β:Type} (xs:List α) (vss:List β) (k:Nat) (f:Nat->Nat):Sel xs [] vss [] k f:=⟨rfl,fun j h=>by simp at h,fun j h=>by simp at h,fun j h=>by simp at h,fun i j h=>by simp at h⟩
theorem Sel.up {α β:Type} {xs ys:List α} {vss ws:List β} {k:Nat} {f:Nat->Nat} (h:Sel xs ys vss ws k f):Sel xs ys vss ws (k+1) f:=⟨h.len,h.y,h.v,fun j hj=>Nat.lt_succ_of_lt (h.lt j hj),h.inj⟩
theorem Sel.push {α β:Type} {xs ys:List α} {vss ws:List β} {k:Nat} {f:Nat->Nat} (h:Sel xs ys vss ws k f) {x:α} {u:β} (hx:xs[k]?=some x) (hu:vss[k]?=some u):Sel xs (ys++[x]) vss (ws++[u]) (k+1) (fun j=>if j=ys.length then k else f j):=by
 have hl:=h.len;refine⟨by simp[hl],fun j hj=>?_,fun j hj=>?_,fun j hj=>?_,fun i j hi hj e=>?_⟩
 ·by_cases e:j=ys.length
  ·subst e;simp[hx]
  ·have hj':j<ys.length:=by simp at hj;omega
   rw[xP hj',if_neg e];exact h.y j hj'
 ·by_cases e:j=ys.length
  ·subst e;rw[if_pos rfl,hu,ye af,hl,Nat.sub_self];rfl
  ·have hj':j<ys.length:=by simp at hj;omega
   rw[xP af,if_neg e];exact h.v j hj'
 ·by_cases e:j=ys.length
  ·simp only[if_pos e];omega
  ·have hj':j<ys.length:=by simp at hj;omega
   simp only[if_neg e];have:=h.lt j hj';omega
 ·by_cases e1:i=ys.length <;> by_cases e2:j=ys.length
  ·omega
  ·have hj':j<ys.length:=by simp at hj;omega
   simp only[if_pos e1,if_neg e2] at e;have:=h.lt j hj';omega
  ·have hi':i<ys.length:=by simp at hi;omega
   simp only[if_pos e2,if_neg e1] at e;have:=h.lt i hi';omega
  ·simp only[if_neg e1,if_neg e2] at e;exact h.inj i j (by simp at hi;omega) (by simp at hj;omega) e
theorem Sel.oC {w:World} {S:Nat->Prop} {m k:Nat} {α:Type} {F:α->List Fv} {xs ys:List α} {vss ws:List (List Value)} {H:Nat->Nat->Nat} {f:Nat->Nat} (h:Sel xs ys vss ws k f) (hv:aP w S m (xs.map F) vss H):aP w S m (ys.map F) ws (fun j=>H (f j)):=
 hv.w_ f (by rw[h.len,xR]) (fun j hj=>by rw[xR] at hj;rw[xq,xq,h.y j hj]) (fun j hj=>by rw[xR] at hj;exact h.v j hj) (fun i j hi hj e=>h.inj i j (by simpa using hi) (by simpa using hj) e)
theorem pw {vs:List Value} {a0 a1 a2 a3 a4 a5 a6 a7:Value} (hl:vs.length=8) (h0:vs[0]?=some a0) (h1:vs[1]?=some a1) (h2:vs[2]?=some a2) (h3:vs[3]?=some a3) (h4:vs[4]?=some a4) (h5:vs[5]?=some a5) (h6:vs[6]?=some a6) (h7:vs[7]?=some a7):vs=[a0,a1,a2,a3,a4,a5,a6,a7]:=by
 apply List.ext_getElem?;intro i;rcases i with _|_|_|_|_|_|_|_|i
 ·exact h0
 ·exact h1
 ·exact h2
 ·exact h3
 ·exact h4
 ·exact h5
 ·exact h6
 ·exact h7
 ·rw[yi af,yi aT]
theorem dp {w:World} {S:Nat->Prop} {m g:Nat} {rs:List (List Fv)} {vss:List (List Value)} {H:Nat->Nat->Nat} (hV:aP w S m rs vss H) (hc:∀(k:Nat) u,vss.flatten[k]?=some u->w.cell? ⟨g,k,none⟩=some u) {k:Nat} {vs:List Value} (hk:vss[k]?=some vs) {i:Nat} {u:Value} (hi:i<m) (hu:w.cell? ⟨g,k*m+i,none⟩=some u):vs[i]?=some u:=by
 have hl:=hV.all k vs hk;have h1:vs[i]?=some (vs[i]'(by omega)):=xm _;have h2:=hc _ _ (cM hV.all hk h1);rw[hu] at h2;rw[h1];exact h2.symm

theorem oJ (a:Option Addr) (len cap:Nat) (xs:List Vd) (t:ByteArray) (Q:Nat->Prop) (w:World) (ho:az w a len cap 8 62 (xs.map vdF) Q) (hl:len<=8):
  Calls Tryz.prog 90 #[.slice a len cap,.string t] w fun e w'=> ∃a' l' c',e=.returned (.slice a' l' c')/\az w' a' l' c' 8 62 ((wo Vd.n t xs).map vdF) (fun k=>Q k\/w.heap.size<=k)/\Below w.heap.size w w':=by
 have HR:=aa ho.row;have hxl:xs.length=len:=by simpa using ho.1
 obtain⟨vss,H,hV,hcell⟩:=ho.oC;have HV:=aa hV;have HC:=aa hcell;have hvl:vss.length=xs.length:=by rw[hV.len,xR]
 clear ho hV hcell;obtain⟨i0,hi,hz0,hz1,hz2⟩:=info_parts fP;have HI0:=aa (xf hi (xf hz0 (xf hz1 hz2)));clear hi hz0 hz1 hz2;have hmcalled:∀(v:Value) (w:World),(method 362 62 v "loop.example/g00571/impl.called").run Tryz.prog w=.ok (204,v) w:=fun _ _=>by kernel_rfl
 go_enter Tryz.func90,Tryz.ntmps90;go_wp2;go_loopw [5,10] (fun vo vi wr=> ∃(k:Nat) (ws:List (List Value)) (f:Nat->Nat),k<=len/\vi=.int .i64 k/\Hid (wr.ownsRow w.heap.size 62 8 vo (wo Vd.n t (xs.take k)).length ws.flatten)/\Hid (Sel xs (wo Vd.n t (xs.take k)) vss ws k f)/\Hid (Below w.heap.size w wr)) (fun _ vi _=>len - (intOf vi).toNat);case atStart=>exact⟨0,[],fun _=>0,by omega,rfl,yq _ _ _ _,Sel.nil _ _ _ _,xj _ _⟩
 case round=>
  obtain⟨k,ws,f,hk,rfl,HO,HF,HB⟩:=hrel;have hBs:=HB.size;by_cases hlt:k<len
  ·obtain⟨b,o,x,rfl,hb,hx,hat⟩:=bq HR.out hlt;obtain⟨va,vl,vc,hvr,z0,z2,z3,z5,c0,c1,c2,c3,c4,c5,c6,c7⟩:=aE hat;have hvk:vss[k]?=some [.string x.n,.int .i64 x.c,.string x.z,.string x.k,.bool x.x,.string x.m,.bool x.y,.slice va vl vc]:=by
    have hkv:k<vss.length:=af
    have h1:=xm hkv;have hoz:o=0:=by
     have h2:0<(vss[k]).length:=by rw[HV.all k _ h1];decide
     obtain⟨g,e,_,_⟩:=HC.out _ _ (cM HV.all h1 (xm h2));cases e;rfl
    subst hoz;have hc2:∀(j:Nat) u,vss.flatten[j]?=some u->w.cell? ⟨b,j,none⟩=some u:=fun j u hj=>by
     obtain⟨g,e,_,h3⟩:=HC.out j u hj;cases e;exact h3
    rw[h1];refine congrArg some (pw (HV.all k _ h1) (dp HV.out hc2 h1 aj (by simpa using c0)) (dp HV.out hc2 h1 aj (by simpa using c1)) (dp HV.out hc2 h1 aj (by simpa using c2)) (dp HV.out hc2 h1 aj (by simpa using c3)) (dp HV.out hc2 h1 aj (by simpa using c4)) (dp HV.out hc2 h1 aj (by simpa using c5)) (dp HV.out hc2 h1 aj (by simpa using c6)) (dp HV.out hc2 h1 aj (by simpa using c7)))
   have HX:=aa hx;have HVK:=aa hvk;replace c0:=(ai HB.out hb).trans c0;replace c1:=(ai HB.out hb).trans c1;replace c2:=(ai HB.out hb).trans c2;replace c3:=(ai HB.out hb).trans c3;replace c4:=(ai HB.out hb).trans c4;replace c5:=(ai HB.out hb).trans c5;replace c6:=(ai HB.out hb).trans c6;replace c7:=(ai HB.out hb).trans c7;clear hat hx hvk hvr z0 z2 z3 z5;have hn8:=tr Vd.n t (xs.take k);have hn9:(wo Vd.n t (xs.take k)).length<=k:=by rw[xE] at hn8;omega
   go_wp2_with fail;refine (db x va vl vc _).mono ?_;rintro e w1 ⟨rfl,hb1⟩;obtain⟨hn1,hbx⟩:=aH hb1;obtain⟨n0,n1,n2,n3,n4,n5,n6,n7⟩:=cs8 hn1;have hs1:=ae hn1;have HO1:=aa (br HO.out hbx);have HB1:=aa (HB.trans (hbx.mono hBs));clear hb1 hbx hn1 c0 c1 c2 c3 c4 c5 c6 c7;cases hq:(x.n.toList==t.toList)
   ·have hq2:(x.n.toList !=t.toList)=true:=by simp[bne,hq]
    go_wp2_with (first|(at_builtin;refine wpList_append_own _ rfl _ _ 123 rfl w.heap.size 62 i0 (.agg #[.string ⟨#[]⟩,.int .i64 0,.string ⟨#[]⟩,.string ⟨#[]⟩,.bool false,.string ⟨#[]⟩,.bool false,.slice none 0 0]) 8 112 Tryz.underlying123 HI0.1 HI0.2.1 HI0.2.2.1 HI0.2.2.2 rfl aj _ _ _ rfl (HO1.alloc _) ⟨w1.heap.size,0,none⟩ 1 1 [.string x.n,.int .i64 x.c,.string x.z,.string x.k,.bool x.x,.string x.m,.bool x.y,.slice va vl vc] rfl rfl ?c1 ?c2 ?c3 ?c4 ?c5 ?_));case c1=>exact cG _ _ _
    case c2=>intro u hu;simp only[xV,yu,or_false] at hu;rcases hu with rfl|rfl|rfl|rfl|rfl|rfl|rfl|rfl <;> rfl
    case c3=>unfold maxLen;omega
    case c4=>omega
    case c5=>simp;omega
    rintro v' w3 hown3 hgrow -;have HO3:Hid (w3.ownsRow w.heap.size 62 8 v' (wo Vd.n t (xs.take (k+1))).length (ws++([[.string x.n,.int .i64 x.c,.string x.z,.string x.k,.bool x.x,.string x.m,.bool x.y,.slice va vl vc]]:List (List Value))).flatten):=by
     show World.ownsRow _ _ _ _ _ _ _;rw[lv HX.out hq,xO,List.flatten_append];simpa using hown3
    have hF:=HF.push HX.out HVK.out;rw[<-lv HX.out hq] at hF;have HF3:=aa hF;have HB3:=aa ((HB1.trans ((al _ _).mono HB1.size)).grown hgrow bX (fun g hg=>(HO1.lt g hg).1));clear hown3 hgrow hF;go_wp2;exact⟨⟨k+1,_,_,by omega,by go_num,HO3,HF3,HB3⟩,by simp[intOf];omega⟩
   ·have hq2:(x.n.toList !=t.toList)=false:=by simp[bne,hq]
    have HF3:=aa HF.up;rw[<-tq HX.out hq] at HF3 HO1;go_wp2;exact⟨⟨k+1,ws,f,by omega,by go_num,HO1,HF3,HB1⟩,by simp[intOf];omega⟩
  ·obtain rfl:len=k:=af
   have h5:=HF.out;have HO5:=HO;rw[xw af] at h5 HO5;have h6:=(h5.oC (HV.below HB.out)).aN (w':=wr) (S':=fun k=>Q k\/w.heap.size<=k) (fun _ _ _ _=>rfl) (fun _ _ s=>.inl s);obtain⟨a',c',e,hR⟩:=h6.own HO5.out aT aj (fun g hg=>.inr (HO5.lt g hg).1);subst e;have HR5:=aa hR;clear h5 h6 hR HF HO HO5;go_wp2;go_ret;exact⟨a',_,c',rfl,by simpa using HR5.out,HB.out⟩

theorem eo.wT {w2 w3 w4:World} {d:Ad} {c:Cr} {B:Nat} {P:Nat->Nat} (h:eo w2 d c (fun k=>B<=k) P) (hB:B<=w2.heap.size) {a:Option Addr} {l cp:Nat} {rs:List (List Fv)} (hN:az w3 a l cp 8 62 rs (fun k=>((B<=k/\P k=3)/\k<w2.heap.size)\/w2.heap.size+1<=k)) (hb:Below w2.heap.size w2 w3) (hk:∀k,B<=k->¬k=w2.heap.size->w4.heap[k]?=w3.heap[k]?):bP w4 ⟨d.a1,d.l1,d.c1,d.a2,d.l2,d.c2,a,l,cp,d.a4,d.l4,d.c4,d.a5,d.l5,d.c5⟩ ⟨c.n,c.k,rs,c.x,c.p⟩ (fun k=>B<=k):=by
 refine⟨fun k=>if w2.heap.size+1<=k then 3 else P k,?_,?_,?_,?_,?_⟩
 ·exact h.n.aN (fun k hl s=>(hk k s.1 af).trans (hb.block k hl)) (fun k hl s=>⟨s.1,by show (if w2.heap.size+1<=k then 3 else P k)=1;rw[if_neg af];exact s.2⟩)
 ·exact h.k.aN (fun k hl s=>(hk k s.1 af).trans (hb.block k hl)) (fun k hl s=>⟨s.1,by show (if w2.heap.size+1<=k then 3 else P k)=2;rw[if_neg af];exact s.2⟩)
 ·refine hN.aN (fun k _ s=>hk k (by rcases s with s|s;exact s.1.1;omega) (by rcases s with s|s <;> omega)) (fun k _ s=>?_);rcases s with s|s
  ·exact⟨s.1.1,by show (if w2.heap.size+1<=k then 3 else P k)=3;rw[if_neg af];exact s.1.2⟩
  ·exact⟨by show B<=k;omega,if_pos s⟩
 ·exact h.x.aN (fun k hl s=>(hk k s.1 af).trans (hb.block k hl)) (fun k hl s=>⟨s.1,by show (if w2.heap.size+1<=k then 3 else P k)=4;rw[if_neg af];exact s.2⟩)
 ·exact h.p.aN (fun k hl s=>(hk k s.1 af).trans (hb.block k hl)) (fun k hl s=>⟨s.1,by show (if w2.heap.size+1<=k then 3 else P k)=5;rw[if_neg af];exact s.2⟩)
theorem iP (p:Int):cS 1 (co0 p).c.raw<=1152921504606846976:=by simp[co0,cl0,Cl.raw,cS,aC]

theorem fH (w:World) (t t' ty e e':TypeId) (i:TypeInfo) (ht:Tryz.prog.underlying t=some (.slice e)) (ht':Tryz.prog.underlying t'=some (.slice e')) (hi:Tryz.prog.info? e=some i) (a:Option Addr) (l c:Nat) (b:Value):(xU #[t,t'] ty #[.slice a l c,b]).run Tryz.prog w=(xU #[t,t] ty #[.slice a l c,b]).run Tryz.prog w:=by
 simp[xU,run_underlying ht,run_underlying ht',sizeOf,typeInfo,hi]
theorem cr {w:World} {ops:Array Oper} {rest:List Oper} {o:Oper} {a:Act} {Q:Exit->Act->World->Prop} (hgd:o.guard=none) (s x:Operand) (t t':TypeId)
  (ho:o.op=.call { callee:=.builtin .append,args:=#[s,x],argTypes:=#[t,t'] })
  (base:Nat) (e e':TypeId) (i:TypeInfo) (z:Value) (size bytes:Nat) (ht:Tryz.prog.underlying t=some (.slice e)) (ht':Tryz.prog.underlying t'=some (.slice e')) (hi:Tryz.prog.info? e=some i) (hz:i.zero=some z)
  (hsize:i.size=size) (hby:i.bytes=bytes) (hzs:z.cells.size=size) (hsz:0<size)
  (v:Value) (n:Nat) (xs:List Value) (hs:a.eval s=v) (hown:w.ownsRow base e size v n xs)
  (ad:Addr) (m c:Nat) (news:List Value) (hx:a.eval x=.slice (some ad) m c) (hl:news.length=m*size) (hnews:∀j u,news[j]?=some u->w.cell? (ad.add j)=some u) (h1:∀u∈news,u.oneCell'=true)
  (h63:n+m<=maxLen) (hbytes:(n+m)*bytes<=140737488355328) (hbase:base<=w.heap.size)
  (h:∀v' w',w'.ownsRow base e size v' (n+m) (xs++news)->w.grownBy w' v.ownBlock->wpList Tryz.prog ops Q rest (a.put o.dst v') w'):wpList Tryz.prog ops Q (o ::rest) a w:=by
 refine wpList_plain hgd fun K hK=>?_;obtain⟨v',w',hr,h2,h3,h4⟩:=run_append_own (P:=Tryz.prog) w base t o.type e i z size bytes ht hi hz hsize hby hzs hsz v n xs hown ad m c news hl hnews h1 h63 hbytes hbase;obtain⟨va,vl,vc,rfl⟩:∃a l c,v=.slice a l c:=by
  exact qF
 rw[<-fH w t t' o.type e e' i ht ht' hi] at hr;exact rM
theorem c_ (w:World) (dT sT ty elem:TypeId) (g o dLen dCap:Nat) (a:Addr) (sLen sCap m:Nat) (cur:Array Value) (t:TypeId) (cs:List Value) (i:TypeInfo)
  (hu:Tryz.prog.underlying dT=some (.slice elem)) (hi:Tryz.prog.info? elem=some i) (hs:i.size=m)
  (hg:w.heap[g]?=some (.cells cur t (0,0))) (hn:cs.length=Nat.min sLen dLen*m)
  (hsrc:∀j v,cs[j]?=some v->w.cell? (a.add j)=some v) (hfit:o+cs.length<=cur.size) (h1:∀v∈cs,v.oneCell'=true):
  (za #[dT,sT] ty #[.slice (some ⟨g,o,none⟩) dLen dCap,.slice (some a) sLen sCap]).run Tryz.prog w=
   .ok (goInt (Nat.min sLen dLen)) (w.setRow g (cur.toList.take o++cs++cur.toList.drop (o+cs.length)).toArray):=by
 have hl:=run_loadCells_list (P:=Tryz.prog) w a cs hsrc;have hst:=run_storeCells_at Tryz.prog g o t cs 0 cur w hg (by simpa using hfit) h1;rw[hn] at hl;simp[za,run_underlying hu,Builtin.lenOf,Builtin.firstCells,sizeOf,typeInfo,hi,hs,hl,hst]
theorem sh {a b c m:Nat} {X ys cur c1:List Value} (hX:cur.take b=X) (hc:cur.length=c) (h1:a+m<=b) (h2:b+m<=c) (hy:ys.length=m) (h:c1=cur.take (a+m)++X.drop a++cur.drop (a+m+(X.drop a).length)):(c1.take a++(ys++c1.drop (a+m))).take (b+m)=X.take a++ys++X.drop a:=by
 have hXl:X.length=b:=by rw[<-hX,xE];omega
 have e1:c1.take a=X.take a:=by
  rw[h,yz,List.take_append_of_le_length kd,List.take_take,<-hX,List.take_take];congr 1;omega
 have e2:c1.drop (a+m)=X.drop a++cur.drop (a+m+(X.drop a).length):=by
  rw[h,yz];exact List.drop_left' kd
 rw[e1,e2,<-yz,<-yz];exact yZ tz
theorem oV {a b m:Nat} {X ys R R2 S:List Value} (hX:R.take a=X.take a) (hXl:X.length=b) (h1:a<=b) (hy:ys.length=m) (h:R2=R.take a++ys++S) (T:List Value):(R2.take (a+m)++X.drop a++T).take (b+m)=X.take a++ys++X.drop a:=by
 have e1:R2.take (a+m)=X.take a++ys:=by
  rw[h,hX];exact yZ (by simp only[xO,xE];omega)
 rw[e1];exact yZ tz
theorem fv (w:World) (g:Nat) (cs:Array Value):w.grownBy (w.setRow g cs) (some g):=⟨rfl,rfl,rfl,by simp[World.setRow],fun k _ h=>setRow_other w g k cs (fun e=>h (by rw[e]))⟩
theorem eD {ops:Array Oper} {o:Oper} {a:Act} {w:World} {K:Act->World->Prop} {Q:Exit->Act->World->Prop} {E:Prop}
  (hg:o.guard=none) (d x:Operand) (dT sT:TypeId) (hop:o.op=Op.call { callee:=Callee.builtin Builtin.copy,args:=#[d,x],argTypes:=#[dT,sT] })
  (v u:Value) (hd:a.eval d=v) (hx:a.eval x=u) {v':Value} {w':World} (hr:(za #[dT,sT] o.type #[v,u]).run Tryz.prog w=.ok v' w') (hK:K (a.put o.dst v') w'):
  if yA o (yielded ops a.tmps)=true then Oper.wp Tryz.prog o a w K Q else E:=by
 have hw:yA o (yielded ops a.tmps)=true:=by simp[yA,hg]
 rw[if_pos hw];unfold Oper.wp;simp[execOp,hop,resolve,invoke,builtin,hd,hx,hr,Result.andThen];exact hK

def bz {α:Type} (p:Nat) (x:α) (xs:List α):List α:=xs.take p++[x]++xs.drop p
theorem fq {α:Type} {p:Nat} {x:α} {xs:List α} (h:p<=xs.length):(bz p x xs).length=xs.length+1:=by
 simp only[bz,xO,xE,yf,yU,List.length_nil];omega
theorem k_ {α β:Type} (f:α->β) (p:Nat) (x:α) (xs:List α):(bz p x xs).map f=bz p (f x) (xs.map f):=by simp[bz,List.map_take,List.map_drop]
theorem n8 {α:Type} {p:Nat} {x:α} {xs:List α} (h:p<=xs.length) (j:Nat) (hj:j<xs.length+1):(bz p x xs)[j]?=(xs++[x])[if j<p then j else if j=p then xs.length else j - 1]?:=by
 unfold bz;by_cases h1:j<p
 ·rw[if_pos h1,yz,xP kd,xP af,xF,if_pos h1]
 ·rw[if_neg h1];by_cases h2:j=p
  ·subst h2;have hl:(xs.take j).length=j:=by rw[xE,Nat.min_eq_left h]
   have e1:(xs.take j++[x]++xs.drop j)[j]?=some x:=by
    rw[yz,ye af,hl,Nat.sub_self];rfl
   rw[e1,if_pos rfl];simp
  ·rw[if_neg h2,ye (by simp only[xO,xE,yU,List.length_nil];omega),xP af,xX];congr 1;simp only[xO,xE,yU,List.length_nil];omega
theorem oQ {α:Type} {m p:Nat} {vss:List (List α)} (h:∀(j:Nat) vs,vss[j]?=some vs->vs.length=m) (hp:p<=vss.length) (vs:List α):(bz p vs vss).flatten=vss.flatten.take (p*m)++vs++vss.flatten.drop (p*m):=by
 have hl:((vss.take p).flatten).length=p*m:=by
  rw[dj (m:=m) (fun j v hv=>by
   rw[xF] at hv
   split at hv
   ·exact h j v hv
   ·cases hv),xE,Nat.min_eq_left hp]
 have e:vss.flatten=(vss.take p).flatten++(vss.drop p).flatten:=ny
 have e1:vss.flatten.take (p*m)=(vss.take p).flatten:=by rw[e];exact yZ hl
 have e2:vss.flatten.drop (p*m)=(vss.drop p).flatten:=by rw[e];exact List.drop_left' hl
 rw[e1,e2];simp[bz]
theorem aP.ins {w:World} {S:Nat->Prop} {m:Nat} {rs:List (List Fv)} {vss:List (List Value)} {H:Nat->Nat->Nat} (h:aP w S m rs vss H) {r:List Fv} {vs:List Value} {hh:Nat->Nat} (hr:r.length=m) (hvs:vs.length=m) (hc:∀(i:Nat) f,r[i]?=some f->∃v,vs[i]?=some v/\f.Fr w (hh i) S v)
  (hn:∀(i:Nat) zs,r[i]?=some (.l zs)->zs≠[]->∀(j:Nat) r' (i':Nat) zs',rs[j]?=some r'->r'[i']?=some (.l zs')->zs'≠[]->¬H j i'=hh i)
  (h1:∀(i i':Nat) zs zs',r[i]?=some (.l zs)->zs≠[]->r[i']?=some (.l zs')->zs'≠[]->i=i') {p:Nat} (hp:p<=rs.length):∃H',aP w S m (bz p r rs) (bz p vs vss) H':=by
 have hl:=h.len;have e1:(bz p r rs).length=rs.length+1:=fq hp;have e2:(bz p vs vss).length=vss.length+1:=fq af;refine⟨_,(h.push hr hvs hc hn h1).w_ (fun j=>if j<p then j else if j=p then rs.length else j - 1) af (fun j hj=>n8 hp j af) (fun j hj=>?_) (fun j j' hj hj' e=>?_)⟩
 ·have:=n8 (x:=vs) (xs:=vss) (p:=p) af j af;rw[hl] at this;exact this
 ·split at e <;> split at e
  ·exact e
  all_goals (try split at e) <;> (try split at e) <;> omega

theorem cE {m:Nat} {vss:List (List Value)} (hl:∀(j:Nat) vs,vss[j]?=some vs->vs.length=m) {k:Nat} (hk:k<=vss.length):(vss.take k).flatten.length=k*m:=by
 rw[dj (m:=m) (fun j vs h=>?_),xE,Nat.min_eq_left hk];rw[xF] at h;split at h
 ·exact hl j vs h
 ·cases h
theorem o6 {m:Nat} {vss:List (List Value)} (hl:∀(j:Nat) vs,vss[j]?=some vs->vs.length=m) {k:Nat} :(vss.drop k).flatten.length=(vss.length - k)*m:=by
 rw[dj (m:=m) (fun j vs h=>?_),yf];rw[xX] at h;exact hl _ vs h
theorem eU {vss:List (List Value)} {k i:Nat} {u:Value} (h:(vss.take k).flatten[i]?=some u):vss.flatten[i]?=some u:=by
 have h1:vss.flatten=(vss.take k).flatten++(vss.drop k).flatten:=ny
 rw[h1,xP (xe.1 h).1];exact h
theorem fy {m:Nat} {vss:List (List Value)} (hl:∀(j:Nat) vs,vss[j]?=some vs->vs.length=m) {k i:Nat} {u:Value} (hk:k<=vss.length) (h:(vss.drop k).flatten[i]?=some u):vss.flatten[k*m+i]?=some u:=by
 have h1:vss.flatten=(vss.take k).flatten++(vss.drop k).flatten:=ny
 rw[h1,ye (by rw[cE hl hk];omega),cE hl hk,Nat.add_sub_cancel_left];exact h
theorem bB {P:Value->Prop} {vss:List (List Value)} (h:∀u∈vss.flatten,P u) (k:Nat):(∀u∈(vss.take k).flatten,P u)/\∀u∈(vss.drop k).flatten,P u:=by
 have h1:vss.flatten=(vss.take k).flatten++(vss.drop k).flatten:=ny
 exact⟨fun u hu=>h u (by rw[h1];exact List.mem_append_left _ hu),fun u hu=>h u (by rw[h1];exact List.mem_append_right _ hu)⟩

theorem jW (p:Int) (w:World):
  Calls Tryz.prog 19 #[.int .i64 p] w fun e w'=>e=.returned (.agg #[.slice none 0 0,.slice none 0 0,.slice none 0 0,.slice none 0 0,.slice none 0 0,.int .i64 0,.string ⟨#[]⟩,.int .i64 p])/\Below w.heap.size w w':=by
 go_enter Tryz.func19,Tryz.ntmps19;go_wp2;exact bodyPost_ret (v:=.agg #[.slice none 0 0,.slice none 0 0,.slice none 0 0,.slice none 0 0,.slice none 0 0,.int .i64 0,.string ⟨#[]⟩,.int .i64 p]) (by simp[results,Tryz.results19,go_sem]) rfl ⟨rfl,al _ _⟩

theorem cF {w:World} {base:Nat} {t ty e:TypeId} {i:TypeInfo} {size:Nat} (ht:Tryz.prog.underlying t=some (.slice e)) (hi:Tryz.prog.info? e=some i) {v:Value} {n:Nat} {xs:List Value} (hown:w.ownsRow base e size v n xs) (ax:Option Addr) (cx:Nat):
  (xU #[t,t] ty #[v,.slice ax 0 cx]).run Tryz.prog w=.ok v w:=by
 exact uO
theorem aU {w:World} {ops:Array Oper} {rest:List Oper} {o:Oper} {a:Act} {Q:Exit->Act->World->Prop} (hgd:o.guard=none) (s x:Operand) (t:TypeId)
  (ho:o.op=.call { callee:=.builtin .append,args:=#[s,x],argTypes:=#[t,t] })
  (base:Nat) (e:TypeId) (i:TypeInfo) (z:Value) (size bytes:Nat) (ht:Tryz.prog.underlying t=some (.slice e)) (hi:Tryz.prog.info? e=some i) (hz:i.zero=some z)
  (hsize:i.size=size) (hby:i.bytes=bytes) (hzs:z.cells.size=size) (hsz:0<size)
  (v:Value) (n:Nat) (xs:List Value) (hs:a.eval s=v) (hown:w.ownsRow base e size v n xs)
  (ax:Option Addr) (l c:Nat) (news:List Value) (hx:a.eval x=.slice ax l c) (hl:news.length=l*size) (hnews:∀(j:Nat) u,news[j]?=some u->∃ad:Addr,ax=some ad/\w.cell? (ad.add j)=some u) (h1:∀u∈news,u.oneCell'=true)
  (h63:n+l<=maxLen) (hbytes:(n+l)*bytes<=140737488355328) (hbase:base<=w.heap.size)
  (h:∀v' w',w'.ownsRow base e size v' (n+l) (xs++news)->w.grownBy w' v.ownBlock->wpList Tryz.prog ops Q rest (a.put o.dst v') w'):wpList Tryz.prog ops Q (o ::rest) a w:=by
 rcases news with _|⟨u,news⟩
 ·have hl0:l=0:=by
   rcases yy l with e|e
   ·exact e
   ·have:=Nat.mul_pos e hsz;simp at hl;omega
  subst hl0;refine wpList_plain hgd fun K hK=>?_;have hr:=cF (ty:=o.type) ht hi hown ax c;exact uy
 ·obtain⟨ad,rfl,_⟩:=hnews 0 u rfl;exact cr hgd s x t t ho base e e i z size bytes ht ht hi hz hsize hby hzs hsz v n xs hs hown ad l c (u ::news) hx hl (fun j y hy=>by
   obtain⟨ad',e,h2⟩:=hnews j y hy
   cases e
   exact h2) h1 h63 hbytes hbase h

theorem jZ {w:World} {g:Nat} {cs:Array Value} {T:TypeId} {f:Nat×Nat} (h:w.heap[g]?=some (.cells cs T f)):Below w.heap.size w (w.setRow g cs):=by
 refine⟨rfl,rfl,rfl,by simp,fun k hk=>?_⟩;by_cases e:k=g
 ·subst e;rw[setRow_heap w k cs cs T f h,h]
 ·exact setRow_other w g k cs e

theorem cC {w:World} (t ty e:TypeId) (i:TypeInfo) (ht:Tryz.prog.underlying t=some (.slice e)) (hi:Tryz.prog.info? e=some i) (g cap:Nat):
  (xU #[t,t] ty #[.slice (some ⟨g,0,none⟩) 0 0,.slice none 0 cap]).run Tryz.prog w=.ok (.slice (some ⟨g,0,none⟩) 0 0) w:=by
 simp[xU,run_underlying ht,sizeOf,typeInfo,hi,Builtin.lenOf,Builtin.firstCells,storeCells]

theorem bK.here {w:World} {g l c:Nat} {zs:List ByteArray} {S S':Nat->Prop} (h:bK w (some ⟨g,0,none⟩) l c zs S) (hS:S' g):bK w (some ⟨g,0,none⟩) l c zs S':=
 ⟨h.1,h.2.imp id fun ⟨g',cur,e,_,hg⟩=>by cases e;exact⟨g,cur,rfl,hS,hg⟩⟩

theorem fI {w:World} {g0:Nat} {va:Option Addr} {len cap:Nat} {zs:List ByteArray} (ty:TypeId) (hg:w.heap[g0]?=some (.cells #[] 9 (0,0))) (hr:av w va len cap zs) (hl:len<=8001):
  ∃a l c w',(xU #[59,59] ty #[.slice (some ⟨g0,0,none⟩) 0 0,.slice va len cap]).run Tryz.prog w=.ok (.slice a l c) w'/\bK w' a l c zs (fun k=>k=g0\/w.heap.size<=k)/\Below w.heap.size w w':=by
 obtain⟨i0,hi,hz0,hz1,hz2⟩:=info_parts dt;have hzl:=hr.1;rcases yy len with h0|h0
 ·subst h0;obtain rfl:zs=[]:=xN hzl;cases va with
  | none=>exact⟨_,_,_,_,cC 59 ty 9 i0 Tryz.underlying59 hi g0 cap,⟨⟨rfl,xk _,by omega,fun j x hx=>by simp at hx,.inl rfl⟩,.inl rfl⟩,xj _ _⟩
  | some ad=>
   have h:=run_append_room (P:=Tryz.prog) w 59 ty 9 i0 Tryz.underlying59 hi g0 0 0 #[] hg ad 0 cap [] aT (fun j u hu=>by simp at hu) (fun u hu=>by simp at hu) af aT;exact⟨_,_,_,_,h,⟨⟨rfl,xk _,by omega,fun j x hx=>by simp at hx,.inl rfl⟩,.inl rfl⟩,by simpa using jZ hg⟩
 ·cases va with
  | none=>
   rcases hr.2.2.2.2 with h|⟨b,o,e,_⟩
   ·subst h;simp at hzl;omega
   ·cases e
  | some ad=>
   have h:=run_append_grow (P:=Tryz.prog) w 59 ty 9 i0 (.string ⟨#[]⟩) Tryz.underlying59 hi hz0 ⟨g0,0,none⟩ 0 0 [] aT (fun j u hu=>by simp at hu) ad len cap (zs.map xo) (by rw[hz1];simpa using hzl) (Ap.nT hr) af af (growslice_fits af gK);obtain⟨v',w',hr2,h2,h3,h4⟩:=run_append_own (P:=Tryz.prog) w (base:=0) 59 ty 9 i0 (.string ⟨#[]⟩) 1 16 Tryz.underlying59 hi hz0 hz1 hz2 rfl aj (.slice (some ⟨g0,0,none⟩) 0 0) 0 [] ⟨rfl,.inr ⟨g0,0,#[],rfl,Nat.zero_le _,hg,xk _,by unfold maxLen;omega,rfl,rfl⟩⟩ ad len cap (zs.map xo) (by simpa using hzl) (Ap.nT hr) (fun u hu=>by obtain⟨x,_,rfl⟩:=List.mem_map.1 hu;rfl) bJ af (Nat.zero_le _);rw[h] at hr2
   cases hr2
   rw[xL,List.nil_append] at h2;obtain⟨a',c',e,hT⟩:=bK.gZ h2 hr.2.2.2.1;have hbel:Below w.heap.size w (w.drew.alloc (.cells (([]:List Value).toArray++(zs.map xo).toArray++yS (xo ⟨#[]⟩).cells (grownCap w (0+len) 0 9 - (0+len))) 9)):=⟨rfl,rfl,rfl,by simp,fun k hk=>heap_alloc_old w.drew _ (by simpa using hk)⟩;simp only[xL] at e h hbel ⊢
   cases e
   exact⟨_,_,_,_,h,hT.here (.inr (xk _)),hbel⟩
theorem eS {ops:Array Oper} {rest:List Oper} {o:Oper} {a:Act} {w:World} {Q:Exit->Act->World->Prop} (hgd:o.guard=none) (s x:Operand) (ho:o.op=.call { callee:=.builtin .append,args:=#[s,x],argTypes:=#[59,59] }) (g0:Nat) (hs:a.eval s=.slice (some ⟨g0,0,none⟩) 0 0) (hg:w.heap[g0]?=some (.cells #[] 9 (0,0)))
  (va:Option Addr) (len cap:Nat) (hx:a.eval x=.slice va len cap) (zs:List ByteArray) (hr:av w va len cap zs) (hl:len<=8001)
  (h:∀a' l c w',bK w' a' l c zs (fun k=>k=g0\/w.heap.size<=k)->Below w.heap.size w w'->wpList Tryz.prog ops Q rest (a.put o.dst (.slice a' l c)) w'):wpList Tryz.prog ops Q (o ::rest) a w:=by
 refine wpList_plain hgd fun K hK=>?_;obtain⟨a',l,c,w',hrun,h1,h2⟩:=fI o.type hg hr hl;unfold Oper.wp execOp;simp only[ho,resolve,invoke,builtin,Sem.run_bind,Sem.run_pure,Result.andThen_ok,List.map_toArray,List.map_cons,List.map_nil,hs,hx,hrun];exact hK _ _ (h a' l c w' h1 h2)

theorem gq {w:World} {g0:Nat} {va:Option Addr} {len cap m bytes:Nat} {rs:List (List Fv)} (t ty T:TypeId) (i:TypeInfo) (z:Value) (ht:Tryz.prog.underlying t=some (.slice T)) (hi:Tryz.prog.info? T=some i) (hz:i.zero=some z) (hsize:i.size=m) (hby:i.bytes=bytes) (hzs:z.cells.size=m) (hsz:0<m) (hT:¬T=9) (hg:w.heap[g0]?=some (.cells #[] T (0,0)))
  (hr:aF w va len cap m rs) (hm:∀(j:Nat) r,rs[j]?=some r->r.length=m/\en r) (hl:len<=8) (hb8:bytes<=1000):
  ∃a c w',(xU #[t,t] ty #[.slice (some ⟨g0,0,none⟩) 0 0,.slice va len cap]).run Tryz.prog w=.ok (.slice a len c) w'/\az w' a len c m T rs (fun k=>k=g0\/w.heap.size<=k)/\Below w.heap.size w w':=by
 rcases yy len with h0|h0
 ·subst h0;obtain rfl:rs=[]:=xN hr.1;cases va with
  | none=>exact⟨_,_,_,cC t ty T i ht hi g0 cap,az.nil _ _ _ _ _ af,xj _ _⟩
  | some ad=>
   have h:=run_append_room (P:=Tryz.prog) w t ty T i ht hi g0 0 0 #[] hg ad 0 cap [] aT (fun j u hu=>by simp at hu) (fun u hu=>by simp at hu) af aT;exact⟨_,_,_,h,az.nil _ _ _ _ _ af,by simpa using jZ hg⟩
 ·have hlen:((rs.map cY).flatten).length=len*m:=by rw[dj (fx fun j r hj=>(hm j r hj).1),xR,hr.1]
  obtain⟨ad,rfl,hnews⟩:∃ad,va=some ad/\∀(j:Nat) u,((rs.map cY).flatten)[j]?=some u->w.cell? (ad.add j)=some u:=by
   rcases hr.2.2.2 with h|⟨b,o,rfl,_⟩
   ·subst h;have:=hr.1;simp at this;omega
   ·exact⟨_,rfl,iO hr hm⟩
  have h:=run_append_grow (P:=Tryz.prog) w t ty T i z ht hi hz ⟨g0,0,none⟩ 0 0 [] aT (fun j u hu=>by simp at hu) ad len cap (rs.map cY).flatten (by rw[hsize];exact hlen) hnews af af (growslice_fits af (by rw[hby];have:(0+len)*bytes<=8*1000:=Nat.mul_le_mul af hb8;omega));obtain⟨v',w',hr2,h2,h3,h4⟩:=run_append_own (P:=Tryz.prog) w (base:=0) t ty T i z m bytes ht hi hz hsize hby hzs hsz (.slice (some ⟨g0,0,none⟩) 0 0) 0 [] ⟨by simp,.inr ⟨g0,0,#[],rfl,Nat.zero_le _,hg,xk _,by unfold maxLen;omega,by simp,by simp⟩⟩ ad len cap (rs.map cY).flatten hlen hnews (eA hr hm w (fun _=>True)).one bJ (by have:(0+len)*bytes<=8*1000:=Nat.mul_le_mul af hb8;omega) (Nat.zero_le _);rw[h] at hr2;cases hr2;rw[xL,List.nil_append] at h2;obtain⟨a',c',e,hR⟩:=(eA hr hm _ (fun k=>k=g0\/w.heap.size<=k)).own h2 hr.1.symm hT (fun g hg=>by simp[Value.ownBlock] at hg;exact .inr af);have hbel:Below w.heap.size w (w.drew.alloc (.cells (([]:List Value).toArray++((rs.map cY).flatten).toArray++yS z.cells (grownCap w (0+len) 0 T - (0+len))) T)):=⟨rfl,rfl,rfl,by simp,fun k hk=>heap_alloc_old w.drew _ (by simpa using hk)⟩;rw[hr.1] at e hR;simp only[xL] at e h hbel hR ⊢;cases e;exact⟨_,_,_,h,hR,hbel⟩
theorem jJ {o:Oper} {a:Act} {w:World} {K:Act->World->Prop} {Q:Exit->Act->World->Prop} {g0:Nat} {va:Option Addr} {len cap m bytes:Nat} {rs:List (List Fv)} (s x:Operand) (t T:TypeId) (ho:o.op=.call { callee:=.builtin .append,args:=#[s,x],argTypes:=#[t,t] }) (i:TypeInfo) (z:Value) (ht:Tryz.prog.underlying t=some (.slice T)) (hi:Tryz.prog.info? T=some i) (hz:i.zero=some z) (hsize:i.size=m) (hby:i.bytes=bytes) (hzs:z.cells.size=m) (hsz:0<m) (hT:¬T=9) (hs:a.eval s=.slice (some ⟨g0,0,none⟩) 0 0) (hg:w.heap[g0]?=some (.cells #[] T (0,0)))
  (hx:a.eval x=.slice va len cap) (hr:aF w va len cap m rs) (hm:∀(j:Nat) r,rs[j]?=some r->r.length=m/\en r) (hl:len<=8) (hb8:bytes<=1000)
  (h:∀a' c' w',az w' a' len c' m T rs (fun k=>k=g0\/w.heap.size<=k)->Below w.heap.size w w'->K (a.put o.dst (.slice a' len c')) w'):o.wp Tryz.prog a w K Q:=by
 obtain⟨a',c',w',hrun,h1,h2⟩:=gq t o.type T i z ht hi hz hsize hby hzs hsz hT hg hr hm hl hb8;unfold Oper.wp execOp;simp only[ho,resolve,invoke,builtin,Sem.run_bind,Sem.run_pure,Result.andThen_ok,List.map_toArray,List.map_cons,List.map_nil,hs,hx,hrun];exact h a' c' w' h1 h2

theorem nh {w w':World} {o p:Obj} (h:Below (w.heap.size+1+1) ((w.alloc o).alloc p) w'):w'.heap[w.heap.size]?=some o/\w'.heap[w.heap.size+1]?=some p/\Below w.heap.size w w':=de (by rw[cB,cB];exact h)
theorem eK (w:World) (n:Nat) (hn:w.heap.size=n) (vs:List Value) (T:TypeId):∀(j:Nat) u,vs[j]?=some u->(w.alloc (.cells vs.toArray T)).cell? ((⟨n,0,none⟩:Addr).add j)=some u:=by
 subst hn;exact cG w vs T
theorem wS {w:World} {b:Nat} {T:TypeId} {u0 u1 u2 u3 u4 u5 v0 v1 v2 v3 v4 v5:Value} (h:w.heap[b]?=some (.cells #[u0,u1,u2,u3,u4,u5] T (0,0))):
  ((((((w.setCell ⟨b,0,none⟩ v0).setCell ⟨b,1,none⟩ v1).setCell ⟨b,2,none⟩ v2).setCell ⟨b,3,none⟩ v3).setCell ⟨b,4,none⟩ v4).setCell ⟨b,5,none⟩ v5).heap[b]?=some (.cells #[v0,v1,v2,v3,v4,v5] T (0,0)):=
 au (au (au (au (au (au h v0) v1) v2) v3) v4) v5
theorem dK {w:World} {b k:Nat} {v0 v1 v2 v3 v4 v5:Value} (hk:¬k=b):
  ((((((w.setCell ⟨b,0,none⟩ v0).setCell ⟨b,1,none⟩ v1).setCell ⟨b,2,none⟩ v2).setCell ⟨b,3,none⟩ v3).setCell ⟨b,4,none⟩ v4).setCell ⟨b,5,none⟩ v5).heap[k]?=w.heap[k]?:=by
 rw[xi _ _ _ _ hk,xi _ _ _ _ hk,xi _ _ _ _ hk,xi _ _ _ _ hk,xi _ _ _ _ hk,xi _ _ _ _ hk]
theorem az.jA {w:World} {a:Option Addr} {len cap m:Nat} {T T':TypeId} {rs:List (List Fv)} {S:Nat->Prop} (h:az w a len cap m T rs S) {b:Nat} {cs:Array Value} (hb:w.heap[b]?=some (.cells cs T' (0,0))) (h1:¬T'=T) (h2:¬T'=9):az w a len cap m T rs (fun k=>S k/\¬k=b):=by
 obtain⟨a1,a2,a3,a4⟩:=h;refine⟨a1,a2,a3,a4.imp id ?_⟩;rintro⟨g,cur,H,e,h5⟩;refine⟨g,cur,H,e,h5.blk,⟨h5.inS,fun q=>?_⟩,h5.len,fun j r hj i f hi=>?_,h5.inj⟩
 ·subst q;have:=h5.blk;rw[hb] at this;cases this;exact h1 rfl
 ·obtain⟨v,q1,q2⟩:=h5.cell j r hj i f hi;refine⟨v,q1,?_⟩;cases f with
  | l zs=>
   obtain⟨a',l',c',k1,k2,k3,k4,k5,k6⟩:=q2;refine⟨a',l',c',k1,k2,k3,k4,k5,k6.imp id ?_⟩;rintro⟨z1,z2,z3,cu,z4,z5⟩;refine⟨z1,⟨z2,fun q=>?_⟩,z3,cu,z4,z5⟩;rw[q] at z4;rw[hb] at z4
   cases z4
   exact h2 rfl
  | _=>exact q2
theorem kT {w:World} {base n m:Nat} {T T':TypeId} {v u:Value} {xs:List Value} {b i:Nat} {cs:Array Value} (h:w.ownsRow base T m v n xs) (hb:w.heap[b]?=some (.cells cs T' (0,0))) (hT:¬T'=T):(w.setCell ⟨b,i,none⟩ u).ownsRow base T m v n xs:=by
 refine⟨h.1,h.2.imp id ?_⟩;rintro⟨g,cap,cur,h1,h2,h3,h4⟩;refine⟨g,cap,cur,h1,h2,(xi _ _ _ _ (fun e=>?_)).trans h3,h4⟩;subst e;rw[hb] at h3;cases h3;exact hT rfl
theorem aP.set {w:World} {S:Nat->Prop} {m:Nat} {rs:List (List Fv)} {vss:List (List Value)} {H:Nat->Nat->Nat} (h:aP w S m rs vss H) {b i:Nat} {cs:Array Value} {T':TypeId} {u:Value} (hb:w.heap[b]?=some (.cells cs T' (0,0))) (hT:¬T'=9):aP (w.setCell ⟨b,i,none⟩ u) S m rs vss H:=
 h.aN (fun k cu _ q=>xi _ _ _ _ (fun e=>by subst e;rw[hb] at q;cases q;exact hT rfl)) (fun _ _ s=>s)
theorem aG.kV {S:Nat->Prop} {W w:World} {vb:Option Nat} (hg:W.grownBy w vb) (h:∀g,vb=some g->S g):aG S W w:=⟨hg.os,hg.tape,hg.output,hg.size,fun k hk hn=>hg.block k hk (fun e=>hn (h k e.symm))⟩
theorem aY {w:World} {base n m:Nat} {T:TypeId} {v:Value} {xs:List Value} (h:w.ownsRow base T m v n xs):∃a l c,v=.slice a l c:=by
 rcases h.2 with ⟨rfl,_⟩|⟨g,cap,cur,rfl,_⟩
 ·exact⟨_,_,_,rfl⟩
 ·exact⟨_,_,_,rfl⟩
abbrev Cps (b:Nat) (X:World):Nat->Prop:=fun k=>k=b\/X.heap.size<=k
theorem mV {X wr W w5:World} {b3 k m:Nat} {T TC:TypeId} {v:Value} {xs:List Value} {cs:Array Value} (hO:wr.ownsRow X.heap.size T m v k xs) (hBo:wr.heap[b3]?=some (.cells cs TC (0,0))) (hb3:b3<X.heap.size) (hb:Below wr.heap.size wr W) (hg:W.grownBy w5 v.ownBlock):w5.heap[b3]?=some (.cells cs TC (0,0)):=
 (hg.block b3 (xr (ae hBo) hb.size) (fun e=>by have:=(hO.lt b3 e.symm).1;omega)).trans ((hb.block _ (ae hBo)).trans hBo)
theorem od {X wr W w5:World} {b3 k m f:Nat} {T TC:TypeId} {v v':Value} {rs:List (List Fv)} {vss:List (List Value)} {H:Nat->Nat->Nat} {cs:Array Value} {r:List Fv} {vs:List Value} {hh:Nat} (hK:aG (Cps b3 X) X wr) (hO:wr.ownsRow X.heap.size T m v k vss.flatten) (hV:aP wr (fun k=>X.heap.size<=k) m rs vss H) (hBo:wr.heap[b3]?=some (.cells cs TC (0,0))) (hb3:b3<X.heap.size)
  (hb:Below wr.heap.size wr W) (hown:w5.ownsRow X.heap.size T m v' (k+1) (vss.flatten++vs)) (hg:W.grownBy w5 v.ownBlock) (hT:¬T=9) (hTC:¬TC=T) (hTS:¬TC=9) (hr:r.length=m) (hvs:vs.length=m) (hc:∀(i:Nat) f,r[i]?=some f->∃v,vs[i]?=some v/\f.Fr W hh (fun k=>X.heap.size<=k) v) (hfr:∀(i:Nat) zs,r[i]?=some (.l zs)->zs≠[]->wr.heap.size<=hh)
  (h1:∀(i i':Nat) zs zs',r[i]?=some (.l zs)->zs≠[]->r[i']?=some (.l zs')->zs'≠[]->i=i'):
  aG (Cps b3 X) X (w5.setCell ⟨b3,f,none⟩ v')/\(w5.setCell ⟨b3,f,none⟩ v').ownsRow X.heap.size T m v' (k+1) (vss++[vs]).flatten/\(∃H',aP (w5.setCell ⟨b3,f,none⟩ v') (fun k=>X.heap.size<=k) m (rs++[r]) (vss++[vs]) H')/\(w5.setCell ⟨b3,f,none⟩ v').heap[b3]?=some (.cells (cs.setIfInBounds f v') TC (0,0)):=by
 have hb5:=mV hO hBo hb3 hb hg;refine⟨?_,?_,⟨_,(hV.app hb (br hO hb) hT hg hr hvs hc hfr h1).set hb5 hTS⟩,au hb5 v'⟩
 ·exact ((hK.trans (aG.bh hb)).trans (aG.kV hg (fun g e=>.inr (hO.lt g e).1))).set (.inl rfl)
 ·rw[List.flatten_append];refine kT ?_ hb5 hTC;simpa using hown
structure pe (w:World) (d:Ad) (c:Cr) (S:Nat->Prop):Prop where
 n:az w d.a1 d.l1 d.c1 7 103 c.n S
 k:az w d.a2 d.l2 d.c2 4 111 c.k S
 v:az w d.a3 d.l3 d.c3 8 62 c.v S
 x:az w d.a4 d.l4 d.c4 5 114 c.x S
 p:az w d.a5 d.l5 d.c5 6 105 c.p S
def EmF (B:Nat) (T:TypeId):Fact:=fun v w=> ∃b,v=.slice (some ⟨b,0,none⟩) 0 0/\B<=b/\w.heap[b]?=some (.cells #[] T (0,0))
theorem EmF.mono (B:Nat) (T:TypeId):Fact.bw (EmF B T):=by
 exact kD
def RwF (B len m:Nat) (T:TypeId) (rs:List (List Fv)):Fact:=fun v w=> ∃a c,v=.slice a len c/\az w a len c m T rs (fun k=>B<=k)
theorem RwF.mono (B len m:Nat) (T:TypeId) (rs:List (List Fv)):Fact.bw (RwF B len m T rs):=by
 rintro v w w' ⟨a,c,h1,h2⟩ hb;exact⟨a,c,h1,h2.below hb⟩
def CpF (B l2 l4:Nat) (c:Cl):Fact:=fun v w=> ∃a2 c2 a4 c4,v=.agg #[.slice none 0 0,.slice a2 l2 c2,.slice none 0 0,.slice a4 l4 c4,.slice none 0 0,.int .i64 c.now]/\az w a2 l2 c2 4 111 (c.ks.map kdF) (fun k=>B<=k)/\az w a4 l4 c4 5 114 (c.xs.map xdF) (fun k=>B<=k)
theorem CpF.mono (B l2 l4:Nat) (c:Cl):Fact.bw (CpF B l2 l4 c):=by
 rintro v w w' ⟨a2,c2,a4,c4,h1,h2,h3⟩ hb;exact⟨a2,c2,a4,c4,h1,h2.below hb,h3.below hb⟩
def FrF (B:Nat):Fact:=fun v w=> ∃b,v=.pointer (some ⟨b,0,none⟩)/\B<=b/\w.heap[b]?=some (.cells #[.slice none 0 0,.slice none 0 0,.slice none 0 0,.slice none 0 0,.slice none 0 0,.int .i64 0] 36 (0,0))
theorem FrF.mono (B:Nat):Fact.bw (FrF B):=by
 exact kD

def Rv (vb:Option Nat) (sp:Tmp):Gi.Rs:=fun s w w'=>match s with
 | none=>w.grownBy w' vb
 | some t=>if t=sp then w.grownBy w' vb else Below w.heap.size w w'
theorem di {w w':World} (vb:Option Nat) (h:Below w.heap.size w w'):w.grownBy w' vb:=⟨h.os,h.tape,h.output,h.size,fun k hk _=>h.block k hk⟩
theorem Rv.below {vb:Option Nat} {sp:Tmp} {s:Option Tmp} {w w':World} (h:Rv vb sp s w w') (h1:¬s=none) (h2:¬s=some sp):Below w.heap.size w w':=by
 cases s with
 | none=>exact absurd rfl h1
 | some t=>
  simp only[Rv] at h;rw[if_neg (fun e=>h2 (by rw[e]))] at h;exact h
theorem Rv.rel (vb:Option Nat) (sp:Tmp):Gi.Rel (Rv vb sp) sp:=by
 refine⟨fun w=>di vb (xj _ _),fun {a b c} h k=>?_,fun h=>World.grownBy.size h,fun w=>di vb (xj _ _).drew,fun s {a b} h=>?_,fun s {a b} h1 h2 h=>Rv.below h h1 h2⟩
 ·have h:World.grownBy a b vb:=h;have k:World.grownBy b c vb:=k;exact⟨k.os.trans h.os,k.tape.trans h.tape,k.output.trans h.output,xp h.size k.size,fun i hi hn=>(k.block i (xr hi h.size) hn).trans (h.block i hi hn)⟩
 ·cases s with
  | none=>exact h
  | some t=>
   show World.grownBy a b vb
   simp only[Rv] at h
   split at h
   ·exact h
   ·exact di vb h
theorem Rv.other {vb:Option Nat} {sp t:Tmp} {w w':World} (ht:¬t=sp) (h:Below w.heap.size w w'):Rv vb sp (some t) w w':=by
 show (if t=sp then w.grownBy w' vb else Below w.heap.size w w');rw[if_neg ht];exact h
theorem Rv.this {vb:Option Nat} {sp:Tmp} {w w':World} (h:w.grownBy w' vb):Rv vb sp (some sp) w w':=by
 show (if sp=sp then w.grownBy w' vb else Below w.heap.size w w');rw[if_pos rfl];exact h
theorem ee {w:World} {b:Nat} {vs:List Value} {T:TypeId} (h:w.heap[b]?=some (.cells vs.toArray T (0,0))):∀(j:Nat) u,vs[j]?=some u->w.cell? ((⟨b,0,none⟩:Addr).add j)=some u:=by
 intro j u hu;rw[xB,aD h,xL];simpa using hu
def TvF (B:Nat) (x:Vd):Gi.Fact:=fun u w _ _=> ∃a l c,u=.agg #[.string x.n,.int .i64 x.c,.string x.z,.string x.k,.bool x.x,.string x.m,.bool x.y,.slice a l c]/\bK w a l c x.zs (fun k=>B<=k)
def BsF (B:Nat) (x:Vd):Gi.Fact:=fun u w _ _=> ∃b a l c,u=.slice (some ⟨b,0,none⟩) 1 1/\B<=b/\w.heap[b]?=some (.cells #[.string x.n,.int .i64 x.c,.string x.z,.string x.k,.bool x.x,.string x.m,.bool x.y,.slice a l c] 62 (0,0))/\bK w a l c x.zs (fun k=>B<=k)
def ApF (B k:Nat) (rs:List (List Fv)) (vss:List (List Value)):Gi.Fact:=fun u w _ _=> ∃H' vs,w.ownsRow B 62 8 u (k+1) (vss++[vs]).flatten/\aP w (fun k=>B<=k) 8 rs (vss++[vs]) H'
theorem TvF.mono {vb:Option Nat} {sp:Tmp} {ex:Gi.Ex} {d:Option Tmp} {B:Nat} {x:Vd} (hv:∀g,vb=some g->g<B):Gi.Fact.bw (Rv vb sp) ex d (TvF B x):=by
 rintro s _ _ _ v w w' l h ⟨a,l,c,h1,h2⟩ hb;have hb:w.grownBy w' vb:=(Rv.rel vb sp).sub s hb;exact⟨a,l,c,h1,h2.aN (fun k hk s=>hb.block k hk (fun e=>by have s1:B<=k:=s;have:=hv k e.symm;omega)) (fun _ _ s=>s)⟩
theorem BsF.mono {vb:Option Nat} {sp:Tmp} {ex:Gi.Ex} {d:Option Tmp} {B:Nat} {x:Vd} (hv:∀g,vb=some g->g<B):Gi.Fact.bw (Rv vb sp) ex d (BsF B x):=by
 rintro s _ _ _ v w w' l h ⟨b,a,l,c,h1,h2,h3,h4⟩ hb;have hb:w.grownBy w' vb:=(Rv.rel vb sp).sub s hb;exact⟨b,a,l,c,h1,h2,(hb.block _ (ae h3) (fun e=>by have:=hv b e.symm;omega)).trans h3,h4.aN (fun k hk s=>hb.block k hk (fun e=>by have s1:B<=k:=s;have:=hv k e.symm;omega)) (fun _ _ s=>s)⟩
theorem ApF.mono {vb:Option Nat} {sp:Tmp} {ex:Gi.Ex} {B k:Nat} {rs:List (List Fv)} {vss:List (List Value)} :Gi.Fact.bw (Rv vb sp) ex (some sp) (ApF B k rs vss):=by
 rintro s h1 h2 _ v w w' l h ⟨H',vs,h3,h4⟩ hb;have hb:=Rv.below hb h1 h2;exact⟨H',vs,br h3 hb,h4.below hb⟩

theorem lH (d:Ad) (c:Cl) (w:World) (hr:aK w d c.raw) (hs:Sm c):
  Calls Tryz.prog 20 #[.agg #[.slice d.a1 d.l1 d.c1,.slice d.a2 d.l2 d.c2,.slice d.a3 d.l3 d.c3,.slice d.a4 d.l4 d.c4,.slice d.a5 d.l5 d.c5,.int .i64 c.now]] w fun e w'=> ∃d',e=.returned (.agg #[.slice d'.a1 d'.l1 d'.c1,.slice d'.a2 d'.l2 d'.c2,.slice d'.a3 d'.l3 d'.c3,.slice d'.a4 d'.l4 d'.c4,.slice d'.a5 d'.l5 d'.c5,.int .i64 c.now])/\pe w' d' c.raw (fun k=>w.heap.size<=k)/\Below w.heap.size w w':=by
 obtain⟨a1,l1,y1,a2,l2,y2,a3,l3,y3,a4,l4,y4,a5,l5,y5⟩:=d;dsimp only;obtain⟨HR,hl1,hm1,hl2,hm2,hl3,hm3,hl4,hm4,hl5,hm5⟩:=lP;clear hr;have HS:=aa hs;clear hs;obtain⟨i2,hi2⟩:=xu.1 mF;obtain⟨i4,hi4⟩:=xu.1 mB;obtain⟨i1,hi1⟩:=xu.1 mE;obtain⟨i3,hi3⟩:=xu.1 fP;obtain⟨i5,hi5⟩:=xu.1 mD;have HI1:=aa hi1;have HI2:=aa hi2;have HI3:=aa hi3;have HI4:=aa hi4;have HI5:=aa hi5;clear hi1 hi2 hi3 hi4 hi5;obtain⟨W,hW0⟩:∃W,W=(w.alloc (.cells (clo6 a1 l1 y1 a2 l2 y2 a3 l3 y3 a4 l4 y4 a5 l5 y5 c.now) 36)).alloc (.cells (clo6 none 0 0 none 0 0 none 0 0 none 0 0 none 0 0 0) 36):=⟨_,rfl⟩;have HB:Hid (Below w.heap.size w W):=by rw[hW0];exact aM _ _ _
 have Bk:Hid (W.heap[w.heap.size]?=some (.cells (clo6 a1 l1 y1 a2 l2 y2 a3 l3 y3 a4 l4 y4 a5 l5 y5 c.now) 36 (0,0))):=by rw[hW0];exact cL _ _ _
 obtain⟨Br,hWs⟩:=tK;go_enter Tryz.func20,Tryz.ntmps20;go_wp2_with fail;rw[<-hW0];clear hW0;rename_i K0 hK0;refine aB an rfl rfl an ?_;refine Grow.step (EmF W.heap.size 111) rfl (EmF.mono _ _) ?_ ?_
 ·exact gO
 refine Grow.bf ?_;refine Grow.bT Bk.out ?_;refine Grow.step (RwF W.heap.size l2 4 111 (c.ks.map kdF)) rfl (RwF.mono _ _ _ _ _) ?_ ?_
 ·refine Obl.plain rfl ?_;intro ac wg K hsz hW hf hK;clear hsz;have e9:=hf 9 aj;simp[ak,xg] at e9;have e11:=hf 11 aj;simp[ak,xg] at e11;clear hf;obtain⟨b0,e9,hB0,hg0⟩:=e9;have hz:i2.zero=some (.agg #[.string ⟨#[]⟩,.bool false,.bool false,.string ⟨#[]⟩])/\i2.size=4/\i2.bytes=40:=by have:=HI2.2;simp only[y9] at this;exact this
  refine jJ (.tmp 9) (.tmp 11) 31 111 rfl i2 (.agg #[.string ⟨#[]⟩,.bool false,.bool false,.string ⟨#[]⟩]) Tryz.underlying31 HI2.1 hz.1 hz.2.1 hz.2.2 rfl aj aj (by simpa[Act.eval] using e9) hg0 (by simpa[Act.eval] using e11) (HR.k.below (HB.trans (hW.mono HB.size))) (fp nY _) (show l2<=8 by have:=HS.k;omega) aj ?_;exact rJ
 refine Grow.step (EmF W.heap.size 114) rfl (EmF.mono _ _) ?_ ?_
 ·exact gO
 refine Grow.bf ?_;refine Grow.bT Bk.out ?_;refine Grow.step (RwF W.heap.size l4 5 114 (c.xs.map xdF)) rfl (RwF.mono _ _ _ _ _) ?_ ?_
 ·refine Obl.plain rfl ?_;intro ac wg K hsz hW hf hK;clear hsz;have e13:=hf 13 aj;simp[ak,xg] at e13;have e15:=hf 15 aj;simp[ak,xg] at e15;clear hf;obtain⟨b0,e13,hB0,hg0⟩:=e13;have hz:i4.zero=some (.agg #[.string ⟨#[]⟩,.int .i64 0,.string ⟨#[]⟩,.bool false,.string ⟨#[]⟩])/\i4.size=5/\i4.bytes=64:=by have:=HI4.2;simp only[y9] at this;exact this
  refine jJ (.tmp 13) (.tmp 15) 33 114 rfl i4 (.agg #[.string ⟨#[]⟩,.int .i64 0,.string ⟨#[]⟩,.bool false,.string ⟨#[]⟩]) Tryz.underlying33 HI4.1 hz.1 hz.2.1 hz.2.2 rfl aj aj (by simpa[Act.eval] using e13) hg0 (by simpa[Act.eval] using e15) (HR.x.below (HB.trans (hW.mono HB.size))) (fp mZ _) (show l4<=8 by have:=HS.x;omega) aj ?_;exact rJ
 refine Grow.bf ?_;refine Grow.bT Bk.out ?_;refine Grow.step (CpF W.heap.size l2 l4 c) rfl (CpF.mono _ _ _ _) ?_ ?_
 ·refine Obl.plain rfl ?_;intro ac wg K hsz hW hf hK;clear hsz;have e12:=hf 12 aj;simp[ak,xg] at e12;have e16:=hf 16 aj;simp[ak,xg] at e16;have e18:=hf 18 aj;simp[ak,xg] at e18;clear hf;obtain⟨p2,q2,e12,h12⟩:=e12;obtain⟨p4,q4,e16,h16⟩:=e16;have H12:=aa h12;have H16:=aa h16;clear h12 h16;go_simp;exact hK _ _ (xj _ _) ⟨p2,q2,p4,q4,rfl,H12.out,H16.out⟩
 refine Grow.step (FrF W.heap.size) rfl (FrF.mono _) ?_ ?_
 ·exact gO
 refine Grow.done ?_;intro q wz hW hf;simp only[xH] at hf;obtain⟨⟨b3,h3,hb3,hg3⟩,⟨p2,q2,p4,q4,h19,hR2,hR4⟩,-⟩:=hf;obtain⟨t0,t1,t2,t3,t4,t5⟩:=cs6 hg3;have f0:=aw hg3 0;have f1:=aw hg3 1;have f2:=aw hg3 2;have f3:=aw hg3 3;have f4:=aw hg3 4;have f5:=aw hg3 5;have BoX:=aa (wS (v0:=.slice none 0 0) (v1:=.slice p2 l2 q2) (v2:=.slice none 0 0) (v3:=.slice p4 l4 q4) (v4:=.slice none 0 0) (v5:=.int .i64 c.now) hg3);have HWX:Hid (Below W.heap.size W ((((((wz.setCell ⟨b3,0,none⟩ (.slice none 0 0)).setCell ⟨b3,1,none⟩ (.slice p2 l2 q2)).setCell ⟨b3,2,none⟩ (.slice none 0 0)).setCell ⟨b3,3,none⟩ (.slice p4 l4 q4)).setCell ⟨b3,4,none⟩ (.slice none 0 0)).setCell ⟨b3,5,none⟩ (.int .i64 c.now))):=ah hb3 (ah hb3 (ah hb3 (ah hb3 (ah hb3 (ah hb3 hW)))));have R2:Hid (az ((((((wz.setCell ⟨b3,0,none⟩ (.slice none 0 0)).setCell ⟨b3,1,none⟩ (.slice p2 l2 q2)).setCell ⟨b3,2,none⟩ (.slice none 0 0)).setCell ⟨b3,3,none⟩ (.slice p4 l4 q4)).setCell ⟨b3,4,none⟩ (.slice none 0 0)).setCell ⟨b3,5,none⟩ (.int .i64 c.now)) p2 l2 q2 4 111 (c.ks.map kdF) (fun k=>W.heap.size<=k/\¬k=b3)):=(hR2.jA hg3 aj aj).aN (fun k hk s=>dK s.2) (fun k _ s=>s);have R4:Hid (az ((((((wz.setCell ⟨b3,0,none⟩ (.slice none 0 0)).setCell ⟨b3,1,none⟩ (.slice p2 l2 q2)).setCell ⟨b3,2,none⟩ (.slice none 0 0)).setCell ⟨b3,3,none⟩ (.slice p4 l4 q4)).setCell ⟨b3,4,none⟩ (.slice none 0 0)).setCell ⟨b3,5,none⟩ (.int .i64 c.now)) p4 l4 q4 5 114 (c.xs.map xdF) (fun k=>W.heap.size<=k/\¬k=b3)):=(hR4.jA hg3 aj aj).aN (fun k hk s=>dK s.2) (fun k _ s=>s);clear hg3 hR2 hR4 hW;intro K hK;rw[if_pos (by rfl)];simp only[aI,yo,yx,xx,xG,xK,h3,h19];simp only[yg];go_simp;refine hK _ _ ?_;refine hK0 _ _ ?_;clear hK hK0 K K0;generalize ((((((wz.setCell ⟨b3,0,none⟩ (.slice none 0 0)).setCell ⟨b3,1,none⟩ (.slice p2 l2 q2)).setCell ⟨b3,2,none⟩ (.slice none 0 0)).setCell ⟨b3,3,none⟩ (.slice p4 l4 q4)).setCell ⟨b3,4,none⟩ (.slice none 0 0)).setCell ⟨b3,5,none⟩ (.int .i64 c.now))=X at BoX HWX R2 R4 ⊢;clear t0 t1 t2 t3 t4 t5 f0 f1 f2 f3 f4 f5;have HBX:=aa (HB.trans (HWX.mono HB.size));replace Bk:=aa ((HWX.block _ (ae Bk.out)).trans Bk.out);replace Br:=aa ((HWX.block _ (ae Br.out)).trans Br.out);have hb3X:=ae BoX.out;clear HB;go_wp2;go_loopw [4] (fun vi wr=> ∃(k:Nat) (vss:List (List Value)) (H:Nat->Nat->Nat) (v:Value),k<=l1/\vi=.int .i64 k/\Hid (aG (Cps b3 X) X wr)/\Hid (wr.ownsRow X.heap.size 103 7 v k vss.flatten)/\Hid (aP wr (fun k=>X.heap.size<=k) 7 ((c.ns.take k).map ndF) vss H)/\Hid (wr.heap[b3]?=some (.cells #[v,.slice p2 l2 q2,.slice none 0 0,.slice p4 l4 q4,.slice none 0 0,.int .i64 c.now] 36 (0,0)))) (fun vi _=>l1 - (intOf vi).toNat);case atStart=>exact⟨0,[],fun _ _=>0,.slice none 0 0,by omega,rfl,aG.refl _ _,yq _ _ _ _,aP.nil _ _ _ _,BoX⟩
 case round=>
  obtain⟨k,vss,H,v,hk,rfl,HK,HO,HV,Bo⟩:=hrel;obtain⟨hXs,HBW,BkR,hKs⟩:=qd;by_cases hlt:k<l1
  ·obtain⟨b,o,x,rfl,hb0,hx,hat⟩:=bU HR.n hlt;obtain⟨va,vl,vc,hvr,z0,z1,c0,c1,c2,c3,c4,c5,c6⟩:=aQ hat;have hz8:vl<=8001:=by have h1:=hvr.1;have h2:=HS.ns k x hx;omega
   have HX:=aa hx;have HT:=aa hvr;have HZz0:=aa z0;have HZz1:=aa z1;clear hat hx hvr z0 z1;replace c0:=(ai HBW.out hb0).trans c0;replace c1:=(ai HBW.out hb0).trans c1;replace c2:=(ai HBW.out hb0).trans c2;replace c3:=(ai HBW.out hb0).trans c3;replace c4:=(ai HBW.out hb0).trans c4;replace c5:=(ai HBW.out hb0).trans c5;replace c6:=(ai HBW.out hb0).trans c6;have hbr:=xr hb0 HBW.size;have hkr:=ae BkR.out;have hor:=ae Bo.out;have hz:i1.zero=some (.agg #[.string ⟨#[]⟩,.string ⟨#[]⟩,.int .i64 0,.int .i64 0,.int .i64 0,.bool false,.slice none 0 0])/\i1.size=7/\i1.bytes=88:=by have:=HI1.2;simp only[y9] at this;exact this
   obtain⟨k0,k1,k2,k3,k4,k5⟩:=cs6 BkR;go_wp2_with (first|(at_builtin;refine eS rfl _ _ rfl (wr.heap.size+1) rfl (bV _ _ _) va vl vc rfl x.zs (HT.below (HBW.trans ((aM _ _ _).mono HBW.size))) hz8 ?_));intro a' l' c' w2 hT2 hb2;obtain⟨hn2,-,hbx⟩:=nh hb2;obtain⟨g,hg⟩:=hT2.fr;obtain⟨hs2,hsl⟩:=tE;have hb4:Below wr.heap.size wr ((w2.setCell ⟨wr.heap.size,6,none⟩ (.slice a' l' c')).alloc (.cells (nov x a' l' c') 103)):=(ah (xk _) hbx).alloc iy _;have HF4:Hid (LFr ((w2.setCell ⟨wr.heap.size,6,none⟩ (.slice a' l' c')).alloc (.cells (nov x a' l' c') 103)) g (fun k=>X.heap.size<=k) x.zs (.slice a' l' c')):=hg.aN (fun cu _ q=>(xM _ _ _ (by simp[xZ];exact ae q)).trans (xi _ _ _ _ (fun e=>by subst e;rw[hn2] at q;cases q))) (fun _ s=>by have:=hsl _ s;show X.heap.size<=g;omega);obtain⟨HG,HB4,HO4⟩:=tC;obtain⟨n0,n1,n2,n3,n4,n5,n6⟩:=cs7 hn2;have fn3:=aw hn2 3;have fn6:=aw hn2 6;have bo2:=(hbx.block _ hor).trans Bo.out;obtain⟨o0,o1,o2,o3,o4,o5⟩:=cs6 bo2;clear hn2 hbx hT2 hg hb2 hsl hb4 bo2 k0 k1 k2 k3 k4 k5 c0 c1 c2 c3 c4 c5 c6;go_wp2_with (first|(at_builtin;refine wpList_append_own _ rfl _ _ 30 rfl X.heap.size 103 i1 (.agg #[.string ⟨#[]⟩,.string ⟨#[]⟩,.int .i64 0,.int .i64 0,.int .i64 0,.bool false,.slice none 0 0]) 7 88 Tryz.underlying30 HI1.1 hz.1 hz.2.1 hz.2.2 rfl aj _ _ _ rfl HO4.out ⟨w2.heap.size,0,none⟩ 1 1 [.string x.n,.string x.z,.int .i64 x.c,.int .i64 x.s,.int .i64 x.u,.bool x.d,.slice a' l' c'] rfl rfl ?c1 ?c2 ?c3 ?c4 ?c5 ?_));case c1=>exact eK _ _ (by simp[xZ]) _ _
   case c2=>intro u hu;simp only[xV,yu,or_false] at hu;rcases hu with rfl|rfl|rfl|rfl|rfl|rfl|rfl <;> rfl
   case c3=>unfold maxLen;have:=HS.n;omega
   case c4=>have:=HS.n;omega
   case c5=>simp[xZ];omega
   rintro v' w5 hown5 hgrow -;obtain⟨v1',v2',v3',rfl⟩:=aY hown5;clear n0 n1 n2 n3 fn3 n4 n5 n6 fn6 o0 o1 o2 o3 o4 o5;have bo5:=mV HO.out Bo.out hb3X HB4.out hgrow;obtain⟨hs1,hs2',⟨H',hs3⟩,hs4⟩:=od (f:=0) (r:=ndF x) (vs:=[.string x.n,.string x.z,.int .i64 x.c,.int .i64 x.s,.int .i64 x.u,.bool x.d,.slice a' l' c']) (hh:=g) HK.out HO.out HV.out Bo.out hb3X HB4.out hown5 hgrow aj aj aj rfl rfl (vg HZz0.out HZz1.out HF4.out) (fun i zs hi hz=>HG.out zs (oG hi).2.symm hz) (fun i i' zs zs' h1 _ h2 _=>(oG h1).1.trans (oG h2).1.symm);have e1:(c.ns.take (k+1)).map ndF=(c.ns.take k).map ndF++[ndF x]:=by rw[yb,HX.out];simp
   exact uP
  ·have hkl:k=l1:=af
   have h5:=HV.out;rw[xw af] at h5;obtain⟨p1,q1,hv,hR⟩:=h5.own HO.out bX aj (fun g hg=>(HO.lt g hg).1);have hl5:(c.ns.map ndF).length=l1:=by simpa using hl1
   rw[hl5] at hv hR;subst hv;have R1:=aa (hR.jA Bo.out aj aj);replace R2:=aa (R2.aN (fun k hk s=>HK.block k hk (fun q9=>by rcases q9 with q9|q9;exact s.2 q9;omega)) (fun _ _ s=>s));replace R4:=aa (R4.aN (fun k hk s=>HK.block k hk (fun q9=>by rcases q9 with q9|q9;exact s.2 q9;omega)) (fun _ _ s=>s));replace Br:=aa ((HK.block (w.heap.size+1) af (fun s=>by rcases s with s|s <;> omega)).trans Br.out);replace Bk:=BkR;replace BoX:=Bo;replace HBX:=HBW;have hb3X1:=ae BoX.out;clear BkR Bo HBW h5 hR HV HO HK hl5 hkl hk hKs hXs;generalize wr=X1 at*;obtain⟨k0,k1,k2,k3,k4,k5⟩:=cs6 Bk;go_wp2;clear k0 k1 k2 k3 k4 k5 hlt;go_loopw [6] (fun vi wr=> ∃(k:Nat) (vss:List (List Value)) (H:Nat->Nat->Nat) (v:Value),k<=l3/\vi=.int .i64 k/\Hid (aG (Cps b3 X1) X1 wr)/\Hid (wr.ownsRow X1.heap.size 62 8 v k vss.flatten)/\Hid (aP wr (fun k=>X1.heap.size<=k) 8 ((c.vs.take k).map vdF) vss H)/\Hid (wr.heap[b3]?=some (.cells #[.slice p1 l1 q1,.slice p2 l2 q2,v,.slice p4 l4 q4,.slice none 0 0,.int .i64 c.now] 36 (0,0)))) (fun vi _=>l3 - (intOf vi).toNat);case atStart=>exact⟨0,[],fun _ _=>0,.slice none 0 0,by omega,rfl,aG.refl _ _,yq _ _ _ _,aP.nil _ _ _ _,BoX⟩
   case round=>
    obtain⟨k,vss,H,v,hk,rfl,HK,HO,HV,Bo⟩:=hrel;obtain⟨hXs,HBW,BkR,hKs⟩:=qd;by_cases hlt:k<l3
    ·obtain⟨b,o,x,rfl,hb0,hx,hat⟩:=bq HR.v hlt;obtain⟨va,vl,vc,hvr,z0,z2,z3,z5,c0,c1,c2,c3,c4,c5,c6,c7⟩:=aE hat;have hz8:vl<=8001:=by have h1:=hvr.1;have h2:=HS.vs k x hx;omega
     have HX:=aa hx;have HT:=aa hvr;have HZz0:=aa z0;have HZz2:=aa z2;have HZz3:=aa z3;have HZz5:=aa z5;clear hat hx hvr z0 z2 z3 z5;replace c0:=(ai HBW.out hb0).trans c0;replace c1:=(ai HBW.out hb0).trans c1;replace c2:=(ai HBW.out hb0).trans c2;replace c3:=(ai HBW.out hb0).trans c3;replace c4:=(ai HBW.out hb0).trans c4;replace c5:=(ai HBW.out hb0).trans c5;replace c6:=(ai HBW.out hb0).trans c6;replace c7:=(ai HBW.out hb0).trans c7;have hbr:=xr hb0 HBW.size;have hkr:=ae BkR.out;have hor:=ae Bo.out;have hz:i3.zero=some (.agg #[.string ⟨#[]⟩,.int .i64 0,.string ⟨#[]⟩,.string ⟨#[]⟩,.bool false,.string ⟨#[]⟩,.bool false,.slice none 0 0])/\i3.size=8/\i3.bytes=112:=by have:=HI3.2;simp only[y9] at this;exact this
     obtain⟨k0,k1,k2,k3,k4,k5⟩:=cs6 BkR;have hvb:=fun g hg=>(HO.lt g hg).2;go_wp2_with fail;clear k0 k1 k2 k3 k4 k5;rename_i K0 hK0;refine Gi.aB (R:=Rv v.ownBlock 59) (ex:=fun _=>none) (Rv.rel _ _) an rfl rfl an an ?_;refine' Gi.Grow.ar _ rfl ?_ ?_;rotate_left 1
     ·exact qT
     refine' Gi.Grow.ar _ rfl ?_ ?_;rotate_left 1
     ·refine Gi.Obl.plain rfl ?_;intro ac wg K lo hi hsz hW hpr hf hap hK;clear hsz hap hpr;have hW:wr.grownBy wg v.ownBlock:=hW;have e50:=hf 50 aj;simp[Gi.ak,xg] at e50;clear hf;obtain⟨o0,o1,o2,o3,o4,o5⟩:=cs6 ((hW.block b3 hor (fun e=>by have:=(HO.lt _ e.symm).1;omega)).trans Bo.out);exact gN
     refine' Gi.Grow.ar _ rfl ?_ ?_;rotate_left 1
     ·refine Gi.Obl.plain rfl ?_;intro ac wg K lo hi hsz hW hpr hf hap hK;clear hsz hap hpr;have hW:wr.grownBy wg v.ownBlock:=hW;have e1:=hf 1 aj;simp[Gi.ak,xg] at e1;clear hf;exact gN
     refine' Gi.Grow.ar _ rfl ?_ ?_;rotate_left 1
     ·refine Gi.Obl.plain rfl ?_;intro ac wg K lo hi hsz hW hpr hf hap hK;clear hsz hap hpr;have hW:wr.grownBy wg v.ownBlock:=hW;have e52:=hf 52 aj;simp[Gi.ak,xg] at e52;clear hf;obtain⟨k0,k1,k2,k3,k4,k5⟩:=cs6 ((hW.block w.heap.size hkr (fun e=>by have:=(HO.lt _ e.symm).1;omega)).trans BkR.out);exact gN
     refine' Gi.Grow.ar _ rfl ?_ ?_;rotate_left 1
     ·refine Gi.Obl.plain rfl ?_;intro ac wg K lo hi hsz hW hpr hf hap hK;clear hsz hap hpr;have hW:wr.grownBy wg v.ownBlock:=hW;have e6:=hf 6 aj;simp[Gi.ak,xg] at e6;clear hf;exact gN
     refine' Gi.Grow.ar _ rfl ?_ ?_;rotate_left 1
     ·refine Gi.Obl.plain rfl ?_;intro ac wg K lo hi hsz hW hpr hf hap hK;clear hsz hap hpr;have hW:wr.grownBy wg v.ownBlock:=hW;have e53:=hf 53 aj;simp[Gi.ak,xg] at e53;have e54:=hf 54 aj;simp[Gi.ak,xg] at e54;clear hf;exact gN
     refine' Gi.Grow.ar _ rfl ?_ ?_;rotate_left 1
     ·refine Gi.Obl.plain rfl ?_;intro ac wg K lo hi hsz hW hpr hf hap hK;clear hsz hap hpr;have hW:wr.grownBy wg v.ownBlock:=hW;have e55:=hf 55 aj;simp[Gi.ak,xg] at e55;clear hf;have c0g:=(yr (hW.block b hbr (fun e=>by have:=(HO.lt _ e.symm).1;omega))).trans c0;have c1g:=(yr (hW.block b hbr (fun e=>by have:=(HO.lt _ e.symm).1;omega))).trans c1;have c2g:=(yr (hW.block b hbr (fun e=>by have:=(HO.lt _ e.symm).1;omega))).trans c2;have c3g:=(yr (hW.block b hbr (fun e=>by have:=(HO.lt _ e.symm).1;omega))).trans c3;have c4g:=(yr (hW.block b hbr (fun e=>by have:=(HO.lt _ e.symm).1;omega))).trans c4;have c5g:=(yr (hW.block b hbr (fun e=>by have:=(HO.lt _ e.symm).1;omega))).trans c5;have c6g:=(yr (hW.block b hbr (fun e=>by have:=(HO.lt _ e.symm).1;omega))).trans c6;have c7g:=(yr (hW.block b hbr (fun e=>by have:=(HO.lt _ e.symm).1;omega))).trans c7;exact gN
     refine Gi.Grow.step (TvF wr.heap.size x) rfl (TvF.mono hvb) ?_ ?_
     ·refine Gi.Obl.plain rfl ?_;intro ac wg K lo hi hsz hW hpr hf hap hK;clear hsz hap hpr;have hW:wr.grownBy wg v.ownBlock:=hW;have e56:=hf 56 aj;simp[Gi.ak,xg] at e56;clear hf;have hBg:=HBW.grown hW HBW.size (fun g hg=>by have:=(HO.lt g hg).1;omega);go_simp;refine (Ap.vV x.n x.c x.z x.k x.x x.m x.y va vl vc x.zs _ (HT.below hBg) hz8).mono ?_;rintro e w6 ⟨a',l',c',rfl,ho1,ho2,hb6⟩;have hws:=hW.size;exact hK _ _ (Rv.other aj hb6) ⟨a',l',c',rfl,bK.dX ⟨ho1,ho2⟩ (fun k _ s=>xp hws s)⟩
     refine Gi.Grow.step (BsF wr.heap.size x) rfl (BsF.mono hvb) ?_ ?_
     ·refine Gi.Obl.plain rfl ?_;intro ac wg K lo hi hsz hW hpr hf hap hK;clear hsz hap hpr;have hW:wr.grownBy wg v.ownBlock:=hW;have e57:=hf 57 aj;simp[Gi.ak,xg] at e57;clear hf;obtain⟨a',l',c',e57,ho⟩:=e57;have HO7:=aa ho;clear ho;go_simp;exact hK _ _ (Rv.other aj (al _ _)) ⟨_,a',l',c',rfl,hW.size,xt,HO7.below (al _ _)⟩
     refine Gi.Grow.step (ApF X1.heap.size k ((c.vs.take (k+1)).map vdF) vss) rfl (ApF.mono) ?_ ?_
     ·refine Gi.Obl.plain rfl ?_;intro ac wg K lo hi hsz hW hpr hf hap hK;clear hsz hap;have hW:wr.grownBy wg v.ownBlock:=hW;have e51:=hf 51 aj;simp[Gi.ak,xg] at e51;have e58:=hf 58 aj;simp[Gi.ak,xg] at e58;clear hf;have hbW:=hpr rfl;clear hpr;obtain⟨b5,a',l',c',e58,hb5,hg5,ho5⟩:=e58;obtain⟨g,hg⟩:=ho5.fr;have hws:=hW.size;refine wp_append_own wg (.tmp 51) (.tmp 58) 32 rfl X1.heap.size 62 i3 (.agg #[.string ⟨#[]⟩,.int .i64 0,.string ⟨#[]⟩,.string ⟨#[]⟩,.bool false,.string ⟨#[]⟩,.bool false,.slice none 0 0]) 8 112 Tryz.underlying32 HI3.1 hz.1 hz.2.1 hz.2.2 rfl aj v k vss.flatten (by simpa[Act.eval] using e51) (br HO.out hbW) ⟨b5,0,none⟩ 1 1 [.string x.n,.int .i64 x.c,.string x.z,.string x.k,.bool x.x,.string x.m,.bool x.y,.slice a' l' c'] (by simpa[Act.eval] using e58) rfl (ee hg5) (by intro u hu;simp only[xV,yu,or_false] at hu;rcases hu with rfl|rfl|rfl|rfl|rfl|rfl|rfl|rfl <;> rfl) (by unfold maxLen;have:=HS.v;omega) (by have:=HS.v;omega) af ?_;intro v' w' hown hgr _;have hV:=HV.app (r:=vdF x) (vs:=[.string x.n,.int .i64 x.c,.string x.z,.string x.k,.bool x.x,.string x.m,.bool x.y,.slice a' l' c']) (hh:=g) hbW (br HO.out hbW) aj hgr rfl rfl (pt HZz0.out HZz2.out HZz3.out HZz5.out (hg.aN (S':=fun k=>X1.heap.size<=k) (fun cu _ q=>rfl) (fun _ s=>by have s1:wr.heap.size<=g:=s;show X1.heap.size<=g;omega))) (fun i zs hi hz=>by obtain⟨_,rfl⟩:=oq hi;exact (hg.lt hz).1) (fun i i' zs zs' h1 _ h2 _=>(oq h1).1.trans (oq h2).1.symm);have e1:(c.vs.take (k+1)).map vdF=(c.vs.take k).map vdF++[vdF x]:=by rw[yb,HX.out];simp
      rw[<-e1] at hV;exact hK _ _ (Rv.this hgr) ⟨_,[.string x.n,.int .i64 x.c,.string x.z,.string x.k,.bool x.x,.string x.m,.bool x.y,.slice a' l' c'],by rw[List.flatten_append];simpa using hown,hV⟩
     refine' Gi.Grow.ar _ rfl ?_ ?_;rotate_left 1
     ·exact qT
     refine Gi.Grow.done ?_;intro q wz lo hi hW hf hap;clear hap;have hW:wr.grownBy wz v.ownBlock:=hW;simp only[xH] at hf;obtain⟨h60,h59,-⟩:=hf;have h60:=h60 bA;obtain⟨H',vs',hs2,hs3⟩:=h59 bA;obtain⟨v',hv'⟩:∃v',q 59=v':=⟨_,rfl⟩;rw[hv'] at hs2;obtain⟨v1',v2',v3',rfl⟩:=aY hs2;have bo5:=(hW.block b3 hor (fun e=>by have:=(HO.lt _ e.symm).1;omega)).trans Bo.out;have HS1:=aa (((HK.trans (aG.kV hW (fun g e=>.inr (HO.lt g e).1))).set (i:=2) (v:=.slice v1' v2' v3') (.inl rfl)));have HS2:=aa (kT (i:=2) (u:=.slice v1' v2' v3') hs2 bo5 aj);have HS3:=aa (hs3.set (i:=2) (u:=.slice v1' v2' v3') bo5 aj);have HS4:=aa (au (i:=2) bo5 (.slice v1' v2' v3'));obtain⟨o0,o1,o2,o3,o4,o5⟩:=cs6 bo5;have fo0:=aw bo5 0;have fo2:=aw bo5 2;have fo4:=aw bo5 4;clear bo5 hs2 hs3 hW c0 c1 c2 c3 c4 c5 c6 c7;intro K hK;rw[if_pos (by rfl)];simp only[Gi.aI,yo,yx,xx,xG,xK,h60,hv'];simp only[yg];go_simp;refine hK _ _ ?_;refine hK0 _ _ ?_;clear hK hK0 K K0;go_wp2;exact⟨⟨k+1,_,H',_,by omega,by go_num,HS1,HS2,HS3,HS4⟩,by simp[intOf];omega⟩
    ·have hkl:k=l3:=af
     have h5:=HV.out;rw[xw af] at h5;obtain⟨p3,q3,hv,hR⟩:=h5.own HO.out bX aj (fun g hg=>(HO.lt g hg).1);have hl5:(c.vs.map vdF).length=l3:=by simpa using hl3
     rw[hl5] at hv hR;subst hv;have R3:=aa (hR.jA Bo.out aj aj);replace R2:=aa (R2.aN (fun k hk s=>HK.block k hk (fun q9=>by rcases q9 with q9|q9;exact s.2 q9;omega)) (fun _ _ s=>s));replace R4:=aa (R4.aN (fun k hk s=>HK.block k hk (fun q9=>by rcases q9 with q9|q9;exact s.2 q9;omega)) (fun _ _ s=>s));replace R1:=aa (R1.aN (fun k hk s=>HK.block k hk (fun q9=>by rcases q9 with q9|q9;exact s.2 q9;omega)) (fun _ _ s=>s));replace Br:=aa ((HK.block (w.heap.size+1) af (fun s=>by rcases s with s|s <;> omega)).trans Br.out);replace Bk:=BkR;replace BoX:=Bo;replace HBX:=HBW;have hb3X2:=ae BoX.out;clear BkR Bo HBW h5 hR HV HO HK hl5 hkl hk hKs hXs;generalize wr=X2 at*;obtain⟨k0,k1,k2,k3,k4,k5⟩:=cs6 Bk;go_wp2;clear k0 k1 k2 k3 k4 k5 hlt;go_loopw [7] (fun vi wr=> ∃(k:Nat) (vss:List (List Value)) (H:Nat->Nat->Nat) (v:Value),k<=l5/\vi=.int .i64 k/\Hid (aG (Cps b3 X2) X2 wr)/\Hid (wr.ownsRow X2.heap.size 105 6 v k vss.flatten)/\Hid (aP wr (fun k=>X2.heap.size<=k) 6 ((c.ps.take k).map pdF) vss H)/\Hid (wr.heap[b3]?=some (.cells #[.slice p1 l1 q1,.slice p2 l2 q2,.slice p3 l3 q3,.slice p4 l4 q4,v,.int .i64 c.now] 36 (0,0)))) (fun vi _=>l5 - (intOf vi).toNat);case atStart=>exact⟨0,[],fun _ _=>0,.slice none 0 0,by omega,rfl,aG.refl _ _,yq _ _ _ _,aP.nil _ _ _ _,BoX⟩
     case round=>
      obtain⟨k,vss,H,v,hk,rfl,HK,HO,HV,Bo⟩:=hrel;obtain⟨hXs,HBW,BkR,hKs⟩:=qd;by_cases hlt:k<l5
      ·obtain⟨b,o,x,rfl,hb0,hx,hat⟩:=cj HR.p hlt;obtain⟨va,vl,vc,hvr,z0,z2,z4,c0,c1,c2,c3,c4,c5⟩:=aS hat;have hz8:vl<=8001:=by have h1:=hvr.1;have h2:=HS.ps k x hx;omega
       have HX:=aa hx;have HT:=aa hvr;have HZz0:=aa z0;have HZz2:=aa z2;have HZz4:=aa z4;clear hat hx hvr z0 z2 z4;replace c0:=(ai HBW.out hb0).trans c0;replace c1:=(ai HBW.out hb0).trans c1;replace c2:=(ai HBW.out hb0).trans c2;replace c3:=(ai HBW.out hb0).trans c3;replace c4:=(ai HBW.out hb0).trans c4;replace c5:=(ai HBW.out hb0).trans c5;have hbr:=xr hb0 HBW.size;have hkr:=ae BkR.out;have hor:=ae Bo.out;have hz:i5.zero=some (.agg #[.string ⟨#[]⟩,.int .i64 0,.string ⟨#[]⟩,.slice none 0 0,.string ⟨#[]⟩,.int .i64 0])/\i5.size=6/\i5.bytes=88:=by have:=HI5.2;simp only[y9] at this;exact this
       obtain⟨k0,k1,k2,k3,k4,k5⟩:=cs6 BkR;go_wp2_with (first|(at_builtin;refine eS rfl _ _ rfl (wr.heap.size+1) rfl (bV _ _ _) va vl vc rfl x.zs (HT.below (HBW.trans ((aM _ _ _).mono HBW.size))) hz8 ?_));intro a' l' c' w2 hT2 hb2;obtain⟨hn2,-,hbx⟩:=nh hb2;obtain⟨g,hg⟩:=hT2.fr;obtain⟨hs2,hsl⟩:=tE;have hb4:Below wr.heap.size wr ((w2.setCell ⟨wr.heap.size,3,none⟩ (.slice a' l' c')).alloc (.cells (pov x a' l' c') 105)):=(ah (xk _) hbx).alloc iy _;have HF4:Hid (LFr ((w2.setCell ⟨wr.heap.size,3,none⟩ (.slice a' l' c')).alloc (.cells (pov x a' l' c') 105)) g (fun k=>X2.heap.size<=k) x.zs (.slice a' l' c')):=hg.aN (fun cu _ q=>(xM _ _ _ (by simp[xZ];exact ae q)).trans (xi _ _ _ _ (fun e=>by subst e;rw[hn2] at q;cases q))) (fun _ s=>by have:=hsl _ s;show X2.heap.size<=g;omega);obtain⟨HG,HB4,HO4⟩:=tC;obtain⟨n0,n1,n2,n3,n4,n5⟩:=cs6 hn2;have fn3:=aw hn2 3;have bo2:=(hbx.block _ hor).trans Bo.out;obtain⟨o0,o1,o2,o3,o4,o5⟩:=cs6 bo2;clear hn2 hbx hT2 hg hb2 hsl hb4 bo2 k0 k1 k2 k3 k4 k5 c0 c1 c2 c3 c4 c5;go_wp2_with (first|(at_builtin;refine wpList_append_own _ rfl _ _ 34 rfl X2.heap.size 105 i5 (.agg #[.string ⟨#[]⟩,.int .i64 0,.string ⟨#[]⟩,.slice none 0 0,.string ⟨#[]⟩,.int .i64 0]) 6 88 Tryz.underlying34 HI5.1 hz.1 hz.2.1 hz.2.2 rfl aj _ _ _ rfl HO4.out ⟨w2.heap.size,0,none⟩ 1 1 [.string x.n,.int .i64 x.c,.string x.z,.slice a' l' c',.string x.d,.int .i64 x.p] rfl rfl ?c1 ?c2 ?c3 ?c4 ?c5 ?_));case c1=>exact eK _ _ (by simp[xZ]) _ _
       case c2=>intro u hu;simp only[xV,yu,or_false] at hu;rcases hu with rfl|rfl|rfl|rfl|rfl|rfl <;> rfl
       case c3=>unfold maxLen;have:=HS.p;omega
       case c4=>have:=HS.p;omega
       case c5=>simp[xZ];omega
       rintro v' w5 hown5 hgrow -;obtain⟨v1',v2',v3',rfl⟩:=aY hown5;clear n0 n1 n2 n3 fn3 n4 n5 o0 o1 o2 o3 o4 o5;have bo5:=mV HO.out Bo.out hb3X2 HB4.out hgrow;obtain⟨hs1,hs2',⟨H',hs3⟩,hs4⟩:=od (f:=4) (r:=pdF x) (vs:=[.string x.n,.int .i64 x.c,.string x.z,.slice a' l' c',.string x.d,.int .i64 x.p]) (hh:=g) HK.out HO.out HV.out Bo.out hb3X2 HB4.out hown5 hgrow aj aj aj rfl rfl (vf HZz0.out HZz2.out HZz4.out HF4.out) (fun i zs hi hz=>HG.out zs (oD hi).2.symm hz) (fun i i' zs zs' h1 _ h2 _=>(oD h1).1.trans (oD h2).1.symm);have e1:(c.ps.take (k+1)).map pdF=(c.ps.take k).map pdF++[pdF x]:=by rw[yb,HX.out];simp
       exact uP
      ·have hkl:k=l5:=af
       have h5:=HV.out;rw[xw af] at h5;obtain⟨p5,q5,hv,hR⟩:=h5.own HO.out bX aj (fun g hg=>(HO.lt g hg).1);have hl5:(c.ps.map pdF).length=l5:=by simpa using hl5
       rw[hl5] at hv hR;subst hv;have R5:=aa (hR.jA Bo.out aj aj);replace R2:=aa (R2.aN (fun k hk s=>HK.block k hk (fun q9=>by rcases q9 with q9|q9;exact s.2 q9;omega)) (fun _ _ s=>s));replace R4:=aa (R4.aN (fun k hk s=>HK.block k hk (fun q9=>by rcases q9 with q9|q9;exact s.2 q9;omega)) (fun _ _ s=>s));replace R1:=aa (R1.aN (fun k hk s=>HK.block k hk (fun q9=>by rcases q9 with q9|q9;exact s.2 q9;omega)) (fun _ _ s=>s));replace R3:=aa (R3.aN (fun k hk s=>HK.block k hk (fun q9=>by rcases q9 with q9|q9;exact s.2 q9;omega)) (fun _ _ s=>s));replace Br:=aa ((HK.block (w.heap.size+1) af (fun s=>by rcases s with s|s <;> omega)).trans Br.out);replace Bk:=BkR;replace BoX:=Bo;replace HBX:=HBW;clear BkR Bo HBW h5 hR HV HO HK hl5 hkl hk hKs hXs;generalize wr=X3 at*;obtain⟨k0,k1,k2,k3,k4,k5⟩:=cs6 Bk;obtain⟨o0,o1,o2,o3,o4,o5⟩:=cs6 BoX;obtain⟨r0,r1,r2,r3,r4,r5⟩:=cs6 Br;have hXs:=HBX.size;obtain⟨fr0,fr1,fr2,fr3,fr4,fr5⟩:=iC;go_wp2;refine bodyPost_ret (v:=.agg #[.slice p1 l1 q1,.slice p2 l2 q2,.slice p3 l3 q3,.slice p4 l4 q4,.slice p5 l5 q5,.int .i64 c.now]) (by simp[results,Tryz.results20,go_sem, *]) rfl ⟨⟨p1,l1,q1,p2,l2,q2,p3,l3,q3,p4,l4,q4,p5,l5,q5⟩,rfl,⟨?_,?_,?_,?_,?_⟩,sb1 (sb1 (sb1 (sb1 (sb1 (sb1 (HBX.out))))))⟩
       ·exact (R1.aN (S':=fun k=>w.heap.size<=k) (fun k hk s=>dK (by have s1:X.heap.size<=k:=s.1;omega)) (fun k _ s=>by have s1:X.heap.size<=k:=s.1;show w.heap.size<=k;omega))
       ·exact (R2.aN (S':=fun k=>w.heap.size<=k) (fun k hk s=>dK (by have s1:W.heap.size<=k:=s.1;omega)) (fun k _ s=>by have s1:W.heap.size<=k:=s.1;show w.heap.size<=k;omega))
       ·exact (R3.aN (S':=fun k=>w.heap.size<=k) (fun k hk s=>dK (by have s1:X1.heap.size<=k:=s.1;omega)) (fun k _ s=>by have s1:X1.heap.size<=k:=s.1;show w.heap.size<=k;omega))
       ·exact (R4.aN (S':=fun k=>w.heap.size<=k) (fun k hk s=>dK (by have s1:W.heap.size<=k:=s.1;omega)) (fun k _ s=>by have s1:W.heap.size<=k:=s.1;show w.heap.size<=k;omega))
       ·exact (R5.aN (S':=fun k=>w.heap.size<=k) (fun k hk s=>dK (by have s1:X2.heap.size<=k:=s.1;omega)) (fun k _ s=>by have s1:X2.heap.size<=k:=s.1;show w.heap.size<=k;omega))

theorem mC:(Tryz.prog.info? 58).map (fun i=>(i.zero,i.size,i.bytes))=some (some (.agg #[.string ⟨#[]⟩,.string ⟨#[]⟩]),2,32):=by kernel_rfl
theorem lE (a b:Qd) (w:World):
  Calls Tryz.prog 123 #[.agg #[.string a.n,.string a.d],.agg #[.string b.n,.string b.d]] w fun e w'=>e=.returned (.bool (bl a b))/\Below w.heap.size w w':=by
 obtain⟨r,hr⟩:∃r,r=bl a b:=⟨_,rfl⟩;rw[<-hr];have hr2:(xn a.n.toList b.n.toList=true/\r=true)\/(xn a.n.toList b.n.toList=false/\(a.n.toList==b.n.toList)=false/\r=false)\/(xn a.n.toList b.n.toList=false/\(a.n.toList==b.n.toList)=true/\xn a.d.toList b.d.toList=r):=by
  unfold bl at hr;cases h1:xn a.n.toList b.n.toList
  ·cases h2:(a.n.toList==b.n.toList)
   ·rw[h1,h2] at hr;exact .inr (.inl ⟨rfl,rfl,hr⟩)
   ·rw[h1,h2] at hr;exact .inr (.inr ⟨rfl,rfl,by rw[hr];simp⟩)
  ·rw[h1] at hr;exact .inl ⟨rfl,hr⟩
 clear hr;rcases hr2 with ⟨h1,rfl⟩|⟨h1,h2,rfl⟩|⟨h1,h2,h3⟩;all_goals (
  go_enter Tryz.func123,Tryz.ntmps123
  go_wp2
  go_ret
  first|exact⟨rfl,aM _ _ _⟩|exact⟨by rw[h3],aM _ _ _⟩)

theorem eqQ (a b c d:ByteArray) (w:World):(Op.equalIn 10000 58 (.agg #[.string a,.string b]) (.agg #[.string c,.string d])).run Tryz.prog w=.ok ((a.toList==c.toList) && (b.toList==d.toList)) w:=by
 have u3:=Tryz.underlying9;have hS:Tryz.prog.underlying 58=some (.struct (Tryz.prog.fieldsOf 58)):=an
 have hp:Tryz.prog.stoodInHeld 58=false:=an
 rw[show (10000:Nat)=9999+1 from rfl,run_equalIn_agg w 9999 58 _ _ hS hp];simp only[Program.fieldsOf,Tryz.underlying58];go_simp;by_cases h1:a.toList=c.toList
 ·by_cases h2:b.toList=d.toList <;> simp[h1,h2]
 ·simp[h1]
theorem vA {w w4:World} {v4:Value} {base n j:Nat} {xs:List Qd} {x:Qd} {vss:List (List Value)} {H:Nat->Nat->Nat} {Q:Nat->Prop} (hV:aP w Q 2 (xs.map qdF) vss H) (hxl:xs.length=n) (hjn:j<=n) (hB4:Below w.heap.size w w4) (hx1:x.n.size<=9223372036854775807) (hx2:x.d.size<=9223372036854775807) (hQ:∀k,base<=k->Q k)
  (ho4:w4.ownsRow base 58 2 v4 (n+1) (bz j [.string x.n,.string x.d] vss).flatten):∃a' c',v4=.slice a' (n+1) c'/\az w4 a' (n+1) c' 2 58 ((bz j x xs).map qdF) Q:=by
 obtain⟨H4,hV5⟩:=(hV.below hB4).ins (p:=j) (r:=qdF x) (vs:=[.string x.n,.string x.d]) (hh:=fun _=>0) rfl rfl (fun i f hf=>by
  rcases i with _|_|i <;> simp[qdF] at hf <;> subst hf
  ·exact⟨_,rfl,rfl,hx1⟩
  ·exact⟨_,rfl,rfl,hx2⟩) (fun i zs h hz=>by rcases i with _|_|i <;> simp[qdF] at h) (fun i i2 zs zs2 h=>by rcases i with _|_|i <;> simp[qdF] at h) (by rw[xR];omega)
 have h45:aP w4 Q 2 ((bz j x xs).map qdF) (bz j [.string x.n,.string x.d] vss) H4:=by rw[k_];exact hV5
 have hle:((bz j x xs).map qdF).length=n+1:=by rw[xR,fq af,hxl]
 obtain⟨a',c',e,hR⟩:=h45.own ho4 hle.symm aj (fun g hg=>hQ g (ho4.lt g hg).1);rw[hle] at e hR;exact⟨a',c',e,hR⟩
theorem iv (a b:Qd) (w:World) (r:Bool) (h:bl a b=r):Calls Tryz.prog 123 #[.agg #[.string a.n,.string a.d],.agg #[.string b.n,.string b.d]] w fun e w'=>e=.returned (.bool r)/\Below w.heap.size w w':=by
 rw[<-h];exact lE a b w

def oe (t:Qd) (zs:List Qd) (B:Nat) (w:World) (e:Ending) (w':World):Prop:=∃a' l' c' zs',e=.returned (.slice a' l' c')/\az w' a' l' c' 2 58 (zs'.map qdF) (fun k=>B<=k)/\fU t zs zs'/\Below w.heap.size w w'

theorem iu (a:Option Addr) (len cap:Nat) (zs:List Qd) (x:Qd) (B:Nat) (w:World) (ho:az w a len cap 2 58 (zs.map qdF) (fun k=>B<=k)) (hB:B<=w.heap.size) (hl:len<=64) (hx1:x.n.size<=9223372036854775807) (hx2:x.d.size<=9223372036854775807):
  Calls Tryz.prog 67 #[.slice a len cap,.agg #[.string x.n,.string x.d]] w (oe x zs B w):=by
 have hll:zs.length=len:=by simpa using ho.1
 have hlc:len<=cap:=ho.2.1;have hcm:cap<=9223372036854775807:=ho.2.2.1;have HR:=aa ho.row;have HOW0:=aa ho;obtain⟨vss,H,hV,hcell⟩:=ho.oC;have hvl:vss.length=len:=by rw[hV.len,xR,hll]
 have HC:Hid (∀(j:Nat) u,vss.flatten[j]?=some u->∃b,a=some ⟨b,0,none⟩/\w.cell? ⟨b,j,none⟩=some u):=fun j u hj=>by
  obtain⟨b,e,_,h3⟩:=hcell j u hj;exact⟨b,e,h3⟩
 obtain⟨HVA,HV1,HFIN⟩:=uh;obtain⟨i5,hi5',hz0,hz1,hz2⟩:=info_parts mC;have HI0:=aa (xf hi5' (xf hz0 (xf hz1 hz2)));clear hi5' hz0 hz1 hz2 hV hcell ho;go_enter Tryz.func67,Tryz.ntmps67;go_wp2;go_loopw [5] (fun vi wr=> ∃k:Nat,k<=len/\vi=.int .i64 k/\Hid (∀(j:Nat) y,j<k->zs[j]?=some y->bl y x=true)/\Hid (Below (w.heap.size+1) (w.alloc (.cells #[.string x.n,.string x.d] 58)) wr)) (fun vi _=>len - (intOf vi).toNat);case atStart=>exact⟨0,by omega,rfl,fun j y hj=>by omega,xj _ _⟩
 case round=>
  obtain⟨k,hk,rfl,HE,HL⟩:=hrel;have hLs:w.heap.size+1<=wr.heap.size:=by have:=HL.size;simpa using this
  obtain⟨HB,Bx⟩:=p_;by_cases hlt:k<len
  ·obtain⟨b,o,y,rfl,hb,hx,hat⟩:=eJ (HR.below HB.out) hlt;obtain⟨-,-,hc0,hc1⟩:=b8 hat;have HXy:=aa hx;have hbw:b<wr.heap.size:=hb;have HC0:=aa hc0;have HC1:=aa hc1;have HBW:=aa hbw;have hk1:(k:Int)<len:=af
   have hk2:decide ((k:Int)<len)=true:=by simp;omega
   clear hb hat hx;cases hless:bl y x
   ·have HLS:=aa hless;clear hless;have Gx:=Bx;have HW:=HB;obtain⟨x0,x1⟩:=sl2 Gx;have yn:=fun q:Wd wr=>(q.cell hbw).trans hc0;have yd:=fun q:Wd wr=>(q.cell hbw).trans hc1;have hne0:=Wd.ne wr;have HC0:=aa (fun q:Wd wr=>iv y x q.w false HLS.out);go_wp2_with fail;refine ag an an ?_;repeat (go_big_quiet_step (first|(go_at_call 123;exact Calls.wide (HC0.out _))|fail))
    refine wpQuiet_nil ?_;rintro _ ⟨q2,rfl⟩;have HB1:=upB HW q2.b;have Cx:=upK Gx q2.b;clear hne0 HW HB HC0 x0 x1 yn yd Gx Bx hc0 hc1 hbw;have HB:=HB1;clear HB1;have Bx:=Cx;clear Cx;have hbw:b<q2.w.heap.size:=xr HBW.out q2.b.size;have hc0:=(q2.cell HBW.out).trans HC0.out;have hc1:=(q2.cell HBW.out).trans HC1.out;by_cases he:y=x
    ·have HP:Hid (fU x zs zs):=.inl ⟨he ▸ xD HXy.out,rfl⟩;have hq1:(y.n.toList==x.n.toList)=true:=a_ (by rw[he]);have hq2:(y.d.toList==x.d.toList)=true:=a_ (by rw[he]);clear he;have hqe:∀W:World,(Op.equalIn 10000 58 (.agg #[.string y.n,.string y.d]) (.agg #[.string x.n,.string x.d])).run Tryz.prog W=.ok true W:=fun W=>by rw[eqQ,hq1,hq2];rfl
     have Gx:=Bx;have HW:=HB;obtain⟨x0,x1⟩:=sl2 Gx;have yn:=fun q:Wd q2.w=>(q.cell hbw).trans hc0;have yd:=fun q:Wd q2.w=>(q.cell hbw).trans hc1;have hne0:=Wd.ne q2.w;go_wp2_with fail;refine ag an an ?_;repeat (go_big_quiet_step (first|fail))
     refine wpQuiet_nil ?_;rintro _ ⟨q3,rfl⟩;have HB2:=upB HW q3.b;have Cx:=upK Gx q3.b;clear hne0 HW HB x0 x1 yn yd Gx Bx hc0 hc1 hbw hqe;have HB:=HB2;clear HB2;have Bx:=Cx;clear Cx;go_wp2;go_ret;exact⟨_,_,_,_,rfl,HOW0.below HB.out,HP.out,HB.out⟩
    have HP:Hid (fU x zs (bz k x zs)):=.inr ⟨k,by omega,rfl,HE.out,fun z hz=>by rw[HXy.out] at hz;cases hz;exact iI HLS.out he⟩;have hq1:((y.n.toList==x.n.toList) && (y.d.toList==x.d.toList))=false:=by
     cases h1:(y.n.toList==x.n.toList)
     ·rfl
     ·cases h2:(y.d.toList==x.d.toList)
      ·rfl
      ·exact absurd tB he
    have hqe:∀W:World,(Op.equalIn 10000 58 (.agg #[.string y.n,.string y.d]) (.agg #[.string x.n,.string x.d])).run Tryz.prog W=.ok false W:=fun W=>by rw[eqQ,hq1]
    clear he;have Gx:=Bx;have HW:=HB;obtain⟨x0,x1⟩:=sl2 Gx;have yn:=fun q:Wd q2.w=>(q.cell hbw).trans hc0;have yd:=fun q:Wd q2.w=>(q.cell hbw).trans hc1;have hne0:=Wd.ne q2.w;go_wp2_with fail;refine ag an an ?_;repeat (go_big_quiet_step (first|fail))
    refine wpQuiet_nil ?_;rintro _ ⟨q3,rfl⟩;have HB2:=upB HW q3.b;have Cx:=upK Gx q3.b;clear hne0 HW HB x0 x1 yn yd Gx Bx hc0 hc1 hbw hqe;have HB:=HB2;clear HB2;have Bx:=Cx;clear Cx;clear hq1;have HCQ:Hid (∀(j:Nat) u,vss.flatten[j]?=some u->∃b9,(some ⟨b,o,none⟩:Option Addr)=some ⟨b9,0,none⟩/\b9<q3.w.heap.size/\q3.w.cell? ⟨b9,j,none⟩=some u):=fun j u hj=>by
     exact rC
    obtain⟨HOW,hik,hkn⟩:=tS;have hcap:¬cap=k:=af
    all_goals (
     go_wp2_with (first|(at_builtin;refine aU rfl _ _ 54 rfl q3.w.heap.size 58 i5 (.agg #[.string ⟨#[]⟩,.string ⟨#[]⟩]) 2 32 Tryz.underlying54 HI0.1 HI0.2.1 HI0.2.2.1 HI0.2.2.2 rfl aj _ _ _ rfl (HOW.out) _ k _ (vss.take k).flatten rfl (cE HVA.out af) (fun j u hu=>by obtain⟨g,e,hgl,h3⟩:=HCQ.out _ _ (eU hu);cases e <;> exact⟨_,rfl,by simp only[xB,xL];exact (ai (al q3.w _) hgl).trans h3⟩) (bB HV1.out k).1 bJ af aT ?_))
     intro v5 w5 hown5 hgr5
     replace hown5:w5.ownsRow q3.w.heap.size 58 2 v5 k (vss.take k).flatten:=ix
     have hb5:Below q3.w.heap.size q3.w w5:=(al q3.w (.cells #[] 58)).grown hgr5 aT (fun g hg=>by simp[Value.ownBlock] at hg;omega);obtain⟨s1,s2,s3,rfl⟩:=aY hown5;have HO5:=aa hown5;have H5:=aa hb5;have hs6:=hb5.size;have Bx5:=upK Bx hb5;obtain⟨x0,x1⟩:=cs2 Bx5;clear hown5 hgr5 hb5 HOW
     go_wp2_with (first|(at_builtin;refine aU rfl _ _ 54 rfl q3.w.heap.size 58 i5 (.agg #[.string ⟨#[]⟩,.string ⟨#[]⟩]) 2 32 Tryz.underlying54 HI0.1 HI0.2.1 HI0.2.2.1 HI0.2.2.2 rfl aj _ _ _ rfl (HO5.alloc _) _ 1 _ [.string x.n,.string x.d] rfl rfl (fun j u hu=>⟨_,rfl,by rw[xB,xL,aD (heap_alloc_new w5 _)];simpa using hu⟩) fX bJ af bX ?_))
     intro v6 w6 hown6 hgr6;have hb6:Below q3.w.heap.size q3.w w6:=(H5.alloc H5.size _).grown hgr6 bX (fun g hg=>(HO5.lt g hg).1);obtain⟨r1,r2,r3,rfl⟩:=aY hown6;have HO6:=aa hown6;have H6:=aa hb6;have hs7:=hb6.size;clear hown6 hgr6 hb6 x0 x1
     go_wp2_with (first|(at_builtin;refine aU rfl _ _ 54 rfl q3.w.heap.size 58 i5 (.agg #[.string ⟨#[]⟩,.string ⟨#[]⟩]) 2 32 Tryz.underlying54 HI0.1 HI0.2.1 HI0.2.2.1 HI0.2.2.2 rfl aj _ _ _ rfl (HO6.out) _ (len - k) _ (vss.drop k).flatten rfl kb (fun j u hu=>by first|(rw[xW af] at hu;simp at hu;done)|(obtain⟨g,e,hgl,h3⟩:=HCQ.out _ _ (fy HVA.out af hu);cases e <;> exact⟨_,rfl,by simp only[xB,xL];exact (ai H6.out hgl).trans h3⟩)) (bB HV1.out k).2 bJ af af ?_))
     intro v7 w7 hown7 hgr7;have hb7:Below q3.w.heap.size q3.w w7:=H6.grown hgr7 af (fun g hg=>(HO6.lt g hg).1)
     replace hown7:w7.ownsRow q3.w.heap.size 58 2 v7 (len+1) (bz k [.string x.n,.string x.d] vss).flatten:=by
      have e9:k+1+(len - k)=len+1:=af
      try rw[e9] at hown7
      simpa[bz] using hown7
     have HB7:=upB HB hb7;obtain⟨a',c',rfl,hR⟩:=HFIN.out w7 v7 q3.w.heap.size k af HB.size HB7.out hown7;have HR7:=aa hR;clear hown7 hgr7 hb7 hR hik hkn hcap
     go_wp2
     go_ret
     exact⟨a',_,c',_,rfl,HR7.out,HP.out,HB7.out⟩)
   ·have HLS:=aa hless;clear hless;have Gx:=Bx;have HW:=HB;obtain⟨x0,x1⟩:=sl2 Gx;have yn:=fun q:Wd wr=>(q.cell hbw).trans hc0;have yd:=fun q:Wd wr=>(q.cell hbw).trans hc1;have hne0:=Wd.ne wr;have HC0:=aa (fun q:Wd wr=>iv y x q.w true HLS.out);go_wp2_with fail;refine ag an an ?_;repeat (go_big_quiet_step (first|(go_at_call 123;exact Calls.wide (HC0.out _))|fail))
    refine wpQuiet_nil ?_;rintro _ ⟨q2,rfl⟩;have HB1:=upB HW q2.b;have Cx:=upK Gx q2.b;clear hne0 HW HB HC0 x0 x1 yn yd Gx Bx hc0 hc1 hbw;have HB:=HB1;clear HB1;have Bx:=Cx;clear Cx;go_wp2;refine⟨⟨k+1,by omega,by go_num,fun j z hj hz=>?_,HL.trans (q2.b.mono af)⟩,by simp[intOf];omega⟩;by_cases e:j=k
    ·subst e;rw[HXy.out] at hz;obtain rfl:=xh hz;exact HLS.out
    ·exact HE.out j z af hz
  ·have hk1:¬(k:Int)<len:=af
   have hk2:decide ((k:Int)<len)=false:=by simp;omega
   have HP:Hid (fU x zs (bz k x zs)):=.inr ⟨k,by omega,rfl,HE.out,fun z hz=>by have:=(xe.1 hz).1;omega⟩;have Gx:=Bx;have HW:=HB;have x0:=fun q:Wd wr=>q.slot (o:=0) Gx.out rfl;have x1:=fun q:Wd wr=>q.slot (o:=1) Gx.out rfl;have hne0:=Wd.ne wr;go_wp2_with fail;refine ag an an ?_;repeat (go_big_quiet_step (first|fail))
   refine wpQuiet_nil ?_;rintro _ ⟨q2,rfl⟩;have HB1:=upB HW q2.b;have Cx:=upK Gx q2.b;clear hne0 HW HB x0 x1 Gx Bx;have HB:=HB1;clear HB1;have Bx:=Cx;clear Cx;have Gx:=Bx;have HW:=HB;obtain⟨x0,x1⟩:=sl2 Gx;have hne0:=Wd.ne q2.w;go_wp2_with fail;refine ag an an ?_;repeat (go_big_quiet_step (first|fail))
   refine wpQuiet_nil ?_;rintro _ ⟨q3,rfl⟩;have HB2:=upB HW q3.b;have Cx:=upK Gx q3.b;clear hne0 HW HB x0 x1 Gx Bx;have HB:=HB2;clear HB2;have Bx:=Cx;clear Cx;have HCQ:Hid (∀(j:Nat) u,vss.flatten[j]?=some u->∃b9,a=some ⟨b9,0,none⟩/\b9<q3.w.heap.size/\q3.w.cell? ⟨b9,j,none⟩=some u):=fun j u hj=>by
    exact rC
   obtain⟨HOW,hik,hkn⟩:=tS;rcases a with _|⟨b2,f2,sp⟩
   ·have hl0:len=0:=yj fun hne0=>by
     have h1:vss[0]?=some (vss[0]'(by omega)):=xm _;have h2:0<(vss[0]'(by omega)).length:=by rw[HVA.out 0 _ h1];decide
     obtain⟨g,e,_⟩:=HCQ.out _ _ (cM HVA.out h1 (xm h2));cases e
    obtain rfl:k=0:=af
    subst hl0;by_cases hcap:cap=0;all_goals (
     go_wp2_with (first|(at_builtin;refine aU rfl _ _ 54 rfl q3.w.heap.size 58 i5 (.agg #[.string ⟨#[]⟩,.string ⟨#[]⟩]) 2 32 Tryz.underlying54 HI0.1 HI0.2.1 HI0.2.2.1 HI0.2.2.2 rfl aj _ _ _ rfl (HOW.out) _ 0 _ (vss.take 0).flatten rfl (cE HVA.out af) (fun j u hu=>by obtain⟨g,e,hgl,h3⟩:=HCQ.out _ _ (eU hu);cases e <;> exact⟨_,rfl,by simp only[xB,xL];exact (ai (al q3.w _) hgl).trans h3⟩) (bB HV1.out 0).1 bJ af aT ?_))
     intro v5 w5 hown5 hgr5
     replace hown5:w5.ownsRow q3.w.heap.size 58 2 v5 0 (vss.take 0).flatten:=ix
     have hb5:Below q3.w.heap.size q3.w w5:=(al q3.w (.cells #[] 58)).grown hgr5 aT (fun g hg=>by simp[Value.ownBlock] at hg;omega);obtain⟨s1,s2,s3,rfl⟩:=aY hown5;have HO5:=aa hown5;have H5:=aa hb5;have hs6:=hb5.size;have Bx5:=upK Bx hb5;obtain⟨x0,x1⟩:=cs2 Bx5;clear hown5 hgr5 hb5 HOW
     go_wp2_with (first|(at_builtin;refine aU rfl _ _ 54 rfl q3.w.heap.size 58 i5 (.agg #[.string ⟨#[]⟩,.string ⟨#[]⟩]) 2 32 Tryz.underlying54 HI0.1 HI0.2.1 HI0.2.2.1 HI0.2.2.2 rfl aj _ _ _ rfl (HO5.alloc _) _ 1 _ [.string x.n,.string x.d] rfl rfl (fun j u hu=>⟨_,rfl,by rw[xB,xL,aD (heap_alloc_new w5 _)];simpa using hu⟩) fX bJ af bX ?_))
     intro v6 w6 hown6 hgr6;have hb6:Below q3.w.heap.size q3.w w6:=(H5.alloc H5.size _).grown hgr6 bX (fun g hg=>(HO5.lt g hg).1);obtain⟨r1,r2,r3,rfl⟩:=aY hown6;have HO6:=aa hown6;have H6:=aa hb6;have hs7:=hb6.size;clear hown6 hgr6 hb6 x0 x1
     go_wp2_with (first|(at_builtin;refine aU rfl _ _ 54 rfl q3.w.heap.size 58 i5 (.agg #[.string ⟨#[]⟩,.string ⟨#[]⟩]) 2 32 Tryz.underlying54 HI0.1 HI0.2.1 HI0.2.2.1 HI0.2.2.2 rfl aj _ _ _ rfl (HO6.out) _ (0 - 0) _ (vss.drop 0).flatten rfl kb (fun j u hu=>by first|(rw[xW af] at hu;simp at hu;done)|(obtain⟨g,e,hgl,h3⟩:=HCQ.out _ _ (fy HVA.out af hu);cases e <;> exact⟨_,rfl,by simp only[xB,xL];exact (ai H6.out hgl).trans h3⟩)) (bB HV1.out 0).2 bJ af af ?_))
     intro v7 w7 hown7 hgr7;have hb7:Below q3.w.heap.size q3.w w7:=H6.grown hgr7 af (fun g hg=>(HO6.lt g hg).1)
     replace hown7:w7.ownsRow q3.w.heap.size 58 2 v7 (0+1) (bz 0 [.string x.n,.string x.d] vss).flatten:=by
      have e9:0+1+(0 - 0)=0+1:=af
      try rw[e9] at hown7
      simpa[bz] using hown7
     have HB7:=upB HB hb7;obtain⟨a',c',rfl,hR⟩:=HFIN.out w7 v7 q3.w.heap.size 0 af HB.size HB7.out hown7;have HR7:=aa hR;clear hown7 hgr7 hb7 hR hik hkn hcap
     go_wp2
     go_ret
     exact⟨a',_,c',_,rfl,HR7.out,HP.out,HB7.out⟩)
   by_cases hcap:cap=k;all_goals (
    go_wp2_with (first|(at_builtin;refine aU rfl _ _ 54 rfl q3.w.heap.size 58 i5 (.agg #[.string ⟨#[]⟩,.string ⟨#[]⟩]) 2 32 Tryz.underlying54 HI0.1 HI0.2.1 HI0.2.2.1 HI0.2.2.2 rfl aj _ _ _ rfl (HOW.out) _ k _ (vss.take k).flatten rfl (cE HVA.out af) (fun j u hu=>by obtain⟨g,e,hgl,h3⟩:=HCQ.out _ _ (eU hu);cases e <;> exact⟨_,rfl,by simp only[xB,xL];exact (ai (al q3.w _) hgl).trans h3⟩) (bB HV1.out k).1 bJ af aT ?_))
    intro v5 w5 hown5 hgr5
    replace hown5:w5.ownsRow q3.w.heap.size 58 2 v5 k (vss.take k).flatten:=ix
    have hb5:Below q3.w.heap.size q3.w w5:=(al q3.w (.cells #[] 58)).grown hgr5 aT (fun g hg=>by simp[Value.ownBlock] at hg;omega);obtain⟨s1,s2,s3,rfl⟩:=aY hown5;have HO5:=aa hown5;have H5:=aa hb5;have hs6:=hb5.size;have Bx5:=upK Bx hb5;obtain⟨x0,x1⟩:=cs2 Bx5;clear hown5 hgr5 hb5 HOW
    go_wp2_with (first|(at_builtin;refine aU rfl _ _ 54 rfl q3.w.heap.size 58 i5 (.agg #[.string ⟨#[]⟩,.string ⟨#[]⟩]) 2 32 Tryz.underlying54 HI0.1 HI0.2.1 HI0.2.2.1 HI0.2.2.2 rfl aj _ _ _ rfl (HO5.alloc _) _ 1 _ [.string x.n,.string x.d] rfl rfl (fun j u hu=>⟨_,rfl,by rw[xB,xL,aD (heap_alloc_new w5 _)];simpa using hu⟩) fX bJ af bX ?_))
    intro v6 w6 hown6 hgr6;have hb6:Below q3.w.heap.size q3.w w6:=(H5.alloc H5.size _).grown hgr6 bX (fun g hg=>(HO5.lt g hg).1);obtain⟨r1,r2,r3,rfl⟩:=aY hown6;have HO6:=aa hown6;have H6:=aa hb6;have hs7:=hb6.size;clear hown6 hgr6 hb6 x0 x1
    go_wp2_with (first|(at_builtin;refine aU rfl _ _ 54 rfl q3.w.heap.size 58 i5 (.agg #[.string ⟨#[]⟩,.string ⟨#[]⟩]) 2 32 Tryz.underlying54 HI0.1 HI0.2.1 HI0.2.2.1 HI0.2.2.2 rfl aj _ _ _ rfl (HO6.out) _ (len - k) _ (vss.drop k).flatten rfl kb (fun j u hu=>by first|(rw[xW af] at hu;simp at hu;done)|(obtain⟨g,e,hgl,h3⟩:=HCQ.out _ _ (fy HVA.out af hu);cases e <;> exact⟨_,rfl,by simp only[xB,xL];exact (ai H6.out hgl).trans h3⟩)) (bB HV1.out k).2 bJ af af ?_))
    intro v7 w7 hown7 hgr7;have hb7:Below q3.w.heap.size q3.w w7:=H6.grown hgr7 af (fun g hg=>(HO6.lt g hg).1)
    replace hown7:w7.ownsRow q3.w.heap.size 58 2 v7 (len+1) (bz k [.string x.n,.string x.d] vss).flatten:=by
     have e9:k+1+(len - k)=len+1:=af
     try rw[e9] at hown7
     simpa[bz] using hown7
    have HB7:=upB HB hb7;obtain⟨a',c',rfl,hR⟩:=HFIN.out w7 v7 q3.w.heap.size k af HB.size HB7.out hown7;have HR7:=aa hR;clear hown7 hgr7 hb7 hR hik hkn hcap
    go_wp2
    go_ret
    exact⟨a',_,c',_,rfl,HR7.out,HP.out,HB7.out⟩)

def Wn (c:Cl) (k:Nat) (q:Qd):Prop:=∃(j:Nat) (p:Pd),j<k/\c.ps[j]?=some p/\¬p.d=⟨#[]⟩/\∃(i:Nat) (t:ByteArray) (v:Vd),p.zs[i]?=some t/\bp c t v/\q=⟨v.n,p.d⟩
def Wc (c:Cl) (p:Pd) (k:Nat) (q:Qd):Prop:=∃(i:Nat) (t:ByteArray) (v:Vd),i<k/\p.zs[i]?=some t/\bp c t v/\q=⟨v.n,p.d⟩
def sy (c:Cl) (B:Nat) (w:World) (e:Ending) (w':World):Prop:=∃a' l' c' zs',e=.returned (.slice a' l' c')/\az w' a' l' c' 2 58 (zs'.map qdF) (fun k=>B<=k)/\RQ zs'/\(∀q,q∈zs'↔Wn c c.ps.length q)/\zs'.length<=24/\Below w.heap.size w w'

def PqF (t:Qd) (zs:List Qd) (B:Nat):Fact:=fun v w=> ∃a' l' c' zs',v=.slice a' l' c'/\az w a' l' c' 2 58 (zs'.map qdF) (fun k=>B<=k)/\fU t zs zs'
theorem PqF.mono {t:Qd} {zs:List Qd} {B:Nat} :Fact.bw (PqF t zs B):=by
 rintro v w w' ⟨a',l',c',zs',h1,h2,h3⟩ hb;exact⟨a',l',c',zs',h1,h2.below hb,h3⟩
theorem bp.vh {c:Cl} {t:ByteArray} {v v':Vd} (hx:aJ Xd.n c.xs) (h:bp c t v) (h':bp c t v'):v.n=v'.n:=by
 obtain⟨i,j,x,h1,h2,h3,h4⟩:=h;obtain⟨i',j',x',k1,k2,k3,k4⟩:=h';obtain⟨_,rfl⟩:=hx.inj h1 k1 (h2.trans k2.symm);rw[h4,k4]
theorem lJ (d:Ad) (c:Cl) (t:ByteArray) (w:World) (hr:aK w d c.raw) (hT:a8 c) {j:Nat} {v:Vd} (hv:c.vs[j]?=some v) (hb:bp c t v):
  Calls Tryz.prog 68 #[.agg #[.slice d.a1 d.l1 d.c1,.slice d.a2 d.l2 d.c2,.slice d.a3 d.l3 d.c3,.slice d.a4 d.l4 d.c4,.slice d.a5 d.l5 d.c5,.int .i64 c.now],.string t] w fun e w'=>e=.returned (.int .i64 j)/\Below w.heap.size w w':=by
 refine (fG d c t w hr hT.2.1.2.2.2.1.2.2 hT.2.1.2.2.1.2.2 (fun j v hv e=>by have h9:=(hT.2.1.2.2.1.2.1 j v hv).1;rw[e] at h9;have h8:=h9.1;revert h8;decide)).mono ?_;rintro e w' ⟨hb2,⟨j',v',h1,h2,rfl⟩|⟨hno,rfl⟩⟩
 ·obtain⟨rfl,_⟩:=hT.2.1.2.2.1.2.2.inj h1 hv (h2.vh hT.2.1.2.2.2.1.2.2 hb);exact⟨rfl,hb2⟩
 ·exact absurd hb (hno v)
theorem Wc.step {c:Cl} {p:Pd} {k:Nat} {t:ByteArray} {v:Vd} {q:Qd} (hx:aJ Xd.n c.xs) (ht:p.zs[k]?=some t) (hb:bp c t v):Wc c p (k+1) q↔Wc c p k q\/q=⟨v.n,p.d⟩:=by
 constructor
 ·rintro⟨i,t',v',h1,h2,h3,rfl⟩;by_cases e:i=k
  ·subst e;rw[ht] at h2;obtain rfl:=xh h2;exact .inr (by rw[h3.vh hx hb])
  ·exact .inl ⟨i,t',v',by omega,h2,h3,rfl⟩
 ·rintro (⟨i,t',v',h1,h2,h3,rfl⟩|rfl)
  ·exact⟨i,t',v',by omega,h2,h3,rfl⟩
  ·exact⟨k,t,v,by omega,ht,hb,rfl⟩
theorem Wn.yes {c:Cl} {k:Nat} {p:Pd} {q:Qd} (hp:c.ps[k]?=some p) (hd:¬p.d=⟨#[]⟩):Wn c (k+1) q↔Wn c k q\/Wc c p p.zs.length q:=by
 constructor
 ·rintro⟨j,p',h1,h2,h3,i,t,v,h4,h5,h6⟩;by_cases e:j=k
  ·subst e;rw[hp] at h2;obtain rfl:=xh h2;exact .inr ⟨i,t,v,(xe.1 h4).1,h4,h5,h6⟩
  ·exact .inl ⟨j,p',by omega,h2,h3,i,t,v,h4,h5,h6⟩
 ·rintro (⟨j,p',h1,h2,h3,h4⟩|⟨i,t,v,_,h4,h5,h6⟩)
  ·exact⟨j,p',by omega,h2,h3,h4⟩
  ·exact⟨k,p,by omega,hp,hd,i,t,v,h4,h5,h6⟩
theorem Wn.no {c:Cl} {k:Nat} {p:Pd} {q:Qd} (hp:c.ps[k]?=some p) (hd:p.d=⟨#[]⟩):Wn c (k+1) q↔Wn c k q:=by
 constructor
 ·rintro⟨j,p',h1,h2,h3,h4⟩;by_cases e:j=k
  ·subst e;rw[hp] at h2;obtain rfl:=xh h2;exact absurd hd h3
  ·exact⟨j,p',by omega,h2,h3,h4⟩
 ·rintro⟨j,p',h1,h2,h3,h4⟩;exact⟨j,p',by omega,h2,h3,h4⟩

theorem jT (d:Ad) (c:Cl) (w:World) (hr:aK w d c.raw) (hT:a8 c):
  Calls Tryz.prog 24 #[.agg #[.slice d.a1 d.l1 d.c1,.slice d.a2 d.l2 d.c2,.slice d.a3 d.l3 d.c3,.slice d.a4 d.l4 d.c4,.slice d.a5 d.l5 d.c5,.int .i64 c.now]] w (sy c (w.heap.size+1) w):=by
 obtain⟨a1,l1,y1,a2,l2,y2,a3,l3,y3,a4,l4,y4,a5,l5,y5⟩:=d;dsimp only;obtain⟨HR,hl3⟩:=kr;obtain⟨hl5,hm5⟩:=iD;clear hr;have HT:=aa hT;clear hT;have h58:c.ps.length<=8:=by have:=HT.sm.p;omega
 go_enter Tryz.func24,Tryz.ntmps24;go_wp2;go_loopw [3,4] (fun vo vi wr=> ∃(k:Nat) (ca:Option Addr) (cl cc:Nat) (ys:List Qd),k<=l5/\vi=.int .i64 k/\vo=.slice ca cl cc/\Hid (az wr ca cl cc 2 58 (ys.map qdF) (fun j=>w.heap.size+1<=j)/\RQ ys/\(∀q,q∈ys↔Wn c k q)/\ys.length<=3*k)/\Hid (Below (w.heap.size+1) (w.alloc (.cells #[.slice a1 l1 y1,.slice a2 l2 y2,.slice a3 l3 y3,.slice a4 l4 y4,.slice a5 l5 y5,.int .i64 c.now] 36)) wr)) (fun _ vi _=>l5 - (intOf vi).toNat);case atStart=>exact⟨0,_,0,0,[],by omega,rfl,rfl,⟨⟨rfl,xk _,by omega,.inl rfl⟩,List.Pairwise.nil,fun q=>⟨fun h=>by simp at h,fun ⟨j,p,h,_⟩=>by omega⟩,by simp⟩,by first|exact xj _ _|exact (al _ _).mono aT⟩
 case round=>
  obtain⟨k,ca,cl,cc,ys,hk,rfl,rfl,HQ,HL⟩:=hrel;obtain⟨Bk,HB,hLs⟩:=qg;by_cases hlt:k<l5
  ·obtain⟨b,o,x,rfl,hb,hx,hat⟩:=cj (HR.p.below HB.out) hlt;obtain⟨va,vl,vc,hvr,z0,z2,z4,c0,c1,c2,c3,c4,c5⟩:=aS hat;have HXx:=aa hx;have HTx:=aa hvr;have HZx4:=aa z4;clear hat hx z0 z2 z4 hvr;have hbw:=hb;clear hb;have hk1:(k:Int)<l5:=af
   obtain⟨W1,hW1⟩:∃W1,W1=wr:=⟨_,rfl⟩;subst hW1;have hxz:x.zs.length=vl:=HTx.1;have hv3:vl<=3:=by have h9:(x.zs.length:Int)<=3:=(HT.2.1.2.2.2.2.2.1 k x HXx.out).2.2.2.1.1;omega
   obtain⟨k0,k1,k2,k3,k4,k5⟩:=cs6 Bk;go_wp2;clear k0 k1 k2 k3 k4 k5;clear c0 c1 c2 c3 c4 c5 hbw;go_loopw [3,6] (fun vo vi wr=> ∃(n:Nat) (ca:Option Addr) (cl cc:Nat) (ys:List Qd),n<=vl/\(x.d=⟨#[]⟩->n=0)/\vi=.int .i64 n/\vo=.slice ca cl cc/\Hid (az wr ca cl cc 2 58 (ys.map qdF) (fun j=>w.heap.size+1<=j)/\RQ ys/\(∀q,q∈ys↔Wn c k q\/Wc c x n q)/\ys.length<=3*k+n)/\Hid (Below (W1.heap.size+1) (W1.alloc (.cells #[.string x.n,.int .i64 x.c,.string x.z,.slice va vl vc,.string x.d,.int .i64 x.p] 105)) wr)) (fun _ vi _=>vl - (intOf vi).toNat);case atStart=>exact⟨0,_,_,_,ys,by omega,fun _=>rfl,rfl,rfl,⟨HQ.1.below (al _ _),HQ.2.1,fun q=>by rw[HQ.2.2.1];exact⟨.inl,fun h=>h.elim id (fun ⟨i,t,v,h,_⟩=>by omega)⟩,by have:=HQ.2.2.2;omega⟩,xj _ _⟩
   case round=>
    clear HQ;obtain⟨n,ca,cl,cc,ys,hn,hn0,rfl,rfl,HQ,HL2⟩:=hrel;obtain⟨hbP,Bp⟩:=tN;replace Bk:=upK Bk hbP;replace HB:=upB HB hbP;have HBP:=aa hbP;have hs2:=hbP.size;have hyl:ys.length=cl:=by have h9:(ys.map qdF).length=cl:=HQ.1.1;rw[xR] at h9;exact h9
    have hyb:=HQ.2.2.2;clear hbP;by_cases he:x.d=⟨#[]⟩
    ·obtain rfl:=hn0 he;have hq:=dh he;have HHE:=aa he;clear he;obtain⟨p0,p1,p2,p3,p4,p5⟩:=cs6 Bp;go_wp2;all_goals (
      refine⟨⟨k+1,ca,cl,cc,ys,by omega,by go_num,rfl,⟨HQ.1,HQ.2.1,fun q=>?_,by omega⟩,HL.trans (HBP.mono af)⟩,by simp[intOf];omega⟩;rw[HQ.2.2.1,Wn.no HXx.out HHE.out]
      exact⟨fun h=>h.elim id (fun ⟨i,t,v,h,_⟩=>by omega),.inl⟩)
    have hq:=bo he;have HHE:=aa he;clear he hn0;by_cases hlt2:n<vl
    ·have hk3:(n:Int)<vl:=af
     obtain⟨b2,o2,t,rfl,hb2,hx2,hc2,hsz2⟩:=(HTx.below HBP.out).at hlt2;have HXT:=aa hx2;obtain⟨v,hbd⟩:∃v,bp c t v:=by
      exact rz
     obtain⟨i9,j,x9,h91,h92,hv,h94⟩:=hbd;have hbd:bp c t v:=⟨i9,j,x9,h91,h92,hv,h94⟩;have HVJ:=aa hv;have HBD:=aa hbd;clear h91 h92 h94 hbd hx2 hsz2;have hj3:j<l3:=by have:=(xe.1 hv).1;omega
     obtain⟨b3,o3,y,rfl,hb3,hy,hat⟩:=bq (HR.v.below HB.out) hj3;rw[hv] at hy;obtain rfl:=xh hy;obtain⟨ya,yl,yc,-,hz0,-,-,-,hc3,-,-,-,-,-,-,-⟩:=aE hat;have HTC:=aa (xf hb2 hc2);have HVC:=aa (xf hb3 hc3);have HZ0:=aa hz0;have HZD:Hid (x.d.size<=9223372036854775807):=HZx4.out;clear hv hy hat hb2 hc2 hb3 hc3 hz0;obtain⟨k0,k1,k2,k3,k4,k5⟩:=cs6 Bk;obtain⟨p0,p1,p2,p3,p4,p5⟩:=cs6 Bp;go_wp2_with fail;clear k0 k1 k2 k3 k4 k5 p0 p1 p2 p3 p4 p5;rename_i K0 hK0;refine aB an rfl rfl an ?_;iterate 2 refine Grow.bf ?_
     refine Grow.bT Bk.out ?_;refine Grow.bT Bk.out ?_;refine Grow.bf ?_;refine Grow.bT Bp.out ?_;iterate 2 refine Grow.bf ?_
     refine' Grow.ar _ rfl ?_ ?_;rotate_left 1
     ·refine Obl.plain rfl ?_;intro ac wg K hsz hW hf hK;clear hsz;have e39:=hf 39 aj;simp[ak,xg] at e39;clear hf;have tc:=(ai hW HTC.1).trans HTC.2;exact bx
     refine' Grow.ar (.int .i64 j) rfl ?_ ?_
     ·refine Obl.plain rfl ?_;intro ac wg K hsz hW hf hK;clear hsz;have e35:=hf 35 aj;simp[ak,xg] at e35;have e40:=hf 40 aj;simp[ak,xg] at e40;clear hf;go_simp;refine (lJ ⟨a1,l1,y1,a2,l2,y2,(some ⟨b3,o3,none⟩),l3,y3,a4,l4,y4,(some ⟨b,o,none⟩),l5,y5⟩ c t _ (HR.below (HB.trans (hW.mono HB.size))) HT.out HVJ.out HBD.out).mono ?_;rintro e w6 ⟨rfl,hb6⟩;exact hK _ _ hb6 rfl
     refine' Grow.ar _ rfl ?_ ?_;rotate_left 1
     ·refine Obl.plain rfl ?_;intro ac wg K hsz hW hf hK;clear hsz;have e34:=hf 34 aj;simp[ak,xg] at e34;have e41:=hf 41 aj;simp[ak,xg] at e41;clear hf;have hj2:(j:Int)<l3:=af
      exact bx
     refine Grow.bf ?_;refine' Grow.ar _ rfl ?_ ?_;rotate_left 1
     ·refine Obl.plain rfl ?_;intro ac wg K hsz hW hf hK;clear hsz;have e43:=hf 43 aj;simp[ak,xg] at e43;clear hf;have vc9:=(ai hW HVC.1).trans HVC.2;exact bx
     refine Grow.bf ?_;refine Grow.bT Bp.out ?_;refine Grow.bf ?_;refine Grow.step (PqF ⟨v.n,x.d⟩ ys (w.heap.size+1)) rfl (PqF.mono) ?_ ?_
     ·refine Obl.plain rfl ?_;intro ac wg K hsz hW hf hK;clear hsz;have e32:=hf 32 aj;simp[ak,xg] at e32;have e47:=hf 47 aj;simp[ak,xg] at e47;clear hf;go_simp;refine (iu ca cl cc ys ⟨v.n,x.d⟩ (w.heap.size+1) _ (HQ.1.below hW) j_ af HZ0.out HZD.out).mono ?_;rintro e w6 ⟨sa,sl,sc,zs2,rfl,ho2,hp2,hb6⟩;exact hK _ _ hb6 ⟨sa,sl,sc,zs2,rfl,ho2,hp2⟩
     refine Grow.done ?_;intro q w5 hW hf;simp only[xH] at hf;obtain⟨⟨sa,sl,sc,zs2,h48,ho2,hp2⟩,-⟩:=hf;have HP2:=aa hp2;have HO2:=aa ho2;have HW2:=aa hW;clear hp2 ho2;intro K hK;rw[if_pos (by rfl)];simp only[aI,yo,yx,xx,xG,xK,h48];simp only[yg];go_simp;refine hK _ _ ?_;refine hK0 _ _ ?_;clear hK hK0 K K0;go_wp2;refine⟨⟨n+1,sa,sl,sc,zs2,by omega,fun e=>absurd e HHE.out,by go_num,rfl,⟨HO2.out,HP2.tv HQ.2.1,fun q=>?_,by have h9:=HP2.len;omega⟩,HL2.trans (HW2.mono (by have h8:=HL2.size;rw[cB] at h8;exact h8))⟩,by simp[intOf];omega⟩;rw[HP2.mem,HQ.2.2.1,Wc.step HT.2.1.2.2.2.1.2.2 HXT.out HBD.out,or_assoc]
    have hk3:¬(n:Int)<vl:=af
    have hnv:n=vl:=af
    obtain⟨p0,p1,p2,p3,p4,p5⟩:=cs6 Bp;exact qU
  have hk1:¬(k:Int)<l5:=af
  have hkl:k=l5:=af
  obtain⟨k0,k1,k2,k3,k4,k5⟩:=cs6 Bk;exact qB

theorem nS {w:World} {e:TypeId} {size:Nat} {z:Value} (hzs:z.cells.size=size) {k old:Nat} {xs:List Value} (hl:xs.length=k*size) (h63:k<=maxLen) {base:Nat} (hb:base<=w.heap.size):
  (w.drew.alloc (.cells (xs.toArray++yS z.cells (grownCap w k old e - k)) e)).ownsRow base e size (.slice (some ⟨w.heap.size,0,none⟩) k (grownCap w k old e)) k xs/\Below w.heap.size w (w.drew.alloc (.cells (xs.toArray++yS z.cells (grownCap w k old e - k)) e)):=by
 have hge:=grownCap_ge w k old e;have hcm:grownCap w k old e<=maxLen:=grownCap_le_maxLen w k old e h63;refine⟨⟨hl,.inr ⟨w.heap.size,_,_,rfl,hb,heap_alloc_new w.drew _,hge,hcm,?_,?_⟩⟩,⟨rfl,rfl,rfl,by simp,fun j hj=>xM w.drew _ j hj⟩⟩
 ·simp only[Array.size_append,List.size_toArray,size_zeroCells,hzs,hl,<-Nat.add_mul];congr 1;omega
 ·simp only[Array.toList_append];rw[<-hl];exact List.take_left
theorem bZ (w:World) (t ty e:TypeId) (i:TypeInfo) (z:Value) (size bytes:Nat) (ht:Tryz.prog.underlying t=some (.slice e)) (hi:Tryz.prog.info? e=some i) (hz:i.zero=some z)
  (hsize:i.size=size) (hby:i.bytes=bytes) (hzs:z.cells.size=size)
  (bs:Option Addr) (n:Nat) (olds:List Value) (hlo:olds.length=n*size) (hn0:bs=none->n=0) (holds:∀(j:Nat) u,olds[j]?=some u->∃ad:Addr,bs=some ad/\w.cell? (ad.add j)=some u)
  (ad:Addr) (m c:Nat) (news:List Value) (hm:0<m) (hl:news.length=m*size) (hnews:∀(j:Nat) u,news[j]?=some u->w.cell? (ad.add j)=some u)
  (h63:n+m<=maxLen) (hbytes:(n+m)*bytes<=140737488355328):∃v' w',(xU #[t,t] ty #[.slice bs n n,.slice (some ad) m c]).run Tryz.prog w=.ok v' w'/\w'.ownsRow w.heap.size e size v' (n+m) (olds++news)/\Below w.heap.size w w':=by
 subst hsize;subst hby;have hsmall:n+m<=9223372036854775807:=by simp only[maxLen] at h63;omega
 have hall:(olds++news).length=(n+m)*i.size:=by rw[xO,hlo,hl,Nat.add_mul]
 rcases bs with _|b
 ·obtain rfl:=hn0 rfl;have h0:olds=[]:=xN (by simpa using hlo);subst h0;have hr:=run_append_nil (P:=Tryz.prog) w t ty e i z ht hi hz ad m c news hl hnews hm af (by have hb:=hbytes;simp only[xL] at hb;omega);have h2:=nS (w:=w) (e:=e) (old:=0) hzs hl (by omega:m<=maxLen) (xk w.heap.size);exact⟨_,_,hr,by simpa using h2.1,h2.2⟩
 ·have hr:=run_append_grow (P:=Tryz.prog) w t ty e i z ht hi hz b n n olds hlo (fun j u hu=>by obtain⟨ad',e',h3⟩:=holds j u hu;cases e';exact h3) ad m c news hl hnews af af (growslice_fits af hbytes);have h2:=nS (w:=w) (e:=e) (old:=n) hzs hall h63 (xk w.heap.size);have h9:(olds++news).toArray=olds.toArray++news.toArray:=aT
  rw[h9] at h2;exact⟨_,_,hr,h2.1,h2.2⟩
theorem wp_append_run {w:World} {o:Oper} {a:Act} {K:Act->World->Prop} {Q:Exit->Act->World->Prop} (s x:Operand) (t:TypeId) (ho:o.op=.call { callee:=.builtin .append,args:=#[s,x],argTypes:=#[t,t] }) {v u v':Value} {w':World} (hs:a.eval s=v) (hx:a.eval x=u)
  (hr:(xU #[t,t] o.type #[v,u]).run Tryz.prog w=.ok v' w') (h:K (a.put o.dst v') w'):o.wp Tryz.prog a w K Q:=by
 unfold Oper.wp execOp;simp only[ho,resolve,invoke,builtin,Sem.run_bind,Sem.run_pure,Result.andThen_ok,List.map_toArray,List.map_cons,List.map_nil,hs,hx,hr];exact h
structure Lq (B:Nat) (w w':World):Prop where
 os:w'.os=w.os
 tape:w'.tape=w.tape
 output:w'.output=w.output
 size:w.heap.size<=w'.heap.size
 block:∀k,k<w.heap.size->(k<B\/∃(cs:Array Value) (T:TypeId),w.heap[k]?=some (.cells cs T (0,0))/\cs.size=2)->w'.heap[k]?=w.heap[k]?
theorem Lq.bh {B:Nat} {w w':World} (h:Below w.heap.size w w'):Lq B w w':=⟨h.os,h.tape,h.output,h.size,fun k hk _=>h.block k hk⟩
theorem Lq.trans {B:Nat} {a b c:World} (h:Lq B a b) (k:Lq B b c):Lq B a c:=⟨k.os.trans h.os,k.tape.trans h.tape,k.output.trans h.output,xp h.size k.size,fun i hi hp=>by
 have h1:=h.block i hi hp;exact (k.block i (xr hi h.size) (hp.imp id (fun ⟨cs,T,h2,h3⟩=>⟨cs,T,h1.trans h2,h3⟩))).trans h1⟩
theorem Lq.low {w w':World} (h:Lq w.heap.size w w'):Below w.heap.size w w':=⟨h.os,h.tape,h.output,h.size,fun k hk=>h.block k hk (.inl hk)⟩
def Rq (B:Nat) (sp:Tmp):Gi.Rs:=fun s w w'=>match s with
 | none=>Lq B w w'
 | some t=>if t=sp then Lq B w w' else Below w.heap.size w w'
theorem Rq.below {B:Nat} {sp:Tmp} {s:Option Tmp} {w w':World} (h:Rq B sp s w w') (h1:¬s=none) (h2:¬s=some sp):Below w.heap.size w w':=by
 cases s with
 | none=>exact absurd rfl h1
 | some t=>
  simp only[Rq] at h;rw[if_neg (fun e=>h2 (by rw[e]))] at h;exact h
theorem Rq.rel (B:Nat) (sp:Tmp):Gi.Rel (Rq B sp) sp:=by
 refine⟨fun w=>Lq.bh (xj _ _),fun {a b c} h k=>Lq.trans h k,fun h=>Lq.size h,fun w=>Lq.bh (xj _ _).drew,fun s {a b} h=>?_,fun s {a b} h1 h2 h=>Rq.below h h1 h2⟩;cases s with
 | none=>exact h
 | some t=>
  show Lq B a b
  simp only[Rq] at h
  split at h
  ·exact h
  ·exact Lq.bh h
theorem Rq.other {B:Nat} {sp t:Tmp} {w w':World} (ht:¬t=sp) (h:Below w.heap.size w w'):Rq B sp (some t) w w':=by
 show (if t=sp then Lq B w w' else Below w.heap.size w w');rw[if_neg ht];exact h
theorem Rq.this {B:Nat} {sp:Tmp} {w w':World} (h:Lq B w w'):Rq B sp (some sp) w w':=by
 show (if sp=sp then Lq B w w' else Below w.heap.size w w');rw[if_pos rfl];exact h
def B1F (x:Qd):Gi.Fact:=fun u w _ _=> ∃b,u=.slice (some ⟨b,0,none⟩) 1 1/\w.heap[b]?=some (.cells #[.string x.n,.string x.d] 58 (0,0))
theorem B1F.mono {B:Nat} {sp:Tmp} {ex:Gi.Ex} {d:Option Tmp} {x:Qd} :Gi.Fact.bw (Rq B sp) ex d (B1F x):=by
 rintro s _ _ _ v w w' l h ⟨b,h1,h2⟩ hb;have hb:Lq B w w':=(Rq.rel B sp).sub s hb;exact⟨b,h1,(hb.block b (ae h2) (.inr ⟨_,_,h2,rfl⟩)).trans h2⟩
def OwG (B n:Nat) (xs:List Value):Gi.Fact:=fun u w _ _=>w.ownsRow B 58 2 u n xs
theorem OwG.mono {B B' n:Nat} {sp t:Tmp} {ex:Gi.Ex} {xs:List Value} (hx:t=sp\/ex t=some sp):Gi.Fact.bw (Rq B sp) ex (some t) (OwG B' n xs):=by
 rintro s h1 h2 h3 v w w' l h ho hb;refine br ho (Rq.below hb h1 (fun e=>?_));rcases hx with rfl|hx
 ·exact h2 e
 ·exact h3 t sp rfl hx e
theorem eF (w:World) (B:Nat) (t ty e:TypeId) (i:TypeInfo) (z:Value) (bytes:Nat) (ht:Tryz.prog.underlying t=some (.slice e)) (hi:Tryz.prog.info? e=some i) (hz:i.zero=some z)
  (hsize:i.size=2) (hby:i.bytes=bytes) (hzs:z.cells.size=2) (v:Value) (n:Nat) (xs:List Value) (hn:0<n) (hown:w.ownsRow B e 2 v n xs)
  (ax:Option Addr) (m c:Nat) (news:List Value) (hl:news.length=m*2) (hnews:∀(j:Nat) u,news[j]?=some u->∃ad:Addr,ax=some ad/\w.cell? (ad.add j)=some u) (h1:∀u∈news,u.oneCell'=true)
  (h63:n+m<=maxLen) (hbytes:(n+m)*bytes<=140737488355328) (hbase:B<=w.heap.size):
  ∃v' w',(xU #[t,t] ty #[v,.slice ax m c]).run Tryz.prog w=.ok v' w'/\w'.ownsRow B e 2 v' (n+m) (xs++news)/\Lq B w w':=by
 rcases yy m with rfl|hm
 ·have h0:news=[]:=xN (by simpa using hl);subst h0;exact⟨v,w,cF ht hi hown ax c,by simpa using hown,Lq.bh (xj _ _)⟩
 ·obtain⟨ad,rfl,_⟩:=hnews 0 (news[0]'(by omega)) (xm _);have hnw:∀(j:Nat) u,news[j]?=some u->w.cell? (ad.add j)=some u:=fun j u hu=>by
   obtain⟨ad',e',h3⟩:=hnews j u hu;cases e';exact h3
  obtain⟨v',w',hr,h2,h3,h4⟩:=run_append_own (P:=Tryz.prog) w B t ty e i z 2 bytes ht hi hz hsize hby hzs aj v n xs hown ad m c news hl hnw h1 h63 hbytes hbase;exact vd

theorem iL (a:Option Addr) (len cap:Nat) (zs:List Qd) (x:Qd) (B:Nat) (w:World) (ho:az w a len cap 2 58 (zs.map qdF) (fun k=>B<=k)) (hB:B<=w.heap.size) (hri:RQ zs) (hl:len<=64) (hx1:x.n.size<=9223372036854775807) (hx2:x.d.size<=9223372036854775807):
  Calls Tryz.prog 86 #[.slice a len cap,.agg #[.string x.n,.string x.d],.func (.func 87) #[] #[]] w (oe x zs B w):=by
 have hll:zs.length=len:=by simpa using ho.1
 have hlc:len<=cap:=ho.2.1;have hcm:cap<=9223372036854775807:=ho.2.2.1;have HR:=aa ho.row;have HOW0:=aa ho;have HRI:=aa hri;have HB:=aa (xj w.heap.size w);obtain⟨vss,H,hV,hcell⟩:=ho.oC;have hvl:vss.length=len:=by rw[hV.len,xR,hll]
 have HC:Hid (∀(j:Nat) u,vss.flatten[j]?=some u->∃b,a=some ⟨b,0,none⟩/\w.cell? ⟨b,j,none⟩=some u):=fun j u hj=>by
  obtain⟨b,e,_,h3⟩:=hcell j u hj;exact⟨b,e,h3⟩
 obtain⟨HVA,HV1,HFIN⟩:=uh;obtain⟨i5,hi5',hz0,hz1,hz2⟩:=info_parts mC;have HI0:=aa (xf hi5' (xf hz0 (xf hz1 hz2)));clear hi5' hz0 hz1 hz2 hV hcell ho hri;go_enter Tryz.func86,Tryz.ntmps86;go_wp2_with fail;refine (sZ a len cap zs x _ (HR.below (al _ _)) HRI.out hl).mono ?_;rintro e w1 ⟨k,f,rfl,hk,hlt,hfd,hb⟩;obtain⟨HA0,hbx⟩:=aH hb;have Bx:=aa HA0;replace HB:=upB HB hbx;clear hb hbx HA0;have HLT:=aa hlt;clear hlt;rcases hfd with ⟨rfl,hxk⟩|⟨rfl,hgt⟩
 ·have HP:Hid (fU x zs zs):=.inl ⟨xD hxk,rfl⟩;clear hxk;obtain⟨x0,x1⟩:=cs2 Bx;have ltx_1:=ae Bx.out;go_wp2;go_ret;exact⟨_,_,_,_,rfl,HOW0.below HB.out,HP.out,HB.out⟩
 have HP:Hid (fU x zs (bz k x zs)):=.inr ⟨k,hk,rfl,HLT.out,hgt⟩;have hkl:k<=len:=af
 have hkc:k<=cap:=af
 have hik:(k:Int)<=len:=af
 have hic:(k:Int)<=cap:=af
 clear hgt hk;rcases a with _|⟨b2,f2,sp⟩
 ·have hl0:len=0:=yj fun hne0=>by
   have h1:vss[0]?=some (vss[0]'(by omega)):=xm _;have h2:0<(vss[0]'(by omega)).length:=by rw[HVA.out 0 _ h1];decide
   obtain⟨g,e,_⟩:=HC.out _ _ (cM HVA.out h1 (xm h2));cases e
  obtain rfl:k=0:=af
  subst hl0;by_cases hcap:cap=0;all_goals (
   obtain⟨x0,x1⟩:=cs2 Bx;have ltx_1:=ae Bx.out;go_wp2_with fail;clear x0 x1 ltx_1;rename_i K0 hK0;refine Gi.aB (R:=Rq w1.heap.size 28) (ex:=fun q=>if q=24 then some 28 else none) (Rq.rel _ _) an rfl rfl an an ?_;refine' Gi.Grow.ar _ rfl ?_ ?_;rotate_left 1
   ·refine Gi.Obl.plain rfl ?_;intro ac wg K lo hi hsz hW hpr hf hap hK;clear hsz hap hpr;have hW:Lq w1.heap.size w1 wg:=hW;have e0:=hf 0 aj
    simp[Gi.ak,xg] at e0
    clear hf;go_simp;refine hK _ _ (Rq.other aj (xj _ _)) ?_;with_reducible rfl
   refine' Gi.Grow.ar _ rfl ?_ ?_;rotate_left 1
   ·refine Gi.Obl.plain rfl ?_;intro ac wg K lo hi hsz hW hpr hf hap hK;clear hsz hap hpr;have hW:Lq w1.heap.size w1 wg:=hW;have e7:=hf 7 aj
    simp[Gi.ak,xg] at e7
    clear hf;go_simp;refine hK _ _ (Rq.other aj (xj _ _)) ?_;with_reducible rfl
   refine' Gi.Grow.ar _ rfl ?_ ?_;rotate_left 1
   ·refine Gi.Obl.plain rfl ?_;intro ac wg K lo hi hsz hW hpr hf hap hK;clear hsz hap hpr;have hW:Lq w1.heap.size w1 wg:=hW;have e7:=hf 7 aj
    simp[Gi.ak,xg] at e7
    clear hf;go_simp;refine hK _ _ (Rq.other aj (xj _ _)) ?_;with_reducible rfl
   refine' Gi.Grow.ar _ rfl ?_ ?_;rotate_left 1
   ·refine Gi.Obl.plain rfl ?_;intro ac wg K lo hi hsz hW hpr hf hap hK;clear hsz hap hpr;have hW:Lq w1.heap.size w1 wg:=hW;have e18:=hf 18 aj
    simp[Gi.ak,xg] at e18
    have e19:=hf 19 aj
    simp[Gi.ak,xg] at e19
    have e20:=hf 20 aj
    simp[Gi.ak,xg] at e20
    clear hf;go_simp;refine hK _ _ (Rq.other aj (xj _ _)) ?_;with_reducible rfl
   refine' Gi.Grow.ar _ rfl ?_ ?_;rotate_left 1
   ·refine Gi.Obl.plain rfl ?_;intro ac wg K lo hi hsz hW hpr hf hap hK;clear hsz hap hpr;have hW:Lq w1.heap.size w1 wg:=hW;have e4:=hf 4 aj
    simp[Gi.ak,xg] at e4
    clear hf;obtain⟨k0,k1⟩:=cs2 ((hW.low.block _ (ae Bx.out)).trans Bx.out);go_simp;refine hK _ _ (Rq.other aj (xj _ _)) ?_;with_reducible rfl
   refine Gi.Grow.step (B1F x) rfl (B1F.mono) ?_ ?_
   ·refine Gi.Obl.plain rfl ?_;intro ac wg K lo hi hsz hW hpr hf hap hK;clear hsz hap hpr;have hW:Lq w1.heap.size w1 wg:=hW;have e22:=hf 22 aj
    simp[Gi.ak,xg] at e22
    clear hf;go_simp;exact hK _ _ (Rq.other aj (al _ _)) ⟨_,rfl,xt⟩
   refine Gi.Grow.step (OwG w1.heap.size (0+1) ((vss.take 0).flatten++[.string x.n,.string x.d])) rfl (OwG.mono (.inr rfl)) ?_ ?_
   ·refine Gi.Obl.plain rfl ?_;intro ac wg K lo hi hsz hW hpr hf hap hK;clear hsz hap hpr;have hW:Lq w1.heap.size w1 wg:=hW;have e21:=hf 21 aj
    simp[Gi.ak,xg] at e21
    have e23:=hf 23 aj
    simp[Gi.ak,xg] at e23
    clear hf
    have HCG:Hid (∀(j:Nat) u,vss.flatten[j]?=some u->∃b,(none:Option Addr)=some ⟨b,0,none⟩/\wg.cell? ⟨b,j,none⟩=some u):=fun j u hj=>by
     obtain⟨b,e,h3⟩:=HC.out j u hj;exact⟨b,e,(ai (HB.trans (hW.low.mono HB.size)) (x8 _ _ h3)).trans h3⟩
    obtain⟨b5,e23,hg5⟩:=e23
    obtain⟨v',w',hr,h2,h3⟩:=bZ wg 54 54 58 i5 (.agg #[.string ⟨#[]⟩,.string ⟨#[]⟩]) 2 32 Tryz.underlying54 HI0.1 HI0.2.1 HI0.2.2.1 HI0.2.2.2 rfl none 0 (vss.take 0).flatten (cE HVA.out af) (fun e=>yj fun hne=>by
     have h1:vss[0]?=some (vss[0]'(by omega)):=xm _
     have h2:0<(vss[0]'(by omega)).length:=by rw[HVA.out 0 _ h1];decide
     obtain⟨g,e',_⟩:=HC.out _ _ (cM HVA.out h1 (xm h2));rw[e] at e'
     cases e') (fun j u hu=>by
     obtain⟨g,e',h3⟩:=HCG.out _ _ (eU hu)
     exact⟨_,e',by rw[xB,xL];exact h3⟩) ⟨b5,0,none⟩ 1 1 [.string x.n,.string x.d] aj rfl (ee hg5) bJ af
    refine wp_append_run (.tmp 21) (.tmp 23) 54 rfl np nn hr ?_;refine hK _ _ (Rq.other aj h3) ?_;obtain⟨h4,h5⟩:=h2;refine⟨h4,h5.imp id ?_⟩;rintro⟨g,cap',cur,h6,h7,h8⟩;exact⟨g,cap',cur,h6,xp hW.size h7,h8⟩
   refine' Gi.Grow.ar _ rfl ?_ ?_;rotate_left 1
   ·refine Gi.Obl.plain rfl ?_;intro ac wg K lo hi hsz hW hpr hf hap hK;clear hsz hap hpr;have hW:Lq w1.heap.size w1 wg:=hW;have e0:=hf 0 aj
    simp[Gi.ak,xg] at e0
    clear hf;go_simp;refine hK _ _ (Rq.other aj (xj _ _)) ?_;with_reducible rfl
   refine' Gi.Grow.ar _ rfl ?_ ?_;rotate_left 1
   ·refine Gi.Obl.plain rfl ?_;intro ac wg K lo hi hsz hW hpr hf hap hK;clear hsz hap hpr;have hW:Lq w1.heap.size w1 wg:=hW;have e7:=hf 7 aj
    simp[Gi.ak,xg] at e7
    clear hf;go_simp;refine hK _ _ (Rq.other aj (xj _ _)) ?_;with_reducible rfl
   refine' Gi.Grow.ar _ rfl ?_ ?_;rotate_left 1
   ·refine Gi.Obl.plain rfl ?_;intro ac wg K lo hi hsz hW hpr hf hap hK;clear hsz hap hpr;have hW:Lq w1.heap.size w1 wg:=hW;have e25:=hf 25 aj
    simp[Gi.ak,xg] at e25
    have e26:=hf 26 aj
    simp[Gi.ak,xg] at e26
    clear hf;go_simp;refine hK _ _ (Rq.other aj (xj _ _)) ?_;with_reducible rfl
   refine Gi.Grow.step (OwG w1.heap.size (0+1) (bz 0 [.string x.n,.string x.d] vss).flatten) rfl (OwG.mono (.inl rfl)) ?_ ?_
   ·refine Gi.Obl.plain rfl ?_;intro ac wg K lo hi hsz hW hpr hf hap hK;clear hsz hap;have hW:Lq w1.heap.size w1 wg:=hW;have e24:=hf 24 aj
    simp[Gi.ak,xg] at e24
    have e27:=hf 27 aj
    simp[Gi.ak,xg] at e27
    clear hf
    have HCG:Hid (∀(j:Nat) u,vss.flatten[j]?=some u->∃b,(none:Option Addr)=some ⟨b,0,none⟩/\wg.cell? ⟨b,j,none⟩=some u):=fun j u hj=>by
     obtain⟨b,e,h3⟩:=HC.out j u hj;exact⟨b,e,(ai (HB.trans (hW.low.mono HB.size)) (x8 _ _ h3)).trans h3⟩
    have hbW:Below w1.heap.size w1 wg:=hpr rfl;clear hpr
    have e24':wg.ownsRow w1.heap.size 58 2 (ac.tmps.getD 24 undef) (0+1) ((vss.take 0).flatten++[.string x.n,.string x.d]):=by simpa[OwG] using e24
    obtain⟨u4,hu4⟩:∃u4,u4=ac.tmps.getD 24 undef:=⟨_,rfl⟩;obtain⟨ax,c9,e27',hax⟩:∃(ax:Option Addr) (c9:Nat),ac.tmps[27]?.getD undef=.slice ax (0 - 0) c9/\(∀(j:Nat) u,(vss.drop 0).flatten[j]?=some u->∃ad:Addr,ax=some ad/\wg.cell? (ad.add j)=some u):=⟨_,_,e27,fun j u hu=>by first|(rw[xW af] at hu;simp at hu;done)|(obtain⟨g,e',h3⟩:=HCG.out _ _ (fy HVA.out af hu);cases e' <;> exact⟨_,rfl,by simp only[xB,xL];exact h3⟩)⟩;rw[<-hu4] at e24';obtain⟨v',w',hr,h2,h3⟩:=eF wg w1.heap.size 54 30 58 i5 (.agg #[.string ⟨#[]⟩,.string ⟨#[]⟩]) 32 Tryz.underlying54 HI0.1 HI0.2.1 HI0.2.2.1 HI0.2.2.2 rfl u4 (0+1) ((vss.take 0).flatten++[.string x.n,.string x.d]) af e24' ax (0 - 0) c9 (vss.drop 0).flatten kb hax (bB HV1.out 0).2 bJ af j_;refine wp_append_run (.tmp 24) (.tmp 27) 54 rfl nr nq hr ?_;refine hK _ _ (Rq.this h3) ?_
    show w'.ownsRow _ _ _ _ _ _
    have e9:0+1+(0 - 0)=0+1:=af
    rw[e9] at h2
    simpa[bz] using h2
   refine Gi.Grow.done ?_;intro q wz lo hi hW hf hap;clear hap;have hW:Lq w1.heap.size w1 wz:=hW;simp only[xH] at hf;obtain⟨h28,-⟩:=hf;have h28:wz.ownsRow w1.heap.size 58 2 (q 28) (0+1) (bz 0 [.string x.n,.string x.d] vss).flatten:=h28 bA;obtain⟨v8,hv8⟩:∃v8,q 28=v8:=⟨_,rfl⟩;rw[hv8] at h28;have HB7:=aa (HB.trans (hW.low.mono HB.size));obtain⟨a',c',rfl,hR⟩:=HFIN.out wz v8 w1.heap.size 0 af HB.size HB7.out h28;have HR7:=aa hR;clear h28 hR hW;intro K hK;rw[if_pos (by rfl)];simp only[Gi.aI,yo,yx,xx,xG,xK,hv8];simp only[yg];go_simp;refine hK _ _ ?_;refine hK0 _ _ ?_;clear hK hK0 K K0
   go_wp2
   go_ret
   exact⟨a',_,c',_,rfl,HR7.out,HP.out,HB7.out⟩)
 by_cases hcap:cap=k;all_goals (
  obtain⟨x0,x1⟩:=cs2 Bx;have ltx_1:=ae Bx.out;go_wp2_with fail;clear x0 x1 ltx_1;rename_i K0 hK0;refine Gi.aB (R:=Rq w1.heap.size 28) (ex:=fun q=>if q=24 then some 28 else none) (Rq.rel _ _) an rfl rfl an an ?_;refine' Gi.Grow.ar _ rfl ?_ ?_;rotate_left 1
  ·refine Gi.Obl.plain rfl ?_;intro ac wg K lo hi hsz hW hpr hf hap hK;clear hsz hap hpr;have hW:Lq w1.heap.size w1 wg:=hW;have e0:=hf 0 aj
   simp[Gi.ak,xg] at e0
   clear hf;go_simp;refine hK _ _ (Rq.other aj (xj _ _)) ?_;with_reducible rfl
  refine' Gi.Grow.ar _ rfl ?_ ?_;rotate_left 1
  ·refine Gi.Obl.plain rfl ?_;intro ac wg K lo hi hsz hW hpr hf hap hK;clear hsz hap hpr;have hW:Lq w1.heap.size w1 wg:=hW;have e7:=hf 7 aj
   simp[Gi.ak,xg] at e7
   clear hf;go_simp;refine hK _ _ (Rq.other aj (xj _ _)) ?_;with_reducible rfl
  refine' Gi.Grow.ar _ rfl ?_ ?_;rotate_left 1
  ·refine Gi.Obl.plain rfl ?_;intro ac wg K lo hi hsz hW hpr hf hap hK;clear hsz hap hpr;have hW:Lq w1.heap.size w1 wg:=hW;have e7:=hf 7 aj
   simp[Gi.ak,xg] at e7
   clear hf;go_simp;refine hK _ _ (Rq.other aj (xj _ _)) ?_;with_reducible rfl
  refine' Gi.Grow.ar _ rfl ?_ ?_;rotate_left 1
  ·refine Gi.Obl.plain rfl ?_;intro ac wg K lo hi hsz hW hpr hf hap hK;clear hsz hap hpr;have hW:Lq w1.heap.size w1 wg:=hW;have e18:=hf 18 aj
   simp[Gi.ak,xg] at e18
   have e19:=hf 19 aj
   simp[Gi.ak,xg] at e19
   have e20:=hf 20 aj
   simp[Gi.ak,xg] at e20
   clear hf;go_simp;refine hK _ _ (Rq.other aj (xj _ _)) ?_;with_reducible rfl
  refine' Gi.Grow.ar _ rfl ?_ ?_;rotate_left 1
  ·refine Gi.Obl.plain rfl ?_;intro ac wg K lo hi hsz hW hpr hf hap hK;clear hsz hap hpr;have hW:Lq w1.heap.size w1 wg:=hW;have e4:=hf 4 aj
   simp[Gi.ak,xg] at e4
   clear hf;obtain⟨k0,k1⟩:=cs2 ((hW.low.block _ (ae Bx.out)).trans Bx.out);go_simp;refine hK _ _ (Rq.other aj (xj _ _)) ?_;with_reducible rfl
  refine Gi.Grow.step (B1F x) rfl (B1F.mono) ?_ ?_
  ·refine Gi.Obl.plain rfl ?_;intro ac wg K lo hi hsz hW hpr hf hap hK;clear hsz hap hpr;have hW:Lq w1.heap.size w1 wg:=hW;have e22:=hf 22 aj
   simp[Gi.ak,xg] at e22
   clear hf;go_simp;exact hK _ _ (Rq.other aj (al _ _)) ⟨_,rfl,xt⟩
  refine Gi.Grow.step (OwG w1.heap.size (k+1) ((vss.take k).flatten++[.string x.n,.string x.d])) rfl (OwG.mono (.inr rfl)) ?_ ?_
  ·refine Gi.Obl.plain rfl ?_;intro ac wg K lo hi hsz hW hpr hf hap hK;clear hsz hap hpr;have hW:Lq w1.heap.size w1 wg:=hW;have e21:=hf 21 aj
   simp[Gi.ak,xg] at e21
   have e23:=hf 23 aj
   simp[Gi.ak,xg] at e23
   clear hf
   have HCG:Hid (∀(j:Nat) u,vss.flatten[j]?=some u->∃b,(some ⟨b2,f2,sp⟩:Option Addr)=some ⟨b,0,none⟩/\wg.cell? ⟨b,j,none⟩=some u):=fun j u hj=>by
    obtain⟨b,e,h3⟩:=HC.out j u hj;exact⟨b,e,(ai (HB.trans (hW.low.mono HB.size)) (x8 _ _ h3)).trans h3⟩
   obtain⟨b5,e23,hg5⟩:=e23
   obtain⟨v',w',hr,h2,h3⟩:=bZ wg 54 54 58 i5 (.agg #[.string ⟨#[]⟩,.string ⟨#[]⟩]) 2 32 Tryz.underlying54 HI0.1 HI0.2.1 HI0.2.2.1 HI0.2.2.2 rfl (some ⟨b2,f2,sp⟩:Option Addr) k (vss.take k).flatten (cE HVA.out af) (fun e=>yj fun hne=>by
    have h1:vss[0]?=some (vss[0]'(by omega)):=xm _
    have h2:0<(vss[0]'(by omega)).length:=by rw[HVA.out 0 _ h1];decide
    obtain⟨g,e',_⟩:=HC.out _ _ (cM HVA.out h1 (xm h2));rw[e] at e'
    cases e') (fun j u hu=>by
    obtain⟨g,e',h3⟩:=HCG.out _ _ (eU hu)
    exact⟨_,e',by rw[xB,xL];exact h3⟩) ⟨b5,0,none⟩ 1 1 [.string x.n,.string x.d] aj rfl (ee hg5) bJ af
   refine wp_append_run (.tmp 21) (.tmp 23) 54 rfl np nn hr ?_;refine hK _ _ (Rq.other aj h3) ?_;obtain⟨h4,h5⟩:=h2;refine⟨h4,h5.imp id ?_⟩;rintro⟨g,cap',cur,h6,h7,h8⟩;exact⟨g,cap',cur,h6,xp hW.size h7,h8⟩
  refine' Gi.Grow.ar _ rfl ?_ ?_;rotate_left 1
  ·refine Gi.Obl.plain rfl ?_;intro ac wg K lo hi hsz hW hpr hf hap hK;clear hsz hap hpr;have hW:Lq w1.heap.size w1 wg:=hW;have e0:=hf 0 aj
   simp[Gi.ak,xg] at e0
   clear hf;go_simp;refine hK _ _ (Rq.other aj (xj _ _)) ?_;with_reducible rfl
  refine' Gi.Grow.ar _ rfl ?_ ?_;rotate_left 1
  ·refine Gi.Obl.plain rfl ?_;intro ac wg K lo hi hsz hW hpr hf hap hK;clear hsz hap hpr;have hW:Lq w1.heap.size w1 wg:=hW;have e7:=hf 7 aj
   simp[Gi.ak,xg] at e7
   clear hf;go_simp;refine hK _ _ (Rq.other aj (xj _ _)) ?_;with_reducible rfl
  refine' Gi.Grow.ar _ rfl ?_ ?_;rotate_left 1
  ·refine Gi.Obl.plain rfl ?_;intro ac wg K lo hi hsz hW hpr hf hap hK;clear hsz hap hpr;have hW:Lq w1.heap.size w1 wg:=hW;have e25:=hf 25 aj
   simp[Gi.ak,xg] at e25
   have e26:=hf 26 aj
   simp[Gi.ak,xg] at e26
   clear hf;go_simp;refine hK _ _ (Rq.other aj (xj _ _)) ?_;with_reducible rfl
  refine Gi.Grow.step (OwG w1.heap.size (len+1) (bz k [.string x.n,.string x.d] vss).flatten) rfl (OwG.mono (.inl rfl)) ?_ ?_
  ·refine Gi.Obl.plain rfl ?_;intro ac wg K lo hi hsz hW hpr hf hap hK;clear hsz hap;have hW:Lq w1.heap.size w1 wg:=hW;have e24:=hf 24 aj
   simp[Gi.ak,xg] at e24
   have e27:=hf 27 aj
   simp[Gi.ak,xg] at e27
   clear hf
   have HCG:Hid (∀(j:Nat) u,vss.flatten[j]?=some u->∃b,(some ⟨b2,f2,sp⟩:Option Addr)=some ⟨b,0,none⟩/\wg.cell? ⟨b,j,none⟩=some u):=fun j u hj=>by
    obtain⟨b,e,h3⟩:=HC.out j u hj;exact⟨b,e,(ai (HB.trans (hW.low.mono HB.size)) (x8 _ _ h3)).trans h3⟩
   have hbW:Below w1.heap.size w1 wg:=hpr rfl;clear hpr
   have e24':wg.ownsRow w1.heap.size 58 2 (ac.tmps.getD 24 undef) (k+1) ((vss.take k).flatten++[.string x.n,.string x.d]):=by simpa[OwG] using e24
   obtain⟨u4,hu4⟩:∃u4,u4=ac.tmps.getD 24 undef:=⟨_,rfl⟩;obtain⟨ax,c9,e27',hax⟩:∃(ax:Option Addr) (c9:Nat),ac.tmps[27]?.getD undef=.slice ax (len - k) c9/\(∀(j:Nat) u,(vss.drop k).flatten[j]?=some u->∃ad:Addr,ax=some ad/\wg.cell? (ad.add j)=some u):=⟨_,_,e27,fun j u hu=>by first|(rw[xW af] at hu;simp at hu;done)|(obtain⟨g,e',h3⟩:=HCG.out _ _ (fy HVA.out af hu);cases e' <;> exact⟨_,rfl,by simp only[xB,xL];exact h3⟩)⟩;rw[<-hu4] at e24';obtain⟨v',w',hr,h2,h3⟩:=eF wg w1.heap.size 54 30 58 i5 (.agg #[.string ⟨#[]⟩,.string ⟨#[]⟩]) 32 Tryz.underlying54 HI0.1 HI0.2.1 HI0.2.2.1 HI0.2.2.2 rfl u4 (k+1) ((vss.take k).flatten++[.string x.n,.string x.d]) af e24' ax (len - k) c9 (vss.drop k).flatten kb hax (bB HV1.out k).2 bJ af j_;refine wp_append_run (.tmp 24) (.tmp 27) 54 rfl nr nq hr ?_;refine hK _ _ (Rq.this h3) ?_
   show w'.ownsRow _ _ _ _ _ _
   have e9:k+1+(len - k)=len+1:=af
   rw[e9] at h2
   simpa[bz] using h2
  refine Gi.Grow.done ?_;intro q wz lo hi hW hf hap;clear hap;have hW:Lq w1.heap.size w1 wz:=hW;simp only[xH] at hf;obtain⟨h28,-⟩:=hf;have h28:wz.ownsRow w1.heap.size 58 2 (q 28) (len+1) (bz k [.string x.n,.string x.d] vss).flatten:=h28 bA;obtain⟨v8,hv8⟩:∃v8,q 28=v8:=⟨_,rfl⟩;rw[hv8] at h28;have HB7:=aa (HB.trans (hW.low.mono HB.size));obtain⟨a',c',rfl,hR⟩:=HFIN.out wz v8 w1.heap.size k af HB.size HB7.out h28;have HR7:=aa hR;clear h28 hR hW;intro K hK;rw[if_pos (by rfl)];simp only[Gi.aI,yo,yx,xx,xG,xK,hv8];simp only[yg];go_simp;refine hK _ _ ?_;refine hK0 _ _ ?_;clear hK hK0 K K0
  go_wp2
  go_ret
  exact⟨a',_,c',_,rfl,HR7.out,HP.out,HB7.out⟩)

theorem rZ (d:Ad) (c:Cl) (w:World) (hr:aK w d c.raw) (hT:a8 c):
  Calls Tryz.prog 96 #[.agg #[.slice d.a1 d.l1 d.c1,.slice d.a2 d.l2 d.c2,.slice d.a3 d.l3 d.c3,.slice d.a4 d.l4 d.c4,.slice d.a5 d.l5 d.c5,.int .i64 c.now]] w (sy c (w.heap.size+1) w):=by
 obtain⟨a1,l1,y1,a2,l2,y2,a3,l3,y3,a4,l4,y4,a5,l5,y5⟩:=d;dsimp only;obtain⟨HR,hl1,hm1,hl2,hm2,hl3,hm3,hl4,hm4,hl5,hm5⟩:=lP;clear hr;have HT:=aa hT;clear hT;have h58:c.ps.length<=8:=by have:=HT.sm.p;omega
 go_enter Tryz.func96,Tryz.ntmps96;go_wp2;go_loopw [3,13] (fun vo vi wr=> ∃(k:Nat) (ca:Option Addr) (cl cc:Nat) (ys:List Qd),k<=l5/\vi=.int .i64 k/\vo=.slice ca cl cc/\Hid (az wr ca cl cc 2 58 (ys.map qdF) (fun j=>w.heap.size+1<=j)/\RQ ys/\(∀q,q∈ys↔Wn c k q)/\ys.length<=3*k)/\Hid (Below (w.heap.size+1) (w.alloc (.cells #[.slice a1 l1 y1,.slice a2 l2 y2,.slice a3 l3 y3,.slice a4 l4 y4,.slice a5 l5 y5,.int .i64 c.now] 36)) wr)) (fun _ vi _=>l5 - (intOf vi).toNat);case atStart=>exact⟨0,_,0,0,[],by omega,rfl,rfl,⟨⟨rfl,xk _,by omega,.inl rfl⟩,List.Pairwise.nil,fun q=>⟨fun h=>by simp at h,fun ⟨j,p,h,_⟩=>by omega⟩,by simp⟩,xj _ _⟩
 case round=>
  obtain⟨k,ca,cl,cc,ys,hk,rfl,rfl,HQ,HL⟩:=hrel;obtain⟨Bk,HB,hLs⟩:=qg;by_cases hlt:k<l5
  ·obtain⟨b,o,x,rfl,hb,hx,hat⟩:=cj (HR.p.below HB.out) hlt;obtain⟨va,vl,vc,hvr,z0,z2,z4,c0,c1,c2,c3,c4,c5⟩:=aS hat;have HXx:=aa hx;have HTx:=aa hvr;have HZx0:=aa z0;have HZx2:=aa z2;have HZx4:=aa z4;clear hat hx z0 z2 z4 hvr;have hbw:=hb;clear hb;have hk1:(k:Int)<l5:=af
   obtain⟨W1,hW1⟩:∃W1,W1=wr:=⟨_,rfl⟩;subst hW1;have hxz:x.zs.length=vl:=HTx.1;have hpo:=HT.2.1.2.2.2.2.2.1 k x HXx.out;have hv3:vl<=3:=by have h9:(x.zs.length:Int)<=3:=hpo.2.2.2.1.1;omega
   have hyb:=HQ.2.2.2;by_cases hp0:x.p=0
   ·have HHE:Hid (x.d=⟨#[]⟩):=by
     have h3:cN x.d x.p:=hpo.2.2.2.2;rw[hp0] at h3;exact (dG _).1 h3
    have hpb:(x.p==0)=true:=by simpa using hp0
    clear hp0 hpo;obtain⟨k0,k1,k2,k3,k4,k5⟩:=cs6 Bk;have ltk_0:=ae Bk.out;go_wp2;refine⟨⟨k+1,ca,cl,cc,ys,by omega,by go_num,rfl,⟨HQ.1.below (al _ _),HQ.2.1,fun q=>?_,by omega⟩,HL.trans ((al W1 (.cells (pov x va vl vc) 105)).mono af)⟩,by simp[intOf];omega⟩;rw[HQ.2.2.1,Wn.no HXx.out HHE.out]
   have HHE:Hid (¬x.d=⟨#[]⟩):=fun e=>by
    have h3:cN x.d x.p:=hpo.2.2.2.2;rw[e] at h3;rcases h3 with ⟨h3,_⟩|⟨_,h3⟩
    ·exact hp0 h3
    ·have h5:=h3.1;revert h5;decide
   have hpb:(x.p==0)=false:=by simpa using hp0
   clear hp0 hpo;obtain⟨k0,k1,k2,k3,k4,k5⟩:=cs6 Bk;have ltk_0:=ae Bk.out;go_wp2;clear k0 k1 k2 k3 k4 k5 ltk_0;clear c0 c1 c2 c3 c4 c5 hbw;go_loopw [3,23] (fun vo vi wr=> ∃(n:Nat) (ca:Option Addr) (cl cc:Nat) (ys:List Qd),n<=vl/\vi=.int .i64 n/\vo=.slice ca cl cc/\Hid (az wr ca cl cc 2 58 (ys.map qdF) (fun j=>w.heap.size+1<=j)/\RQ ys/\(∀q,q∈ys↔Wn c k q\/Wc c x n q)/\ys.length<=3*k+n)/\Hid (Below (W1.heap.size+1) (W1.alloc (.cells #[.string x.n,.int .i64 x.c,.string x.z,.slice va vl vc,.string x.d,.int .i64 x.p] 105)) wr)) (fun _ vi _=>vl - (intOf vi).toNat);case atStart=>exact⟨0,_,_,_,ys,by omega,rfl,rfl,⟨HQ.1.below (al _ _),HQ.2.1,fun q=>by rw[HQ.2.2.1];exact⟨.inl,fun h=>h.elim id (fun ⟨i,t,v,h,_⟩=>by omega)⟩,by omega⟩,xj _ _⟩
   case round=>
    clear HQ hyb;obtain⟨n,ca,cl,cc,ys,hn,rfl,rfl,HQ,HL2⟩:=hrel;obtain⟨hbP,Bp⟩:=tN;replace Bk:=upK Bk hbP;replace HB:=upB HB hbP;have HBP:=aa hbP;have hs2:=hbP.size;obtain⟨hs3,hyl,hyb⟩:=qb;clear hbP;by_cases hlt2:n<vl
    ·have hk3:(n:Int)<vl:=af
     obtain⟨b2,o2,t,rfl,hb2,hx2,hc2,hsz2⟩:=(HTx.below HBP.out).at hlt2;have HXT:=aa hx2;obtain⟨v,hbd⟩:∃v,bp c t v:=by
      exact rz
     have HBD:=aa hbd;have HZD:Hid (x.d.size<=9223372036854775807):=HZx4.out;clear hbd hx2 hsz2;have HY2:Hid (Bw wr wr):=Bw.refl _;obtain⟨k0,k1,k2,k3,k4,k5⟩:=cs6 Bk;have ltk_0:=ae Bk.out;obtain⟨p0,p1,p2,p3,p4,p5⟩:=cs6 Bp;have ltp_0:=ae Bp.out;go_wp2_with fail;refine (jw ⟨a1,l1,y1,a2,l2,y2,a3,l3,y3,a4,l4,y4,(some ⟨b,o,none⟩),l5,y5⟩ c t w _ HR.out HB.out HT.2.1.2.2.2.1.2.2 HT.2.1.2.2.1.2.2 (fun j v hv e=>by have h9:=(HT.2.1.2.2.1.2.1 j v hv).1;rw[e] at h9;have h8:=h9.1;revert h8;decide)).mono ?_;rintro e w2 ⟨hb3,hf⟩;clear k0 k1 k2 k3 k4 k5 ltk_0 p0 p1 p2 p3 p4 p5 ltp_0;replace Bk:=upK Bk hb3;replace Bp:=upK Bp hb3;replace HY2:=aa (HY2.below hb3);replace HB:=upB HB hb3;clear hb3;clear hb2 hc2;rcases hf with ⟨v1,va2,vl2,vc2,hb1,rfl,hz1,-,-⟩|⟨hno,rfl⟩;rotate_left
     ·exact absurd HBD.out (hno v)
     have HB1:=aa hb1;have HZ1:=aa hz1;clear hb1 hz1;obtain⟨k0,k1,k2,k3,k4,k5⟩:=cs6 Bk;have ltk_1:=ae Bk.out;obtain⟨p0,p1,p2,p3,p4,p5⟩:=cs6 Bp;have ltp_1:=ae Bp.out;go_wp2_with fail;refine (iL ca cl cc ys ⟨v1.n,x.d⟩ (w.heap.size+1) _ (HQ.1.below (HY2.below (al _ _)).out) (by have:=HY2.le;simp only[cB];omega) HQ.2.1 af HZ1.out HZD.out).mono ?_;rintro e w3 ⟨sa,sl,sc,zs2,rfl,ho2,hp2,hb3⟩;clear k0 k1 k2 k3 k4 k5 ltk_1 p0 p1 p2 p3 p4 p5 ltp_1;obtain⟨HA0,hbx⟩:=aH hb3;replace Bk:=upK Bk hbx;replace Bp:=upK Bp hbx;have Bv:=aa HA0;replace HY2:=aa (HY2.below hbx);replace HB:=upB HB hbx;clear hb3 hbx HA0;have HP2:=aa hp2;have HO2:=aa ho2;clear hp2 ho2;obtain⟨k0,k1,k2,k3,k4,k5⟩:=cs6 Bk;have ltk_2:=ae Bk.out;obtain⟨p0,p1,p2,p3,p4,p5⟩:=cs6 Bp;have ltp_2:=ae Bp.out;go_wp2;refine⟨⟨n+1,sa,sl,sc,zs2,by omega,by go_num,rfl,⟨HO2.out,HP2.tv HQ.2.1,fun q=>?_,by have h9:=HP2.len;omega⟩,HL2.trans (HY2.out.mono hs3)⟩,by simp[intOf];omega⟩;rw[HP2.mem,HQ.2.2.1,Wc.step HT.2.1.2.2.2.1.2.2 HXT.out HB1.out,or_assoc]
    have hk3:¬(n:Int)<vl:=af
    have hnv:n=vl:=af
    obtain⟨p0,p1,p2,p3,p4,p5⟩:=cs6 Bp;have ltp_0:=ae Bp.out;exact qU
  have hk1:¬(k:Int)<l5:=af
  have hkl:k=l5:=af
  obtain⟨k0,k1,k2,k3,k4,k5⟩:=cs6 Bk;have ltk_0:=ae Bk.out;exact qB

def fT (W:World) (nb vb:Nat) (t:ByteArray) (v:Vd) (ua:Option Addr) (ul uc:Nat):Prop:=W.heap[nb]?=some (.cells #[.string t] 9 (0,0))/\W.heap[vb]?=some (.cells #[.string v.n,.int .i64 v.c,.string v.z,.string v.k,.bool v.x,.string v.m,.bool v.y,.slice ua ul uc] 62 (0,0))
theorem fT.below {W W':World} {nb vb:Nat} {t:ByteArray} {v:Vd} {ua:Option Addr} {ul uc:Nat} (h:fT W nb vb t v ua ul uc) (hb:Below W.heap.size W W'):fT W' nb vb t v ua ul uc:=
 ⟨(hb.block _ (ae h.1)).trans h.1,(hb.block _ (ae h.2)).trans h.2⟩
def ia (p:Pd) (t m:ByteArray):Prop:=p.d=t/\InL p.zs m

theorem sQ (p:Pd) (va:Option Addr) (vl vc nb vb:Nat) (t:ByteArray) (v:Vd) (ua:Option Addr) (ul uc:Nat) (w:World) (hr:av w va vl vc p.zs) (hh:fT w nb vb t v ua ul uc):
  Calls Tryz.prog 142 #[.agg #[.string p.n,.int .i64 p.c,.string p.z,.slice va vl vc,.string p.d,.int .i64 p.p],.pointer (some ⟨nb,0,none⟩),.pointer (some ⟨vb,0,none⟩)] w (aq (ia p t v.m) w):=by
 have HR:=aa hr;obtain⟨h1,h2⟩:=hh;have n0:=cs1 h1;have hnl:=ae h1;obtain⟨v0,v1,v2,v3,v4,v5,v6,v7⟩:=cs8 h2;have hvl:=ae h2;clear hr h1 h2;by_cases he:p.d=t
 ·have hq:=a_ he;have HE:=aa he;clear he;go_enter Tryz.func142,Tryz.ntmps142;go_wp2_with fail;refine (bE va vl vc p.zs v.m _ (HR.below (al _ _))).mono ?_;rintro e w1 ⟨r,rfl,hi,hb⟩;have HB:=aa ((al w _).trans (hb.mono aT));clear hb;go_wp2;go_ret;exact⟨r,rfl,⟨fun h=>⟨HE.out,hi.1 h⟩,fun h=>hi.2 h.2⟩,HB.out⟩
 ·have hq:=bL he;have HE:=aa he;clear he;go_enter Tryz.func142,Tryz.ntmps142;go_wp2;go_ret;exact aq.f (fun h=>HE.out h.1) (al _ _)

theorem sO (a:Option Addr) (len cap:Nat) (ps:List Pd) (nb vb:Nat) (t:ByteArray) (v:Vd) (ua:Option Addr) (ul uc:Nat) (w:World) (hr:aF w a len cap 6 (ps.map pdF)) (hh:fT w nb vb t v ua ul uc):
  Calls Tryz.prog 174 #[.slice a len cap,.func (.func 142) #[] #[.pointer (some ⟨nb,0,none⟩),.pointer (some ⟨vb,0,none⟩)]] w fun e w'=>(∃r:Int,e=.returned (.int .i64 r)/\((0<=r/\∃(j:Nat) (p:Pd),ps[j]?=some p/\ia p t v.m)\/(r= -1/\∀(j:Nat) (p:Pd),ps[j]?=some p->¬ia p t v.m)))/\Below w.heap.size w w':=by
 have HR:=aa hr;have HH:=aa hh;have hlc:=xp hr.2.1 hr.2.2.1;have hxl:ps.length=len:=dA
 clear hr hh;go_enter Tryz.func174,Tryz.ntmps174;go_wp2;go_loopw [8] (fun i wr=> ∃k:Nat,k<=len/\i=.int .i64 k/\Hid (∀(j:Nat) p,j<k->ps[j]?=some p->¬ia p t v.m)/\Hid (Below w.heap.size w wr)) (fun i _=>len - (intOf i).toNat);case atStart=>exact⟨0,by omega,rfl,fun _ _ h=>absurd h af,xj _ _⟩
 case round=>
  obtain⟨k,hk,rfl,HE,HB⟩:=hrel;by_cases hlt:k<len
  ·obtain⟨b,o,p,rfl,hb,hx,hat⟩:=cj (HR.below HB.out) hlt;obtain⟨va,vl,vc,hvr,z0,z2,z4,c0,c1,c2,c3,c4,c5⟩:=aS hat;have HX:=aa hx;have HV:=aa hvr;clear hat hx hvr z0 z2 z4;go_wp2_with fail;refine (sQ p va vl vc nb vb t v ua ul uc _ HV.out (HH.below HB.out)).mono ?_;rintro e w1 ⟨r,rfl,hi,hb1⟩;have HI:=aa hi;have HB1:=upB HB hb1;clear hi hb1 c0 c1 c2 c3 c4 c5;cases r
   ·go_wp2;refine⟨⟨k+1,by omega,by go_num,fun j z hj hz=>?_,HB1.out⟩,by simp[intOf];omega⟩;by_cases e:j=k
    ·subst e;rw[HX.out] at hz;obtain rfl:=xh hz;exact fun q=>(by have:=HI.2 q;cases this)
    ·exact HE.out j z af hz
   ·go_wp2;go_ret;exact⟨⟨k,rfl,.inl ⟨by omega,k,p,HX.out,HI.1 bA⟩⟩,HB1.out⟩
  ·obtain rfl:len=k:=af
   go_wp2;go_ret;exact⟨⟨-1,rfl,.inr ⟨rfl,fun j p hj=>HE.out j p iz hj⟩⟩,HB.out⟩

theorem sP (a:Option Addr) (len cap:Nat) (ps:List Pd) (nb vb:Nat) (t:ByteArray) (v:Vd) (ua:Option Addr) (ul uc:Nat) (w:World) (hr:aF w a len cap 6 (ps.map pdF)) (hh:fT w nb vb t v ua ul uc):
  Calls Tryz.prog 141 #[.slice a len cap,.func (.func 142) #[] #[.pointer (some ⟨nb,0,none⟩),.pointer (some ⟨vb,0,none⟩)]] w (aq (∃(j:Nat) (p:Pd),ps[j]?=some p/\ia p t v.m) w):=by
 have HR:=aa hr;have HH:=aa hh;clear hr hh;go_enter Tryz.func141,Tryz.ntmps141;go_wp2_with fail;refine (sO a len cap ps nb vb t v ua ul uc _ HR.out HH.out).mono ?_;rintro e w1 ⟨⟨r,rfl,hi⟩,hb⟩;have HB:=aa hb;clear hb;rcases hi with ⟨h0,h1⟩|⟨rfl,h1⟩
 ·have H1:=aa h1;clear h1;go_wp2;go_ret;exact aq.t H1.out HB.out
 ·have H1:=aa h1;clear h1;go_wp2;go_ret;exact aq.f (fun ⟨j,p,h2,h3⟩=>H1.out j p h2 h3) HB.out

theorem sV (d:Ad) (c:Cl) (v:Vd) (ua:Option Addr) (ul uc:Nat) (t:ByteArray) (w:World) (hr:aK w d c.raw):
  Calls Tryz.prog 84 #[.agg #[.slice d.a1 d.l1 d.c1,.slice d.a2 d.l2 d.c2,.slice d.a3 d.l3 d.c3,.slice d.a4 d.l4 d.c4,.slice d.a5 d.l5 d.c5,.int .i64 c.now],.agg #[.string v.n,.int .i64 v.c,.string v.z,.string v.k,.bool v.x,.string v.m,.bool v.y,.slice ua ul uc],.string t] w (aq (∃(j:Nat) (p:Pd),c.ps[j]?=some p/\ia p t v.m) w):=by
 obtain⟨HR,HB⟩:=gL;clear hr;go_enter Tryz.func84,Tryz.ntmps84;go_wp2_with fail;refine (sP d.a5 d.l5 d.c5 c.ps (w.heap.size+1+1) (w.heap.size+1) t v ua ul uc _ (HR.p.below (HB.trans ((bS _ _ _ _).mono HB.size))) ⟨dN _ _ _ _,dO _ _ _ _⟩).mono ?_;rintro e w1 ⟨r,rfl,hi,hb⟩;obtain⟨HA0,HA1,HA2,hbx⟩:=pK hb;replace HB:=upB HB hbx;clear hb hbx HA0 HA1 HA2;have HI:=aa hi;clear hi;go_wp2;go_ret;exact⟨r,rfl,HI.out,HB.out⟩

def ln (c:Cl) (n:Nd) (t:ByteArray):Prop:=(n.d=true/\n.u+5<c.now)\/(n.d=false/\¬InL n.zs t)
theorem oz (a:Option Addr) (len cap:Nat) (zs:List Qd) (x:Qd) (w:World) (hr:aF w a len cap 2 (zs.map qdF)):
  Calls Tryz.prog 65 #[.slice a len cap,.agg #[.string x.n,.string x.d]] w (aq (x∈zs) w):=by
 have HR:=aa hr;have hzl:zs.length=len:=dA
 have hlc:len<=9223372036854775807:=xp hr.2.1 hr.2.2.1;clear hr;go_enter Tryz.func65,Tryz.ntmps65;go_wp2;go_loopw [5] (fun vi wr=> ∃k:Nat,k<=len/\vi=.int .i64 k/\Hid (∀(j:Nat) y,j<k->zs[j]?=some y->¬y=x)/\Hid (Below (w.heap.size+1) (w.alloc (.cells #[.string x.n,.string x.d] 58)) wr)) (fun vi _=>len - (intOf vi).toNat);case atStart=>exact⟨0,by omega,rfl,fun j y h=>by omega,xj _ _⟩
 case round=>
  obtain⟨k,hk,rfl,HI,HL⟩:=hrel;have hLs:w.heap.size+1<=wr.heap.size:=by have h8:=HL.size;rw[cB] at h8;exact h8
  obtain⟨HB,Bx⟩:=p_;by_cases hlt:k<len
  ·have hk1:(k:Int)<len:=af
   obtain⟨b,o,y,rfl,hb,hy,hat⟩:=eJ (HR.below HB.out) hlt;obtain⟨-,-,hc0,hc1⟩:=b8 hat;have HY:=aa hy;clear hat hy;by_cases he:y=x
   ·have hqe:∀W:World,(Op.equalIn 10000 58 (.agg #[.string y.n,.string y.d]) (.agg #[.string x.n,.string x.d])).run Tryz.prog W=.ok true W:=fun W=>by rw[eqQ];rw[he];simp
    have HE:=aa he;clear he;obtain⟨x0,x1⟩:=cs2 Bx;go_wp2_with fail;clear x0 x1;have Gx:=Bx;have HW:=HB;obtain⟨x0,x1⟩:=sl2 Gx;obtain⟨yn,yd,hne0⟩:=iA;go_wp2_with fail;refine ag an an ?_;repeat (go_big_quiet_step (first|fail))
    refine wpQuiet_nil ?_;rintro _ ⟨q1,rfl⟩;have HB1:=upB HW q1.b;have Cx:=upK Gx q1.b;clear hne0 HW HB x0 x1 yn yd Gx Bx hb hc0 hc1 hqe;have HB:=HB1;clear HB1;have Bx:=Cx;clear Cx;go_wp2;go_ret;exact aq.t (by rw[<-HE.out];exact xD HY.out) HB.out
   have hqe:∀W:World,(Op.equalIn 10000 58 (.agg #[.string y.n,.string y.d]) (.agg #[.string x.n,.string x.d])).run Tryz.prog W=.ok false W:=fun W=>by rw[eqQ];exact congrArg (Result.ok · W) (by
    cases h1:(y.n.toList==x.n.toList)
    ·rfl
    ·cases h2:(y.d.toList==x.d.toList)
     ·rfl
     ·exact absurd tB he)
   have HE:=aa he;clear he;obtain⟨x0,x1⟩:=cs2 Bx;go_wp2_with fail;clear x0 x1;have Gx:=Bx;have HW:=HB;obtain⟨x0,x1⟩:=sl2 Gx;obtain⟨yn,yd,hne0⟩:=iA;go_wp2_with fail;refine ag an an ?_;repeat (go_big_quiet_step (first|fail))
   refine wpQuiet_nil ?_;rintro _ ⟨q1,rfl⟩;have HB1:=upB HW q1.b;have Cx:=upK Gx q1.b;clear hne0 HW HB x0 x1 yn yd Gx Bx hb hc0 hc1 hqe;have HB:=HB1;clear HB1;have Bx:=Cx;clear Cx;go_wp2;refine⟨⟨k+1,by omega,by go_num,fun j z hj hz=>?_,HL.trans (q1.b.mono af)⟩,by simp[intOf];omega⟩;by_cases e:j=k
   ·subst e;rw[HY.out] at hz;obtain rfl:=xh hz;exact HE.out
   ·exact HI.out j z af hz
  have hk1:¬(k:Int)<len:=af
  obtain⟨x0,x1⟩:=cs2 Bx;go_wp2;go_ret;exact aq.f (fun h=>by obtain⟨j,hj⟩:=xS h;exact HI.out j x iz hj rfl) HB.out

theorem lF (d:Ad) (now:Int) (n:Nd) (va:Option Addr) (vl vc:Nat) (w:World) (h0:0<=n.u) (h1:n.u<=1000000):
  Calls Tryz.prog 122 #[.agg #[.slice d.a1 d.l1 d.c1,.slice d.a2 d.l2 d.c2,.slice d.a3 d.l3 d.c3,.slice d.a4 d.l4 d.c4,.slice d.a5 d.l5 d.c5,.int .i64 now],.agg #[.string n.n,.string n.z,.int .i64 n.c,.int .i64 n.s,.int .i64 n.u,.bool n.d,.slice va vl vc]] w fun e w'=>e=.returned (.bool (n.d && decide (n.u+5<now)))/\Below w.heap.size w w':=by
 cases hd:n.d;all_goals (
  go_enter Tryz.func122,Tryz.ntmps122
  go_wp2
  go_ret
  exact⟨by simp,aM _ _ _⟩)

theorem ld (d:Ad) (now:Int) (n:Nd) (va:Option Addr) (vl vc:Nat) (w:World):
  Calls Tryz.prog 144 #[.agg #[.slice d.a1 d.l1 d.c1,.slice d.a2 d.l2 d.c2,.slice d.a3 d.l3 d.c3,.slice d.a4 d.l4 d.c4,.slice d.a5 d.l5 d.c5,.int .i64 now],.agg #[.string n.n,.string n.z,.int .i64 n.c,.int .i64 n.s,.int .i64 n.u,.bool n.d,.slice va vl vc]] w fun e w'=>e=.returned (.agg #[.int .i64 n.u,.int .i64 now])/\Below w.heap.size w w':=by
 go_enter Tryz.func144,Tryz.ntmps144;go_wp2;exact bodyPost_ret (v:=.agg #[.int .i64 n.u,.int .i64 now]) (by simp[results,Tryz.results144,go_sem]) rfl ⟨rfl,bS _ _ _ _⟩

theorem oO (u now:Int) (w:World) (h0:0<=u) (h1:u<=1000000):
  Calls Tryz.prog 145 #[.agg #[.int .i64 u,.int .i64 now]] w fun e w'=>e=.returned (.bool (decide (u+5<now)))/\Below w.heap.size w w':=by
 go_enter Tryz.func145,Tryz.ntmps145;go_wp2;go_ret;exact⟨rfl,al _ _⟩

def tn (B:Nat):Fact:=fun v w=> ∃b,v=.pointer (some ⟨b,0,none⟩)/\B<=b/\w.heap[b]?=some (.cells #[.string ⟨#[]⟩,.string ⟨#[]⟩,.int .i64 0,.int .i64 0,.int .i64 0,.bool false,.slice none 0 0] 103 (0,0))
theorem tn.mono (B:Nat):Fact.bw (tn B):=by
 exact kD
theorem a8.tt {c:Cl} {n:Nd} {j:Nat} (h:a8 c) (hn:c.ns[j]?=some n):0<=n.u/\n.u<=1000000:=(h.2.1.1.2.1 j n hn).2.2.2.2.1
theorem iG {c:Cl} {n:Nd} {t:ByteArray} (h:n.d=true):ln c n t↔n.u+5<c.now:=by
 unfold ln;rw[h];simp
theorem gY {c:Cl} {n:Nd} {t:ByteArray} (h:n.d=false):ln c n t↔¬InL n.zs t:=by
 unfold ln;rw[h];simp

theorem pJ (d:Ad) (c:Cl) (x:Qd) (j:Nat) (n:Nd) (w:World) (hr:aK w d c.raw) (hT:a8 c) (hn:c.ns[j]?=some n) (hnn:n.n=x.d):
  Calls Tryz.prog 66 #[.agg #[.slice d.a1 d.l1 d.c1,.slice d.a2 d.l2 d.c2,.slice d.a3 d.l3 d.c3,.slice d.a4 d.l4 d.c4,.slice d.a5 d.l5 d.c5,.int .i64 c.now],.agg #[.string x.n,.string x.d]] w (aq (ln c n x.n) w):=by
 obtain⟨a1,l1,y1,a2,l2,y2,a3,l3,y3,a4,l4,y4,a5,l5,y5⟩:=d;dsimp only;obtain⟨HR,hl1⟩:=pT;clear hr;have HT:=aa hT;have HN:=aa hn;have HNN:=aa hnn;have hj1:j<l1:=by have:=(xe.1 hn).1;omega
 have hj2:(j:Int)<l1:=af
 have hj0:¬(j:Int)<0:=af
 have hu:=a8.tt hT hn;clear hT hn hnn;have HB:=aa (xj w.heap.size w);obtain⟨b,o,y,rfl,hbl,hy,hat⟩:=bU HR.n hj1;rw[HN.out] at hy;obtain rfl:=xh hy;obtain⟨va,vl,vc,hvr,-,-,d0,d1,d2,d3,d4,d5,d6⟩:=aQ hat;have HV:=aa hvr;clear hat hy hvr;go_enter Tryz.func66,Tryz.ntmps66;go_wp2_with fail;obtain⟨W,hW0⟩:∃W,W=((w.alloc (.cells (clo6 (some ⟨b,o,none⟩) l1 y1 a2 l2 y2 a3 l3 y3 a4 l4 y4 a5 l5 y5 c.now) 36)).alloc (.cells #[.string x.n,.string x.d] 58)):=⟨_,rfl⟩;have Bk:Hid (W.heap[w.heap.size]?=some (.cells (clo6 (some ⟨b,o,none⟩) l1 y1 a2 l2 y2 a3 l3 y3 a4 l4 y4 a5 l5 y5 c.now) 36 (0,0))):=by rw[hW0];exact cL _ _ _
 obtain⟨Bx,HBW⟩:=tD;have HNC:=aa (xf d0 (xf d1 (xf d2 (xf d3 (xf d4 (xf d5 d6))))));have HBL:=aa hbl;rw[<-hW0];clear hW0 d0 d1 d2 d3 d4 d5 d6 hbl;rename_i K0 hK0;refine aB an rfl rfl an ?_;refine Grow.bf ?_;refine Grow.bT Bk.out ?_;refine Grow.bT Bk.out ?_;refine Grow.bf ?_;refine Grow.bT Bx.out ?_;refine' Grow.ar (.int .i64 j) rfl ?_ ?_
 ·refine Obl.plain rfl ?_;intro ac wg K hsz hW hf hK;clear hsz;have e8:=hf 8 aj;simp[ak,xg] at e8;have e10:=hf 10 aj;simp[ak,xg] at e10;clear hf;go_simp;refine (dZ ⟨(some ⟨b,o,none⟩),l1,y1,a2,l2,y2,a3,l3,y3,a4,l4,y4,a5,l5,y5⟩ c.now c.ns x.d _ (HR.n.below (HBW.trans (hW.mono HBW.size))) HT.2.1.1.2.2 HN.out HNN.out).mono ?_;rintro e w6 ⟨rfl,hb6⟩;exact hK _ _ hb6 rfl
 refine Grow.bf ?_;refine' Grow.ar _ rfl ?_ ?_;rotate_left 1
 ·refine Obl.plain rfl ?_;intro ac wg K hsz hW hf hK;clear hsz;have e12:=hf 12 aj;simp[ak,xg] at e12;clear hf;obtain⟨d0,d1,d2,d3,d4,d5,d6⟩:=HNC.out;have hbg:=HBW.trans (hW.mono HBW.size);replace d0:=(ai hbg HBL.out).trans d0;replace d1:=(ai hbg HBL.out).trans d1;replace d2:=(ai hbg HBL.out).trans d2;replace d3:=(ai hbg HBL.out).trans d3;replace d4:=(ai hbg HBL.out).trans d4;replace d5:=(ai hbg HBL.out).trans d5;replace d6:=(ai hbg HBL.out).trans d6;exact bx
 refine Grow.step (tn W.heap.size) rfl (tn.mono _) ?_ ?_
 ·exact gO
 refine Grow.done ?_;intro q wz hW hf;simp only[xH] at hf;obtain⟨⟨b9,h5,hb9,hg9⟩,h13,-⟩:=hf;have g0:=hg9;have g1:(wz.setCell ⟨b9,0,none⟩ (.string n.n)).heap[b9]?=some (.cells #[.string n.n,.string ⟨#[]⟩,.int .i64 0,.int .i64 0,.int .i64 0,.bool false,.slice none 0 0] 103 (0,0)):=au g0 _;have g2:((wz.setCell ⟨b9,0,none⟩ (.string n.n)).setCell ⟨b9,1,none⟩ (.string n.z)).heap[b9]?=some (.cells #[.string n.n,.string n.z,.int .i64 0,.int .i64 0,.int .i64 0,.bool false,.slice none 0 0] 103 (0,0)):=au g1 _;have g3:(((wz.setCell ⟨b9,0,none⟩ (.string n.n)).setCell ⟨b9,1,none⟩ (.string n.z)).setCell ⟨b9,2,none⟩ (.int .i64 n.c)).heap[b9]?=some (.cells #[.string n.n,.string n.z,.int .i64 n.c,.int .i64 0,.int .i64 0,.bool false,.slice none 0 0] 103 (0,0)):=au g2 _;have g4:((((wz.setCell ⟨b9,0,none⟩ (.string n.n)).setCell ⟨b9,1,none⟩ (.string n.z)).setCell ⟨b9,2,none⟩ (.int .i64 n.c)).setCell ⟨b9,3,none⟩ (.int .i64 n.s)).heap[b9]?=some (.cells #[.string n.n,.string n.z,.int .i64 n.c,.int .i64 n.s,.int .i64 0,.bool false,.slice none 0 0] 103 (0,0)):=au g3 _;have g5:(((((wz.setCell ⟨b9,0,none⟩ (.string n.n)).setCell ⟨b9,1,none⟩ (.string n.z)).setCell ⟨b9,2,none⟩ (.int .i64 n.c)).setCell ⟨b9,3,none⟩ (.int .i64 n.s)).setCell ⟨b9,4,none⟩ (.int .i64 n.u)).heap[b9]?=some (.cells #[.string n.n,.string n.z,.int .i64 n.c,.int .i64 n.s,.int .i64 n.u,.bool false,.slice none 0 0] 103 (0,0)):=au g4 _;have g6:((((((wz.setCell ⟨b9,0,none⟩ (.string n.n)).setCell ⟨b9,1,none⟩ (.string n.z)).setCell ⟨b9,2,none⟩ (.int .i64 n.c)).setCell ⟨b9,3,none⟩ (.int .i64 n.s)).setCell ⟨b9,4,none⟩ (.int .i64 n.u)).setCell ⟨b9,5,none⟩ (.bool n.d)).heap[b9]?=some (.cells (nov n none 0 0) 103 (0,0)):=au g5 _;have g7:(((((((wz.setCell ⟨b9,0,none⟩ (.string n.n)).setCell ⟨b9,1,none⟩ (.string n.z)).setCell ⟨b9,2,none⟩ (.int .i64 n.c)).setCell ⟨b9,3,none⟩ (.int .i64 n.s)).setCell ⟨b9,4,none⟩ (.int .i64 n.u)).setCell ⟨b9,5,none⟩ (.bool n.d)).setCell ⟨b9,6,none⟩ (.slice va vl vc)).heap[b9]?=some (.cells (nov n va vl vc) 103 (0,0)):=au g6 _;obtain⟨t0,t1,t2,t3,t4,t5,t6⟩:=cs7 hg9;have f0:=aw hg9 0;have f1:=aw hg9 1;have f2:=aw hg9 2;have f3:=aw hg9 3;have f4:=aw hg9 4;have f5:=aw hg9 5;have f6:=aw hg9 6;have Bn:=aa g7;have HWX:Hid (Below W.heap.size W (((((((wz.setCell ⟨b9,0,none⟩ (.string n.n)).setCell ⟨b9,1,none⟩ (.string n.z)).setCell ⟨b9,2,none⟩ (.int .i64 n.c)).setCell ⟨b9,3,none⟩ (.int .i64 n.s)).setCell ⟨b9,4,none⟩ (.int .i64 n.u)).setCell ⟨b9,5,none⟩ (.bool n.d)).setCell ⟨b9,6,none⟩ (.slice va vl vc))):=ah hb9 (ah hb9 (ah hb9 (ah hb9 (ah hb9 (ah hb9 (ah hb9 (hW)))))));clear g0 g1 g2 g3 g4 g5 g6 g7 hg9;intro K hK;rw[if_pos (by rfl)];simp only[aI,yo,yx,xx,xG,xK,h5,h13];simp only[yg];go_simp;refine hK _ _ ?_;refine hK0 _ _ ?_;clear hK hK0 K K0;generalize (((((((wz.setCell ⟨b9,0,none⟩ (.string n.n)).setCell ⟨b9,1,none⟩ (.string n.z)).setCell ⟨b9,2,none⟩ (.int .i64 n.c)).setCell ⟨b9,3,none⟩ (.int .i64 n.s)).setCell ⟨b9,4,none⟩ (.int .i64 n.u)).setCell ⟨b9,5,none⟩ (.bool n.d)).setCell ⟨b9,6,none⟩ (.slice va vl vc))=X3 at Bn HWX ⊢
 clear t0 t1 t2 t3 t4 t5 t6 f0 f1 f2 f3 f4 f5 f6;have HB3:=aa (HBW.trans (HWX.mono HBW.size));replace Bk:=aa ((HWX.block _ (ae Bk.out)).trans Bk.out);replace Bx:=aa ((HWX.block _ (ae Bx.out)).trans Bx.out);clear HB hW HWX HBW;have HB:=HB3;clear HB3;cases hd:n.d
 ·have HD:=aa hd;clear hd;(try unfold nov at Bn);rw[HD.out] at Bn;obtain⟨k0,k1,k2,k3,k4,k5⟩:=cs6 Bk;obtain⟨x0,x1⟩:=cs2 Bx;obtain⟨n0,n1,n2,n3,n4,n5,n6⟩:=cs7 Bn;go_wp2_with fail;refine (ct va vl vc n.zs x.n _ (HV.below HB.out)).mono ?_;rintro e w4 ⟨r,rfl,hh,hb⟩;clear k0 k1 k2 k3 k4 k5 x0 x1 n0 n1 n2 n3 n4 n5 n6;replace Bk:=upK Bk hb;replace Bx:=upK Bx hb;replace Bn:=upK Bn hb;replace HB:=upB HB hb;clear hb;have HH:=aa hh;clear hh;obtain⟨k0,k1,k2,k3,k4,k5⟩:=cs6 Bk;obtain⟨x0,x1⟩:=cs2 Bx;obtain⟨n0,n1,n2,n3,n4,n5,n6⟩:=cs7 Bn;exact uv
 ·have HD:=aa hd;clear hd;(try unfold nov at Bn);rw[HD.out] at Bn;obtain⟨k0,k1,k2,k3,k4,k5⟩:=cs6 Bk;obtain⟨x0,x1⟩:=cs2 Bx;obtain⟨n0,n1,n2,n3,n4,n5,n6⟩:=cs7 Bn;go_wp2_with fail;obtain⟨r,hr⟩:∃r,r=decide (n.u+5<c.now):=⟨_,rfl⟩;have HRR:=aa hr;clear hr;have hg:=lF ⟨(some ⟨b,o,none⟩),l1,y1,a2,l2,y2,a3,l3,y3,a4,l4,y4,a5,l5,y5⟩ c.now n va vl vc X3 hu.1 hu.2;rw[HD.out,<-HRR.out] at hg;refine (hg).mono ?_;rintro e w4 ⟨rfl,hb⟩;clear k0 k1 k2 k3 k4 k5 x0 x1 n0 n1 n2 n3 n4 n5 n6;replace Bk:=upK Bk hb;replace Bx:=upK Bx hb;replace Bn:=upK Bn hb;replace HB:=upB HB hb;clear hb;clear hg;obtain⟨k0,k1,k2,k3,k4,k5⟩:=cs6 Bk;exact ux

theorem oR (d:Ad) (c:Cl) (t s:ByteArray) (j:Nat) (n:Nd) (w:World) (hr:aK w d c.raw) (hT:a8 c) (hn:c.ns[j]?=some n) (hnn:n.n=s):
  Calls Tryz.prog 85 #[.agg #[.slice d.a1 d.l1 d.c1,.slice d.a2 d.l2 d.c2,.slice d.a3 d.l3 d.c3,.slice d.a4 d.l4 d.c4,.slice d.a5 d.l5 d.c5,.int .i64 c.now],.string t,.string s] w (aq (ln c n t) w):=by
 have HR:=aa hr;have HT:=aa hT;have HN:=aa hn;have HNN:=aa hnn;have hu:=a8.tt hT hn;have HB:=aa (xj w.heap.size w);clear hr hT hn hnn;go_enter Tryz.func85,Tryz.ntmps85;go_wp2_with fail;refine (dz d c.now c.ns s w _ HR.n (al _ _)).mono ?_;rintro e w1 ⟨hb,hf⟩;obtain⟨HA0,hbx⟩:=aH hb;have Bk:=aa HA0;replace HB:=upB HB hbx;clear hb hbx HA0;have hit9:=cV HT.2.1.1.2.2 HN.out HNN.out;rcases hf with ⟨hh,n9,va,vl,vc,hx,hn9,rfl,z0,z1,hvr⟩|⟨hh,rfl⟩;rotate_left
 ·rw[hit9.2] at hh;cases hh
 obtain⟨-,rfl⟩:=HT.2.1.1.2.2.inj HN.out hx (HNN.trans hn9.symm);have HV:=aa hvr;clear hx hn9 hh z0 z1 hvr hit9;cases hd:n.d
 ·have HD:=aa hd;clear hd;obtain⟨k0,k1,k2,k3,k4,k5⟩:=cs6 Bk;have ltk_1:=ae Bk.out;go_wp2_with fail;refine (bE va vl vc n.zs t _ (HV.below (HB.alloc HB.size _))).mono ?_;rintro e w4 ⟨r,rfl,hh,hb⟩;clear k0 k1 k2 k3 k4 k5 ltk_1;obtain⟨HA0,hbx⟩:=aH hb;replace Bk:=upK Bk hbx;have Bn:=aa HA0;replace HB:=upB HB hbx;clear hb hbx HA0;have HH:=aa hh;clear hh;obtain⟨k0,k1,k2,k3,k4,k5⟩:=cs6 Bk;have ltk_2:=ae Bk.out;obtain⟨n0,n1,n2,n3,n4,n5,n6⟩:=cs7 Bn;have ltn_2:=ae Bn.out;exact uv
 ·have HD:=aa hd;clear hd;obtain⟨k0,k1,k2,k3,k4,k5⟩:=cs6 Bk;have ltk_1:=ae Bk.out;go_wp2_with fail;have hg:=ld d c.now n va vl vc (w1.alloc (.cells #[.string n.n,.string n.z,.int .i64 n.c,.int .i64 n.s,.int .i64 n.u,.bool true,.slice va vl vc] 103));rw[HD.out] at hg;refine (hg).mono ?_;rintro e w4 ⟨rfl,hb⟩;clear k0 k1 k2 k3 k4 k5 ltk_1;obtain⟨HA0,hbx⟩:=aH hb;replace Bk:=upK Bk hbx;have Bn:=aa HA0;replace HB:=upB HB hbx;clear hb hbx HA0;clear hg;obtain⟨k0,k1,k2,k3,k4,k5⟩:=cs6 Bk;have ltk_2:=ae Bk.out;go_wp2_with fail;obtain⟨r,hr⟩:∃r,r=decide (n.u+5<c.now):=⟨_,rfl⟩;have HRR:=aa hr;clear hr;have hg:=oO n.u c.now w4 hu.1 hu.2;rw[<-HRR.out] at hg;refine (hg).mono ?_;rintro e w5 ⟨rfl,hb⟩;clear k0 k1 k2 k3 k4 k5 ltk_2;replace Bk:=upK Bk hb;replace Bn:=upK Bn hb;replace HB:=upB HB hb;clear hb;clear hg;obtain⟨k0,k1,k2,k3,k4,k5⟩:=cs6 Bk;have ltk_3:=ae Bk.out;exact ux

end Rc
end Go.Proofs.YtbbdcjbfnjlndaaGreatDoor

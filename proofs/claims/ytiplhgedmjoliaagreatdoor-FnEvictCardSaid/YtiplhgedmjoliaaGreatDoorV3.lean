import Derived.Test.YtiplhgedmjoliaaGreatDoorV2
import Derived.Deep.CutRange
import Derived.RangeFuncNested
import Derived.RangeFuncBound
import Derived.RangeFuncCalls
import Derived.RangeFuncLeaves
import Derived.Shelf.Abstract
import Derived.Shelf.RegionOpen
import Derived.WalkKit
import Derived.OwnWalkIn
import Derived.TacticsInMore
import Derived.LoopNIn
import Derived.LoopIn
import Derived.ScopeJumps
import Derived.WalkMore
import Derived.Deep.RegionWith
import Derived.Deep.Cut
import Derived.Laws.StructEq
import Derived.Stop.LaidErr
import Derived.ChangeVars
set_option maxRecDepth 100000
set_option maxHeartbeats 12800000
open Bool renaming false→Y8,true→Y_
open Go.Ending renaming returned→Y9
open Go.IntKind renaming i64→Y5
open Go.Obj renaming cells→Y6
open Go.Value renaming string→I,slice→J,int→Y4,bool→Y7,agg→Za,pointer→Zd,tuple→Ze
open Option renaming none→U,some→Y3
open Or renaming inr→Zb,inl→Zc
open And renaming intro→Yb
open Array renaming getElem?_push_size→Yg, getD_eq_getD_getElem?→Yp, getElem?_eq_some_iff→Yw
open Bool renaming and_eq_true→YE
open Go.Addr renaming add_lit→Yo
open Go.Calls renaming quiet_of_same→YC
open Go.Op renaming bytesLess→Yk
open Go.Region renaming binds→YP, ready→YR
open Go.RowKit.Below renaming heap_setCell→Ya, refl→Yh, heap_alloc→Ym
open Go.Value renaming string→Yn, ownBlock→YJ
open Go.World renaming setCell→YO
open List renaming getElem?_eq_some_iff→Yc, lookup→Yf, getElem?_eq_getElem→Yi, length_map→Yr, setIfInBounds_toArray→Ys, getElem?_map→Yt, mem_of_getElem?→Yu, getElem?_append_left→Yv, drop_eq_nil_of_le→Yx, set_cons_zero→YA, set_cons_succ→YB, getElem?_take→YD, getElem?_of_mem→YF, length_take→YG, take_of_length_le→YH, length_set→YK, take_add_one→YL, foldr→YQ, range→YT
open Nat renaming le_refl→Ye, lt_of_lt_of_le→Yj, le_trans→Yl, zero_add→Yq, le_succ→Yy, zero_le→YI
open Option renaming map_eq_some_iff→Yz
open Option.some renaming inj→Yd
namespace Go.Proofs.YtiplhgedmjoliaaGreatDoor
variable {p:Prop}
namespace Mk
end Mk
namespace Dk
end Dk
namespace Rc
end Rc
open Go.RowKit Mk Go.Shelf Go Dk Rc
variable {front:List Oper} {w:World}
theorem dC(h:p:=by simp[Value.oneCell']):p:=h
theorem jI(h:p:=by have:=(Yc.1 hy).1;omega):p:=h
theorem dQ(h:p:=by simpa using hown5):p:=h
theorem eN(h:p:=by simpa using hp):p:=h
theorem jH(h:p:=by rw[dW HVA.out,hvl]):p:=h
theorem ot(h:p:=by rw[Yr,YG];omega):p:=h
theorem oq(h:p:=by rw[Yr,List.length_drop];omega):p:=h
theorem tx(h:p:=by rw[Yr];omega):p:=h
theorem og(h:p:=by simpa using ho.1):p:=h
theorem af_(h:p:=by have:=afD (by omega) (by omega) e2;exact⟨this.1.symm,this.2.symm⟩):p:=h
theorem z8(h:p:=by
 have h1:vss[0]?=Y3 (vss[0]'(by omega)):=Yi _;have h2:0<(vss[0]'(by omega)).length:=by rw[HVA.out 0 _ h1];decide
 obtain⟨g,e,_⟩:=HCQ.out _ _ (fY HVA.out h1 (Yi h2));cases e):p:=h
theorem agW(h:p:=by
 rcases h with ⟨h,rfl⟩|⟨k,_,rfl,_,_⟩
 ·exact⟨Zc,λh1=>h1.elim id (λe=>e ▸ h)⟩
 ·have h1:s∈zs↔s∈zs.take k\/s∈zs.drop k:=by rw[<-List.mem_append,List.take_append_drop]
  rw[List.mem_append,List.mem_append,List.mem_singleton,h1];constructor
  ·rintro ((h|h)|h)
   ·exact Zc (Zc h)
   ·exact Zb h
   ·exact Zc (Zb h)
  ·rintro ((h|h)|h)
   ·exact Zc (Zc h)
   ·exact Zb h
   ·exact Zc (Zb h)):p:=h
theorem zX(h:p:=by
 obtain⟨b,e,h3⟩:=HC.out j u hj;exact⟨b,e,Yj (bf h3) HB.size,(ai HB.out (bf h3)).trans h3⟩):p:=h
theorem ak7(h:p:=by
 have h1:=Yu hz;simp only[List.mem_append,List.mem_singleton] at h1;rcases h1 with (h1|rfl)|h1
 ·obtain⟨i,hi⟩:=YF (List.mem_of_mem_take h1);exact hr.2.2.2.1 i z hi
 ·exact ht
 ·obtain⟨i,hi⟩:=YF (List.mem_of_mem_drop h1);exact hr.2.2.2.1 i z hi):p:=h
theorem ajO(h:p:=by
 rw[Yt,Yz] at hu;obtain⟨z,hz,rfl⟩:=hu;obtain⟨b,o,x,rfl,hb,hx,hc,hsz⟩:=hr.at (k:=j) dD;rw[hz] at hx;cases hx;exact⟨b,o,rfl,hb,hc⟩):p:=h
theorem Pv(h:p:=by
 go_wp2;refine⟨⟨k+1,by omega,by go_num,λj z hj hz=>?_⟩,by simp[intOf];omega⟩;by_cases e:j=k
 ·subst e;rw[HX.out] at hz;obtain rfl:=Yd hz;exact hless
 ·exact HE.out j z af hz):p:=h
theorem Pe(h:p:=by
 rcases h with ⟨_,rfl⟩|⟨k,hk,rfl,_,_⟩
 ·omega
 ·simp only[List.length_append,YG,List.length_drop,List.length_singleton];omega):p:=h
theorem O9(h:p:=by
 obtain⟨i,j,x,h1,h2,h3,h4⟩:=h;obtain⟨i',j',x',k1,k2,k3,k4⟩:=h';obtain⟨_,rfl⟩:=hx.inj h1 k1 (h2.trans k2.symm);rw[h4,k4]):p:=h
theorem O8(h:p:=by
 obtain⟨j,hj⟩:=YF ha;rw[YD] at hj;split at hj
 ·next hjk=>exact hlt j a hjk hj
 ·cases hj):p:=h
theorem O2(h:p:=by
 obtain⟨g9,o9,e,_⟩:=HC.out 0 _ (by rw[Yt,Yi (show 0<zs.length by omega)];rfl);cases e):p:=h
theorem OD(h:p:=by
 have e11:=hf 11 ag;simp[aj,Yf] at e11;clear hf;exact aL):p:=h
theorem km(h:p:=by
 refine Obl.plain rfl ?_;intro ac wg K hsz hW hf hK;clear hsz;have e6:=hf 6 ag;simp[aj,Yf] at e6;clear hf;exact aL):p:=h
theorem kl(h:p:=by
 refine Obl.plain rfl ?_;intro ac wg K hsz hW hf hK;clear hsz;have e5:=hf 5 ag;simp[aj,Yf] at e5;clear hf;exact aL):p:=h
theorem kj(h:p:=by
 have z286z:=@aa _ @acH;exact lx):p:=h
theorem Ok(h:p:=by
 obtain⟨a',c',e,hR⟩:=h45.own ho4 hle.symm ag (λg hg=>Zb (by have:=(ho4.lt g hg).1;omega));rw[hle] at e hR;rw[hj] at hR;exact⟨a',c',e,hR⟩):p:=h
theorem vx(h:p:=by
 have e37:=hf 37 ag;simp[aj,Yf] at e37;clear hf;exact aL):p:=h
theorem Oh(h:p:=by
 refine Obl.plain rfl ?_;intro ac wg K hsz hW hf hK;clear hsz;have e40:=hf 40 ag;simp[aj,Yf] at e40;clear hf;exact aL):p:=h
theorem Og(h:p:=by
 refine Obl.plain rfl ?_;intro ac wg K hsz hW hf hK;clear hsz;have e44:=hf 44 ag;simp[aj,Yf] at e44;clear hf;exact aL):p:=h
theorem NR(h:p:=by
 have z411z:=@aa _ @gO;exact pE):p:=h
theorem kY(h:p:=by
 have fr0:=al Br.out 0;have fr1:=al Br.out 1;have fr2:=al Br.out 2;have fr3:=al Br.out 3;have fr4:=al Br.out 4;have fr5:=al Br.out 5;have fr6:=al Br.out 6;have fr7:=al Br.out 7;exact Yb fr0 (Yb fr1 (Yb fr2 (Yb fr3 (Yb fr4 (Yb fr5 (Yb fr6 fr7))))))):p:=h
theorem Nh(h:p:=by
 have HOW:Hid ((w.alloc (Y6 #[] 9)).ownsRow w.heap.size 9 1 (J (Y3 ⟨w.heap.size,0,U⟩) 0 0) 0 []):=World.ownsRow_made w #[] 0 (Ye _) (YI _) aF;have hik:(k:Int)<=cap:=af
 have hkn:k<=cap:=af
 exact Yb HOW (Yb hik hkn)):p:=h
theorem agm(h:p:=by
 have Bk:=aa ((HL.block w.heap.size af).trans (heap_alloc_new w (Y6 (clo6 a1 l1 y1 a2 l2 y2 a3 l3 y3 a4 l4 y4 a5 l5 y5 c.now) 29)));have HB:=aa ((ak w (Y6 (clo6 a1 l1 y1 a2 l2 y2 a3 l3 y3 a4 l4 y4 a5 l5 y5 c.now) 29)).trans (HL.mono af));exact Yb Bk HB):p:=h
theorem ai7(h:p:=by
 have HON:Hid (∀(l:List ByteArray) u,u∈l.map Yn->u.oneCell'=Y_):=λl u hu=>by obtain⟨z,_,rfl⟩:=List.mem_map.1 hu;rfl
 have HW:Hid (Below w.heap.size w w):=Yh _ _;exact Yb HON HW):p:=h
theorem No(h:p:=by
 have hk1:¬(k:Int)<len:=af
 have HP:Hid (Put t zs (zs.take k++[t]++zs.drop k)):=Zb ⟨k,by omega,rfl,HE.out,λy hy=>by have:=(Yc.1 hy).1;omega⟩;exact Yb hk1 HP):p:=h
theorem ei(h:p:=by
 rintro e w2 ⟨rfl,hb⟩;clear k0 k1 k2 k3 k4 k5 ltk_1;replace Bk:=upK Bk hb;have z500z:=@aa _ @X6;exact ln):p:=h
theorem dx(h:p:=by
 have z475z:=@aa _ @aar;exact cC):p:=h
theorem ly(h:p:=by
 have z560z:=@aa _ @Xa;exact jl):p:=h
theorem zy(h:p:=by
 have z1366z:=@aa _ @H_;exact mC):p:=h
theorem acH(h:p:=by
 clear hf;exact aL):p:=h
theorem pG(h:p:=by
 refine (kb d c t w hr hT.2.1.2.2.2.1.2.2 hT.2.1.2.2.1.2.2 (λj v hv e=>by have h9:=(hT.2.1.2.2.1.2.1 j v hv).1;rw[e] at h9;have h8:=h9.1;revert h8;decide)).mono ?_;exact z337z):p:=h
theorem aby(h:p:=by
 have hend:∀(listed:Array Bool) (a:Act) (w:World),listed.size=ops.size->(∀i,i<ops.size->listed.getD i Y8=Y_)->(∀o,back=Y3 o->listed.getD front.length Y8=Y8)->Ac front φs W a0 listed a w->Q .normal a w:=by
  intro listed a w hz hall hb h;have h1:=Fin.last hf hlen hin h.old (λi hi=>hall i af);exact vP
 intro fuel;induction fuel with
 | zero=>
  intro listed a w hz hc hb h;have hall:∀i,i<ops.size->listed.getD i Y8=Y_:=λi hi=>gP af i af;refine⟨?_,hend listed a w hz hall hb h⟩
  cases hr:YR .any ops listed with
  | nil=>rfl
  | cons j js=>
   have hm:j∈YR .any ops listed:=by rw[hr];simp
   obtain⟨h1,o,ho,-⟩:=mem_ready.1 hm;have hj:=(Yw.1 ho).1;rw[<-dm af,hall j hj] at h1
   cases h1
 | succ fuel ih=>
  intro listed a w hz hc hb h;refine⟨λhr=>hend listed a w hz (iN hz hlt hr) hb h,λj hj=>?_⟩;obtain⟨hun,o,ho,hall⟩:=mem_ready.1 hj;have hjs:j<ops.size:=(Yw.1 ho).1;have hcs:=count_set (listed:=listed) (i:=j) af hun
  by_cases hjf:j<front.length
  ·have hof:front[j]?=Y3 o:=by rw[hops] at ho;simpa[Yv hjf] using ho
   have hφ:φs[j]?=Y3 (φs[j]'(by omega)):=Yi _;obtain⟨hm,hob⟩:=hs j o _ hof hφ
   have hfacts:∀t∈o.looksAt ops,aj a0 (knAll [] (front.take j) (φs.take j)) a w t:=by
    intro t ht;unfold aj
    cases hk:(knAll [] (front.take j) (φs.take j)).lookup t with
    | some φ=>
     rcases de _ _ _ hk with ⟨i,p,h1,h2,h3⟩|h1
     ·have hij:i<j:=by have:=(Yc.1 h1).1;simp at this;omega
      rw[YD,if_pos hij] at h1 h3;obtain⟨-,e,he,hon,hbi⟩:=hdep j o hof t ht i p h1 h2;have hl:=hall e he hbi;rw[hon] at hl;exact h.old.known i p φ h1 h3 t h2 hl
     ·simp at h1
    | none=>
     refine h.old.other t (λi p hp hd=>?_)
     exfalso
     obtain⟨hij,-⟩:=hdep j o hof t ht i p hp hd;have hi:=(Yc.1 hp).1;exact (df _ _ _ hk).2 i p (φs[i]'(by omega)) zL zO hd
   have h1:=hob a w (wpAny P .any ops Q fuel (listed.setIfInBounds j Y_)) h.old.size h.old.below hfacts (λv w' hbw hv=>by
    refine ih _ _ _ (by simpa using hz) af (λo' ho'=>?_) ⟨h.old.step hn hin (λi o φ h1 h2=>(hs i o φ h1 h2).1) hof hφ af hbw hv,λj' o' ho' hl e he hbe=>(by
     by_cases ej:j=j'
     ·subst ej;obtain rfl:o=o':=Yd (hof.symm.trans ho');exact Gs.BZ (hall e he hbe)
     ·exact Gs.BZ (h.cl j' o' ho' (Gs.AM ej hl) e he hbe))⟩
    have h2:=hb o' ho'
    have e:¬j=front.length:=af
    simpa[Yp,Array.getElem?_setIfInBounds,e] using h2)
   unfold wpOp;rw[ho]
   simp only
   split
   ·rename_i hw;rw[if_pos hw] at h1;exact Zc h1
   ·rename_i hw;rw[if_neg hw] at h1;exact h1
  ·cases hk:back with
   | none=>rw[hk] at hsz;simp at hsz;omega
   | some b=>
    have hjn:j=front.length:=by rw[hk] at hsz;simp at hsz;omega
    subst hjn
    have hob:o=b:=by
     rw[hops,hk] at ho
     simp at ho
     exact ho.symm
    subst hob
    have hfl:∀i,i<front.length->listed.getD i Y8=Y_:=λi hi=>by
     obtain⟨e,he,hbi,hon⟩:=hback o hk i hi;have hl:=hall e he hbi
     rcases hon with hon|⟨p,hp,e',he',hon,hbi'⟩
     ·rwa [hon] at hl
     ·have:=h.cl e.on p hp hl e' he' hbi'
      rwa [hon] at this
    have h1:=Fin.last hf hlen hin h.old hfl;rw[hk] at h1
    have h2:=h1 (wpAny P .any ops Q fuel (listed.setIfInBounds front.length Y_)) (λa' w' hq=>by
     have hr:YR .any ops (listed.setIfInBounds front.length Y_)=[]:=by
      cases hr:YR .any ops (listed.setIfInBounds front.length Y_) with
      | nil=>rfl
      | cons i is=>
       have hm:i∈YR .any ops (listed.setIfInBounds front.length Y_):=by rw[hr];simp
       obtain⟨h3,o',ho',-⟩:=mem_ready.1 hm;have hi:=(Yw.1 ho').1
       exfalso
       by_cases e:front.length=i
       ·subst e
        simp[Yp,show front.length<listed.size from by omega] at h3
       ·have h4:=hfl i (by rw[hk] at hsz;simp at hsz;omega);rw[dm af] at h4
        simp[Yp,e] at h3 h4
        rw[h3] at h4
        cases h4
     cases fuel with
     | zero=>exact⟨hr,hq⟩
     | succ fuel=>exact⟨λ_=>hq,λi hi=>by rw[hr] at hi;cases hi⟩)
    unfold wpOp;rw[ho]
    simp only
    split
    ·rename_i hw;rw[if_pos hw] at h2;exact Zc h2
    ·rename_i hw;rw[if_neg hw] at h2;exact h2):p:=h
theorem aar(h:p:=by
 exact z177z):p:=h
theorem cC(h:p:=by
 have z1176z:=@aa _ @KD;exact dI):p:=h
theorem X6(h:p:=by
 have ltr_2:=ae Br.out;obtain⟨fr0,fr1,fr2,fr3,fr4,fr5,fr6,fr7⟩:=kY;have hrl:w.heap.size+1<w2.heap.size:=ae Br.out;exact z41z):p:=h
theorem ln(h:p:=by
 replace Br:=upK Br hb;replace HB:=upB HB hb;clear hb;obtain⟨r0,r1,r2,r3,r4,r5,r6,r7⟩:=cs8 Br;exact z500z):p:=h
theorem Xa(h:p:=by
 exact z236z):p:=h
theorem jl(h:p:=by
 have z923z:=@aa _ @Sa;exact ia):p:=h
theorem yk(h:p:=by
 have HP:Hid (Put t zs (zs.take k++[t]++zs.drop k)):=Zb ⟨k,by omega,rfl,HE.out,λy hy=>by rw[HX.out] at hy;cases hy;exact P5 hless he⟩;have hq:=bA he;clear he;obtain⟨HOW,hik,hkn⟩:=Nh;exact z746z):p:=h
theorem fP(h:p:=by
 have z1169z:=@aa _ @KM;exact fB):p:=h
theorem Sa(h:p:=by
 exact z560z):p:=h
theorem ia(h:p:=by
 have z1667z:=@aa _ @Dg;exact jo):p:=h
theorem xC(h:p:=by
 have z1357z:=@aa _ @Ig;exact sr):p:=h
theorem jb(h:p:=by
 obtain⟨k0,k1,k2,k3,k4,k5⟩:=cs6 Bk;obtain⟨p0,p1,p2,p3,p4,p5⟩:=cs6 Bp;exact z994z):p:=h
theorem bI(h:p:=by
 obtain⟨k0,k1,k2,k3,k4,k5⟩:=cs6 Bk;have ltk_2:=ae Bk.out;go_wp2_with fail;exact z1147z):p:=h
theorem KM(h:p:=by
 exact z820z):p:=h
theorem fB(h:p:=by
 obtain⟨k0,k1,k2,k3,k4,k5⟩:=cs6 Bk;have ltk_1:=ae Bk.out;go_wp2_with fail;exact z1169z):p:=h
theorem KD(h:p:=by
 exact z475z):p:=h
theorem fA(h:p:=by
 obtain⟨HA0,HA1,hbx⟩:=eh hb;have Bk:=aa HA0;have Br:=aa HA1;replace HB:=upB HB hbx;clear hb hbx HA0 HA1;exact z1186z):p:=h
theorem ee(h:p:=by
 obtain⟨k0,k1,k2,k3,k4,k5⟩:=cs6 Bk;have ltk_4:=ae Bk.out;exact z1193z):p:=h
theorem jC(h:p:=by
 rename_i K0 hK0;refine Gt.bG ba rfl rfl ba ?_;exact z1301z):p:=h
theorem Ig(h:p:=by
 exact z982z):p:=h
theorem H_(h:p:=by
 clear hi hz0 hz1 hz2;have HC:Hid (∀(j:Nat) u,(zs.map Yn)[j]?=Y3 u->∃g o9,a=Y3 ⟨g,o9,U⟩/\g<w.heap.size/\w.cell? ⟨g,o9+j,U⟩=Y3 u):=λj u hu=>by
  exact ajO
 have HZS:Hid (∀(k j:Nat) z,(zs.take k++[t]++zs.drop k)[j]?=Y3 z->z.size<=9223372036854775807):=λk j z hz=>by
  exact ak7
 obtain⟨HON,HW⟩:=ai7;clear hr;go_enter Tryz.func118,Tryz.ntmps118;go_wp2;exact z244z):p:=h
theorem mC(h:p:=by
 obtain⟨i0,hi,hz0,hz1,hz2⟩:=info_parts ig;have HI0:=aa (Yb hi (Yb hz0 (Yb hz1 hz2)));exact z1366z):p:=h
theorem bj(h:p:=by
 replace Bk:=upK Bk hb;replace Br:=upK Br hb;replace HB:=upB HB hb;clear hb;exact z1388z):p:=h
theorem dH(h:p:=by
 obtain⟨k0,k1,k2,k3,k4,k5⟩:=cs6 Bk;have ltk_3:=ae Bk.out;exact z1429z):p:=h
theorem gH(h:p:=by
 refine Obl.plain rfl ?_;intro ac wg K hsz hW hf hK;clear hsz;have e33:=hf 33 ag;simp[aj,Yf] at e33;exact z1443z):p:=h
theorem gG(h:p:=by
 refine Obl.plain rfl ?_;intro ac wg K hsz hW hf hK;clear hsz;have e35:=hf 35 ag;simp[aj,Yf] at e35;exact z1447z):p:=h
theorem jw(h:p:=by
 refine Obl.plain rfl ?_;intro ac wg K hsz hW hf hK;clear hsz;have e32:=hf 32 ag;simp[aj,Yf] at e32;exact z1496z):p:=h
theorem mr(h:p:=by
 refine Obl.plain rfl ?_;intro ac wg K hsz hW hf hK;clear hsz;have e39:=hf 39 ag;simp[aj,Yf] at e39;clear hf;exact z1529z):p:=h
theorem mm(h:p:=by
 obtain⟨r0,r1,r2,r3,r4,r5,r6,r7⟩:=cs8 Br;have ltr_2:=ae Br.out;obtain⟨fr0,fr1,fr2,fr3,fr4,fr5,fr6,fr7⟩:=kY;exact z1541z):p:=h
theorem rP(h:p:=by
 refine Obl.plain rfl ?_;intro ac wg K hsz hW hf hK;clear hsz;have e27:=hf 27 ag;simp[aj,Yf] at e27;have e28:=hf 28 ag;simp[aj,Yf] at e28;clear hf;exact z1548z):p:=h
theorem mj(h:p:=by
 refine Obl.plain rfl ?_;intro ac wg K hsz hW hf hK;clear hsz;have e45:=hf 45 ag;simp[aj,Yf] at e45;exact z1553z):p:=h
theorem mi(h:p:=by
 refine Obl.plain rfl ?_;intro ac wg K hsz hW hf hK;clear hsz;have e42:=hf 42 ag;simp[aj,Yf] at e42;exact z1556z):p:=h
theorem mh(h:p:=by
 refine Obl.plain rfl ?_;intro ac wg K hsz hW hf hK;clear hsz;have e91:=hf 91 ag;simp[aj,Yf] at e91;exact z1560z):p:=h
theorem mg(h:p:=by
 refine Obl.plain rfl ?_;intro ac wg K hsz hW hf hK;clear hsz;have e31:=hf 31 ag;simp[aj,Yf] at e31;exact z1563z):p:=h
theorem mf(h:p:=by
 refine Obl.plain rfl ?_;intro ac wg K hsz hW hf hK;clear hsz;have e30:=hf 30 ag;simp[aj,Yf] at e30;exact z1566z):p:=h
theorem me(h:p:=by
 refine Obl.plain rfl ?_;intro ac wg K hsz hW hf hK;clear hsz;have e92:=hf 92 ag;simp[aj,Yf] at e92;exact z1570z):p:=h
theorem Dg(h:p:=by
 exact z923z):p:=h
theorem fx(h:p:=by
 obtain⟨r0,r1,r2,r3,r4,r5,r6,r7⟩:=cs8 Br;have ltr_5:=ae Br.out;exact z1713z):p:=h
-/
namespace Gt
def growB(n:Nat) (front:List Oper) (back:Option Oper):Bool:=
 let ops:=(front++back.toList).toArray
 decide ((front.filterMap (·.dst)).Nodup) && front.all (λo=>match o.dst with|Y3 t=>decide (t<n)|U=>Y_) &&
 (YT front.length).all (λj=>match front[j]? with
  | some o=>(o.looksAt ops).all (λt=>(YT front.length).all λi=>match front[i]? with
    | some p=>p.dst !=Y3 t || (decide (i<j) && o.after.any λe=>e.on==i && YP .any e)
    | none=>Y_)
  | none=>Y_) &&
 (YT ops.size).all (λj=>match ops[j]? with|Y3 o=>o.after.all (λe=>decide (e.on<j))|U=>Y_) &&
 (match back with|Y3 o=>(YT front.length).all (λi=>o.after.any λe=>YP .any e && (e.on==i || match front[e.on]? with|Y3 p=>p.after.any (λe'=>e'.on==i && YP .any e')|U=>Y8))|U=>Y_)
section
variable {P:Program} {ops:Array Oper} {Q:Exit->Act->World->Prop} {W:World} {a0:Act} {back:Option Oper}
theorem fX {n:Nat} {back:Option Oper} (h:growB n front back=Y_):
  (front.filterMap (·.dst)).Nodup/\(∀o∈front,∀t,o.dst=Y3 t->t<n)/\
  (∀(j:Nat) (o:Oper),front[j]?=Y3 o->∀t∈o.looksAt (front++back.toList).toArray,∀(i:Nat) (p:Oper),front[i]?=Y3 p->p.dst=Y3 t->i<j/\∃e∈o.after,e.on=i/\YP .any e=Y_)/\
  (∀(j:Nat) o,(front++back.toList).toArray[j]?=Y3 o->∀e∈o.after,e.on<j)/\
  (∀o,back=Y3 o->∀i,i<front.length->∃e∈o.after,YP .any e=Y_/\(e.on=i\/∃p,front[e.on]?=Y3 p/\∃e'∈p.after,e'.on=i/\YP .any e'=Y_)):=by
 unfold growB at h;simp only[YE,decide_eq_true_eq] at h;obtain⟨⟨⟨⟨h1,h2⟩,h3⟩,h4⟩,h5⟩:=h;refine⟨h1,?_,?_,?_,?_⟩
 ·intro o ho t ht;have:=List.all_eq_true.1 h2 o ho;rw[ht] at this;simpa using this
 ·exact ag4
 ·exact PR
 ·intro o ho i hi;subst ho;have:=List.all_eq_true.1 h5 i (List.mem_range.2 hi);obtain⟨k,hk,hx⟩:=Array.any_eq_true.1 this;simp only[YE,Bool.or_eq_true,beq_iff_eq] at hx;refine⟨_,Array.getElem_mem hk,hx.1,hx.2.imp id λh9=>?_⟩;split at h9
  ·next p hp=>
   obtain⟨k',hk',hx'⟩:=Array.any_eq_true.1 h9;simp only[YE,beq_iff_eq] at hx';exact⟨p,hp,_,Array.getElem_mem hk',hx'.1,hx'.2⟩
  ·cases h9
structure Ac (front:List Oper) (φs:List Fact) (W:World) (a0:Act) (listed:Array Bool) (a:Act) (w:World):Prop where
 old:At front φs W a0 listed a w
 cl:∀(j:Nat) (o:Oper),front[j]?=Y3 o->listed.getD j Y8=Y_->∀e∈o.after,YP .any e=Y_->listed.getD e.on Y8=Y_
theorem dy {φs:List Fact} (hops:ops=(front++back.toList).toArray) (hB:growB a0.tmps.size front back=Y_) (hlen:φs.length=front.length)
  (hs:∀(i:Nat) (o:Oper) (φ:Fact),front[i]?=Y3 o->φs[i]?=Y3 φ->φ.bH/\Obl P ops Q W a0 (knAll [] (front.take i) (φs.take i)) o φ) (hf:Fin P ops Q W a0 back (knAll [] front φs)):
  ∀(fuel:Nat) (listed:Array Bool) (a:Act) (w:World),listed.size=ops.size->listed.toList.count Y8<=fuel->(∀o,back=Y3 o->listed.getD front.length Y8=Y8)->Ac front φs W a0 listed a w->wpAny P .any ops Q fuel listed a w:=by
 have z378z:=@aa _ @aby;exact pF
end
theorem bG {P:Program} {id:Nat} {Q:Exit->Act->World->Prop} {a0:Act} {W:World} {l:List Oper} {last:Oper} (hm:P.follows .mixedOrders=Y_) (hf:l.dropLast=front) (hb:l.getLast?=Y3 last) (hB:growB a0.tmps.size front (Y3 last)=Y_)
  (h:Grow P l.toArray Q W a0 (Y3 last) front []):(Code.region id l.toArray Y_).wp P Q a0 W:=by
 obtain⟨φs,hlen,hs,hfi⟩:=Grow.spec _ _ h;have hl:l=front++(Y3 last).toList:=by
  exact vH
 refine wp_region_any hm (dy (by rw[hl]) hB hlen hs hfi _ _ _ _ aF ?_ (λo ho=>?_) ⟨⟨rfl,rfl,(Yh _ _).drew,λi o φ h1 h2 t ht hx=>?_,λt _=>rfl⟩,λj o h1 hx=>?_⟩)
 ·exact pV
 ·exact bK _ _
 ·rw[bK] at hx;cases hx
 ·rw[bK] at hx;cases hx
end Gt
-/
namespace Gu
section
variable {P:Program} {ops:Array Oper} {Q:Exit->Act->World->Prop} {W:World} {a0:Act} {s t:Oper}
end
end Gu
/-
 A claim bound to the best disk, or to one that is made for it, in the cluster itself, as the specification does it.
-/
namespace Rc
def wX(W:World) (nb vb:Nat) (t m:ByteArray):Prop:=W.heap[nb]?=Y3 (Y6 #[I t] 9 (0,0))/\W.heap[vb]?=Y3 (Y6 #[I m] 9 (0,0))
end Rc
attribute [local go_sem] Oper.semAt_some
structure Vx where
 v:Vd
 a:Option Addr
 len:Nat
 cap:Nat
def KpB(h n₀:Nat) (W W':World):Prop:=W.heap.size<=W'.heap.size/\∀k,k<n₀->¬k=h->¬k=h+1->W'.heap[k]?=W.heap[k]?
theorem di {w':World} (h:Below w.heap.size w w'):w.grownBy w' U:=⟨h.os,h.tape,h.output,h.size,λk hk _=>h.block k hk⟩
attribute [local go_sem] Oper.semAt_some
theorem alp {b:Nat} {T:TypeId} {u0 u1 u2 u3 u4 u5 u6 u7 v0 v1 v2 v3 v4 v5 v6 v7:Value} (h:w.heap[b]?=Y3 (Y6 #[u0,u1,u2,u3,u4,u5,u6,u7] T (0,0))):
  ((((((((w.setCell ⟨b,0,U⟩ v0).setCell ⟨b,1,U⟩ v1).setCell ⟨b,2,U⟩ v2).setCell ⟨b,3,U⟩ v3).setCell ⟨b,4,U⟩ v4).setCell ⟨b,5,U⟩ v5).setCell ⟨b,6,U⟩ v6).setCell ⟨b,7,U⟩ v7).heap[b]?=Y3 (Y6 #[v0,v1,v2,v3,v4,v5,v6,v7] T (0,0)):=by
 have h0:(w.setCell ⟨b,0,U⟩ v0).heap[b]?=Y3 (Y6 #[v0,u1,u2,u3,u4,u5,u6,u7] T (0,0)):=au h v0;have h1:((w.setCell ⟨b,0,U⟩ v0).setCell ⟨b,1,U⟩ v1).heap[b]?=Y3 (Y6 #[v0,v1,u2,u3,u4,u5,u6,u7] T (0,0)):=au h0 v1;have h2:(((w.setCell ⟨b,0,U⟩ v0).setCell ⟨b,1,U⟩ v1).setCell ⟨b,2,U⟩ v2).heap[b]?=Y3 (Y6 #[v0,v1,v2,u3,u4,u5,u6,u7] T (0,0)):=au h1 v2;have h3:((((w.setCell ⟨b,0,U⟩ v0).setCell ⟨b,1,U⟩ v1).setCell ⟨b,2,U⟩ v2).setCell ⟨b,3,U⟩ v3).heap[b]?=Y3 (Y6 #[v0,v1,v2,v3,u4,u5,u6,u7] T (0,0)):=au h2 v3;have h4:(((((w.setCell ⟨b,0,U⟩ v0).setCell ⟨b,1,U⟩ v1).setCell ⟨b,2,U⟩ v2).setCell ⟨b,3,U⟩ v3).setCell ⟨b,4,U⟩ v4).heap[b]?=Y3 (Y6 #[v0,v1,v2,v3,v4,u5,u6,u7] T (0,0)):=au h3 v4;have h5:((((((w.setCell ⟨b,0,U⟩ v0).setCell ⟨b,1,U⟩ v1).setCell ⟨b,2,U⟩ v2).setCell ⟨b,3,U⟩ v3).setCell ⟨b,4,U⟩ v4).setCell ⟨b,5,U⟩ v5).heap[b]?=Y3 (Y6 #[v0,v1,v2,v3,v4,v5,u6,u7] T (0,0)):=au h4 v5;have h6:(((((((w.setCell ⟨b,0,U⟩ v0).setCell ⟨b,1,U⟩ v1).setCell ⟨b,2,U⟩ v2).setCell ⟨b,3,U⟩ v3).setCell ⟨b,4,U⟩ v4).setCell ⟨b,5,U⟩ v5).setCell ⟨b,6,U⟩ v6).heap[b]?=Y3 (Y6 #[v0,v1,v2,v3,v4,v5,v6,u7] T (0,0)):=au h5 v6;have h7:((((((((w.setCell ⟨b,0,U⟩ v0).setCell ⟨b,1,U⟩ v1).setCell ⟨b,2,U⟩ v2).setCell ⟨b,3,U⟩ v3).setCell ⟨b,4,U⟩ v4).setCell ⟨b,5,U⟩ v5).setCell ⟨b,6,U⟩ v6).setCell ⟨b,7,U⟩ v7).heap[b]?=Y3 (Y6 #[v0,v1,v2,v3,v4,v5,v6,v7] T (0,0)):=au h6 v7;exact h7
def akb:Option Vx->Array Value
 | none=> #[I ⟨#[]⟩,Y4 Y5 0,I ⟨#[]⟩,I ⟨#[]⟩,Y7 Y8,I ⟨#[]⟩,Y7 Y8,J U 0 0]
 | some x=> #[I x.v.n,Y4 Y5 x.v.c,I x.v.z,I x.v.k,Y7 x.v.x,I x.v.m,Y7 x.v.y,J x.a x.len x.cap]
namespace Rc
def RoF(m:Nat) (T:TypeId) (rs:List (List Fv)) (S:Nat->Prop):Fact:=λv w=> ∃a l p,v=J a l p/\aw w a l p m T rs S
end Rc
def alw(J0 J1 J2:Act->World->Prop) (Q:Exit->Act->World->Prop):Exit->Act->World->Prop
 | .goto l,a,w=>(l=0/\J0 a w)\/(l=1/\J1 a w)\/(l=2/\J2 a w)
 | e,a,w=>Q e a w
def never:Act->World->Prop:=λ_ _=>False
def at1(P:Program) (Q:Exit->Act->World->Prop) (r1:Code):Act->World->Prop:=λa w=>r1.wp P (alw never never never Q) a w
namespace Rc
theorem amq {cs:Array Value} (h:cs.size=8):∃c0 c1 c2 c3 c4 c5 c6 c7,cs=#[c0,c1,c2,c3,c4,c5,c6,c7]:=by
 obtain⟨l⟩:=cs;rcases l with _|⟨c0,_|⟨c1,_|⟨c2,_|⟨c3,_|⟨c4,_|⟨c5,_|⟨c6,_|⟨c7,_|⟨c8,l⟩⟩⟩⟩⟩⟩⟩⟩⟩ <;> simp at h
 exact⟨c0,c1,c2,c3,c4,c5,c6,c7,rfl⟩
def VtF(w:World) (x:Vd):Fact:=λv _=> ∃va vl vc,v=Ze #[Za #[I x.n,Y4 Y5 x.c,I x.z,I x.k,Y7 x.x,I x.m,Y7 x.y,J va vl vc],Y7 Y_]/\ay w va vl vc x.zs
def VaF(w:World) (x:Vd):Fact:=λv _=> ∃va vl vc,v=Za #[I x.n,Y4 Y5 x.c,I x.z,I x.k,Y7 x.x,I x.m,Y7 x.y,J va vl vc]/\ay w va vl vc x.zs
def PsV(W w:World) (x:Vd):Fact:=λv w'=> ∃g va vl vc,v=Zd (Y3 ⟨g,0,U⟩)/\W.heap.size<=g/\ay w va vl vc x.zs/\w'.heap[g]?=Y3 (Y6 #[I x.n,Y4 Y5 x.c,I x.z,I x.k,Y7 x.x,I x.m,Y7 x.y,J va vl vc] 95 (0,0))
def PrF(B:Nat) (c:Cl):Fact:=λv w=> ∃d,v=Za #[J d.a1 d.l1 d.c1,J d.a2 d.l2 d.c2,J d.a3 d.l3 d.c3,J d.a4 d.l4 d.c4,J d.a5 d.l5 d.c5,Y4 Y5 c.now]/\cX w d c.raw (λk=>B<=k)
def PrO(B:Nat) (c:Cl) (n:ByteArray):Fact:=λv w=> ∃d,v=Za #[J d.a1 d.l1 d.c1,J d.a2 d.l2 d.c2,J d.a3 d.l3 d.c3,J d.a4 d.l4 d.c4,J d.a5 d.l5 d.c5,Y4 Y5 c.now,I n,Y4 Y5 0]/\cX w d c.raw (λk=>B<=k)
section
variable {B:Nat} {w0:World} {p:Nat} {v:Value} {len:Nat} {wa wx w2:World} {bc:Nat} {d:Ad} {c:Cl}
end
section
variable {B:Nat} {w0:World} {p:Nat} {v:Value} {len:Nat} {wa wr w9 W:World} {bc:Nat} {d g:Ad} {c:Cl} {o:Co} {X:Nat}
end
section
variable {B:Nat} {w0:World} {p:Nat} {v:Value} {len:Nat} {r0:Nat} {wx w2:World} {bc:Nat} {d:Ad} {c:Cl}
end
section
variable {B:Nat} {w0:World} {p:Nat} {v:Value} {len:Nat} {r0 r:Nat} {w9:World} {bc:Nat} {d g:Ad} {c:Cl} {o:Co} {X:Nat}
end
end Rc
end Go.Proofs.YtiplhgedmjoliaaGreatDoor

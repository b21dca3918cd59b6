import Derived.Test.YtcnmlpiffcldkaaGreatDoorN3
import Derived.Lib.Overlaps
import Derived.Lib.SliceRun
import Derived.Lib.AppendZerosOnto
import Derived.Deep.RegionLaw
import Derived.Shelf.RegionOpenPlain
import Derived.Test.YtcnmlpiffcldkaaGreatDoorRows
import Derived.WalkKit
import Derived.WalkSpells
import Derived.OwnWalk
import Derived.Outline
import Derived.Lib.BufferWrite
import Derived.Laws.CopyOwn
import Derived.Laws.IdiomStrings
import Derived.RangeFuncNested
import Derived.RangeFuncBound
import Derived.RangeFuncCalls
import Derived.RangeFuncLeaves
import Derived.Shelf.Abstract
import Derived.Shelf.RegionOpen
import Derived.OwnWalkIn
import Derived.TacticsInMore
import Derived.LoopNIn
import Derived.LoopIn
import Derived.ScopeJumps
import Derived.WalkMore
/-
 A row of things without the one of a name, as the program makes it.
-/
set_option maxRecDepth 100000
set_option maxHeartbeats 12800000
open Bool renaming false→Zg,true→Zi
open Go.Ending renaming returned→Zh
open Go.IntKind renaming i64→O
open Go.Obj renaming cells→Ze
open Go.Value renaming string→I,slice→U,int→V,bool→Zf,agg→Zj,pointer→Zm,tuple→Zn
open Option renaming none→J,some→M
open Or renaming inr→Zk,inl→Zl
open And renaming intro→Yb
open Array renaming getElem?_push_size→Yf, getD_eq_getD_getElem?→Ys, getElem?_eq_some_iff→YA, getElem?_setIfInBounds→YH
open Bool renaming and_eq_true→YI
open Go.Act renaming put→Y0
open Go.Addr renaming add_lit→Ym
open Go.Builtin renaming append_→YY
open Go.Calls renaming quiet_of_same→YD
open Go.KeepsOthers renaming setCell→Y2
open Go.Lib renaming byteCells→Y1
open Go.Op renaming bytesLess→Yk
open Go.Region renaming wanted→YR, ready→YU
open Go.RowKit.Below renaming heap_setCell→Ya, refl→Yh, heap_alloc→Yj
open Go.Value renaming string→Yn, ownBlock→YK
open Go.World renaming setCell→YV, cell?→YX
open List renaming getElem?_eq_some_iff→Yc, lookup→Yg, getElem?_eq_getElem→Yi, length_map→Yq, setIfInBounds_toArray→Yr, getElem?_map→Yt, getElem?_append_left→Yu, mem_of_getElem?→Yv, drop_eq_nil_of_le→Yw, set_cons_zero→Yx, set_cons_succ→Yy, take_of_length_le→YB, getElem?_take→YC, length_take→YF, getElem?_of_mem→YG, forall_mem_cons→YL, take_add_one→YM, getElem?_drop→YN, length_append→YP, foldr→YQ, mem_cons→YT, length_cons→Y4, mem_cons_self→Y5
open Nat renaming le_refl→Ye, lt_of_lt_of_le→Yl, le_trans→Yo, zero_add→Yp, le_succ→Yz, zero_le→YJ
open Option renaming map_eq_some_iff→YE
open Option.some renaming inj→Yd, injEq→YZ
namespace Go.Proofs.YtcnmlpiffcldkaaGreatDoor
variable {p:Prop}
namespace Mk
end Mk
open Go.RowKit Mk Go.Shelf Go
variable {α β:Type} {B b g h k l m n₀:Nat} {H:Nat->Nat->Nat} {J0 J1 J2 K:Act->World->Prop} {P:Program} {Q:Exit->Act->World->Prop} {S:Nat->Prop} {T:TypeId} {W W' w w' w1:World} {c:Rc.Cl} {c':Int} {f:Nat->Nat} {k' n' t v':ByteArray} {o:Obj} {v0 v1 v2 v3 v4 v5 v6 v7 v8:Value} {vs:List Value} {vss:List (List Value)} {x:Rc.Xd} {x':Bool} {zs:List ByteArray} {nm:α->ByteArray} {ys:List α}
theorem nJ(h:p:=by simp[results,Tryz.results94,go_sem, *]):p:=h
theorem lj(h:p:=by simp[Act.eval,Y0]):p:=h
theorem uQ(h:p:=by simp[results,Tryz.results48,go_sem, *]):p:=h
theorem AP(h:p:=by rw[hdl];simp only[Nat.min_def];split <;> omega):p:=h
theorem AO(h:p:=by rw[hyl];simp only[Nat.min_def];split <;> omega):p:=h
theorem ahB(h:p:=by simp only[YP,YF,List.length_drop];omega):p:=h
theorem vr(h:p:=by
 skip;cases h4:t.toList.isEmpty
 ·cases h5:(z.toList==t.toList)
  ·skip;exact qN
  ·skip;exact qN
 ·skip;exact qN):p:=h
theorem aiF(h:p:=by
 obtain⟨rfl,rfl,rfl,rfl,rfl,rfl⟩:=hz;clear h;have ev:=(HE.below HB.out).v2;have awK:=a_ ev;have evl:=a_ HE.v2;obtain⟨r0,r1,r2,r3,r4,r5,r6,r7⟩:=cs8 Br;have aoK:=@G _ @XD;exact fv):p:=h
theorem Q0(h:p:=by
 exact qN):p:=h
theorem PB(h:p:=by
 rintro e w3 ⟨rfl,hb⟩;clear hcc;have Br3:=upK Dr hb;have Z7:=upB ao7 hb;clear hb;obtain⟨r0,r1,r2,r3,r4,r5,r6,r7⟩:=cs8 Br3;have ZR:=ak Br3.out 0;have ZS:=ak Br3.out 1;have ZT:=ak Br3.out 2;have ZU:=ak Br3.out 3;have ZV:=ak Br3.out 4;have ZY:=ak Br3.out 5;have Z1:=ak Br3.out 6;have Z2:=ak Br3.out 7;go_wp2;refine kZ ?_;exact bodyPost_ret (v:=Zj #[U J 0 0,U J 0 0,U J 0 0,U J 0 0,U J 0 0,V O 0,I ⟨#[]⟩,V O cc]) (by simp[results,Tryz.results24,go_sem, *]) rfl ⟨ad0,co0 cc,rfl,HV.out,alh _ _,sb2 (sb2 (sb2 (sb2 (sb2 (sb2 (sb2 (sb2 (Z7.out))))))))⟩):p:=h
theorem aix(h:p:=by
 clear hcc;have asn:=@G _ @afg;exact qI):p:=h
theorem amw(h:p:=by
 refine Obl.plain rfl ?_;intro ac wg K Zq hW hf hK;clear Zq;have e37:=hf 37 ag;simp[slotFact,Yg] at e37;have e40:=hf 40 ag;simp[slotFact,Yg] at e40;clear hf;go_simp;refine (B0 d.a3 d.l3 d.c3 c.vs (aC++x.n) 8 E _ (HR.v.below (ZH.trans (hW.mono ZH.size))) (HE.below (ZH.trans (hW.mono ZH.size)))).mono ?_;rintro e w6 ⟨ZA,hf6⟩;rcases hf6 with ⟨i,hi9,aoR,rfl⟩|⟨ξ,rfl⟩
 ·exact hK _ _ ZA (Zl ⟨i,hi9,aoR.imp id (λh9=>⟨h9.1,h9.2.1,by omega⟩),rfl⟩)
 ·exact hK _ _ ZA (Zk ⟨ξ.1,ξ.2,rfl⟩)):p:=h
theorem aiq(h:p:=by
 go_enter Tryz.func166,Tryz.ntmps166;go_wp2_with (first|(at_builtin;refine ck rfl _ _ 96 25 rfl base 37 37 i0 (Zj #[I ⟨#[]⟩,V O 0,I ⟨#[]⟩,I ⟨#[]⟩,Zf Zg,I ⟨#[]⟩,Zf Zg,U J 0 0]) 8 112 Tryz.underlying96 Tryz.underlying25 Y_.1 Y_.2.1 Y_.2.2.1 Y_.2.2.2 rfl ag _ _ _ rfl HO.out ⟨vb,0,J⟩ 1 1 ys rfl af HYN.out HY1.out br af hbs ?_));exact Ps):p:=h
theorem ain(h:p:=by
 go_enter Tryz.func164,Tryz.ntmps164;go_wp2_with (first|(at_builtin;refine ck rfl _ _ 121 26 rfl base 47 47 i0 (Zj #[I ⟨#[]⟩,V O 0,I ⟨#[]⟩,Zf Zg,I ⟨#[]⟩]) 5 64 Tryz.underlying121 Tryz.underlying26 Y_.1 Y_.2.1 Y_.2.2.1 Y_.2.2.2 rfl ag _ _ _ rfl HO.out ⟨vb,0,J⟩ 1 1 ys rfl af HYN.out HY1.out br af hbs ?_));exact Ps):p:=h
theorem aij(h:p:=by
 exact PF):p:=h
theorem aih(h:p:=by
 obtain rfl:len=k:=af
 have h5:=HF.out;have Β:=HO;rw[YB af] at h5 Β;have h6:=(h5.jK (HV.below HB.out)).ay (w':=wr) (S':=λk=>Q k\/w.heap.size<=k) (λ_ _ _ _=>rfl) (λ_ _ s=>Zl s);obtain⟨a',c',e,hR⟩:=h6.own Β.out aF ag (λg hg=>Zk (Β.lt g hg).1);subst e;have HR5:=G hR;clear h5 h6 hR;go_wp2;go_ret;exact⟨a',_,c',rfl,by simpa using HR5.out,HB.out⟩):p:=h
theorem amr(h:p:=by
 have h0:w.grownBy w.drew (M g):=⟨rfl,rfl,rfl,Ye _,λ_ _ _=>rfl⟩;have h1:w.grownBy W1 (M g):=by rw[hW1];exact h0.trans (World.grownBy_alloc w.drew _ _)
 refine⟨?_,?_,?_,?_,λk hk hkg=>(awL k af).trans (h1.block k hk hkg)⟩
 ·rw[hW3,hW2];exact h1.os
 ·rw[hW3,hW2];exact h1.tape
 ·rw[hW3,hW2];exact h1.output
 ·rw[hW3,hW2];exact Yo h1.size (by simp[World.setRow])):p:=h
theorem aia(h:p:=by
 have hrf:r=Zg:=by simpa using hq
 clear hr;go_wp2_with fail;exact bodyPost_ret (v:=Zj #[I ⟨#[]⟩,V O 0,I ⟨#[]⟩,I ⟨#[]⟩,Zf Zg,I ⟨#[]⟩,Zf Zg,U J 0 0,V O 1]) (by simp[results,Tryz.results93,go_sem, *]) rfl (eU.bad (Zk (Zl ⟨HL.out,HBR.out,rfl,rfl⟩)) (g_ af HB.out))):p:=h
theorem Rl(h:p:=by
 have hF:=HF.push HX.out HVK.out;rw[<-wj HX.out hq] at hF;have HF3:=G hF;have Z7:=G ((ZW.trans ((aj _ _).mono ZW.size)).grown ZC bg (λg hg=>(HO1.lt g hg).1));clear Z5 ZC hF;go_wp2;exact⟨⟨k+1,_,_,by omega,by go_num,HO3,HF3,Z7⟩,by simp[intOf];omega⟩):p:=h
theorem Rg(h:p:=by
 have apA:=@G _ @GO;exact jW):p:=h
theorem Re(h:p:=by
 go_wp2_with fail;exact bodyPost_ret (v:=Zj #[I ⟨#[]⟩,V O 0,I ⟨#[]⟩,I ⟨#[]⟩,Zf Zg,I ⟨#[]⟩,Zf Zg,U J 0 0,V O 2]) (by simp[results,Tryz.results93,go_sem]) rfl (eU.bad HL.out (aM _ _ _))):p:=h
theorem xx(h:p:=by
 obtain⟨a',c',rfl,hR⟩:=aoc.out w4 v4 _ af hB5 ho4;exact⟨a',c',rfl,hR,hB5⟩):p:=h
theorem Q_(h:p:=by
 rintro e w3 ⟨a3,c3,rfl,ho3,Zy⟩;have hs3:w2.heap.size<=w3.heap.size:=Zy.size;exact⟨a3,c3,rfl,ho3,HBD.trans (Zy.mono HBD.size),hs3,by omega,(Zy.block w.heap.size hs2).trans (show w2.drew.heap[w.heap.size]?=_ from HN2.out)⟩):p:=h
theorem QT(h:p:=by
 have h1:w.grownBy w.drew (M g):=⟨rfl,rfl,rfl,Ye _,λ_ _ _=>rfl⟩;have h2:w.drew.grownBy W1 (M g):=by rw[HW1.out];exact kr w.drew g _
 exact (h1.trans h2).trans (kr W1 g _)):p:=h
theorem QQ(h:p:=by
 have Τ:(x.n.toList !=t.toList)=Zg:=by simp[bne,hq]
 have HF3:=G HF.up;rw[<-aht HX.out hq] at HF3 HO1;go_wp2;exact⟨⟨k+1,ws,f,by omega,by go_num,HO1,HF3,ZW⟩,by simp[intOf];omega⟩):p:=h
theorem qR(h:p:=by
 simp only[YP,YF,List.length_drop];omega):p:=h
theorem QH(h:p:=by
 rw[show i+(cap+1 - i)=cap+1 by omega,<-hG,<-aq3,<-hW1,<-hN] at h;rw[show (cap:Int)+1 - (i:Int)=((cap+1 - i:Nat):Int) by omega];exact h):p:=h
theorem ak4(h:p:=by
 have h2:0<(vss[k]).length:=by rw[HV.all k _ h1];decide
 obtain⟨g,e,_,_⟩:=HC.out _ _ (gF HV.all h1 (Yi h2));cases e;rfl):p:=h
theorem Qx(h:p:=by
 rcases HO.2 with ⟨h1,h2⟩|⟨g,cp,cur,h1,h2,h3,h4,h5,h6,h7⟩
 ·cases h1;omega
 ·cases h1;exact⟨g,cur,rfl,h2,h3,h6,h7⟩):p:=h
theorem Qg(h:p:=by
 rw[aq3,Array.toList_append,Array.toList_append,List.append_assoc];exact List.take_left' oU):p:=h
theorem akY(h:p:=by
 rcases ho.2 with ⟨h1,h2⟩|⟨g,cp,cur,h1,_,_,h4,h5,_⟩
 ·cases h1;omega
 ·cases h1;unfold maxLen at h5;omega):p:=h
theorem P7(h:p:=by
 rw[hR2];simp only[YP,YF,List.length_drop,Array.length_toList,hRs,hyl];omega):p:=h
theorem P4(h:p:=by
 clear h;go_enter Tryz.func154,Tryz.ntmps154;go_wp2_with fail;go_ret;exact⟨ai5 HX.out,HB.out⟩):p:=h
theorem P2(h:p:=by
 rw[hR3];simp only[List.size_toArray,YP,YF,List.length_drop,aso];omega):p:=h
theorem PT(h:p:=by
 refine Obl.plain rfl ?_;intro ac wg K Zq hW hf hK;clear Zq;have e7:=hf 7 ag;simp[slotFact,Yg] at e7;clear hf;exact dE):p:=h
theorem PO(h:p:=by
 clear hf;obtain⟨f0,f1,f2,f3,f4,f5,f6,f7,f8⟩:=anE ((hW.block _ (ae BfW.out)).trans BfW.out);exact dE):p:=h
theorem qN(h:p:=by
 go_enter Tryz.func185,Tryz.ntmps185;go_wp2_with fail;go_ret;exact⟨ai4 aF,HB.out⟩):p:=h
theorem akO(h:p:=by
 refine Obl.plain rfl ?_;intro ac wg K Zq hW hf hK;clear Zq;have e36:=hf 36 ag;simp[slotFact,Yg] at e36;clear hf;obtain⟨s0,s1,s2,s3,s4,s5,s6,s7,s8,s9,s10,s11⟩:=Bh ((hW.block _ (ae BsW.out)).trans BsW.out);exact dE):p:=h
theorem PI(h:p:=by
 rintro e w3 ⟨rfl,hb⟩;clear k0 k1 k2 k3 k4 k5 x0 x1 x2 x3 x4;replace Bk:=upK Bk hb;replace Br:=upK Br hb;replace Bx:=upK Bx hb;replace HB:=upB HB hb;clear hb;exact aix):p:=h
theorem akN(h:p:=by
 have aqg:=@G _ @Fz;exact mS):p:=h
theorem akM(h:p:=by
 refine Obl.plain rfl ?_;intro ac wg K Zq hW hf hK;clear Zq;have e38:=hf 38 ag;simp[slotFact,Yg] at e38;clear hf;exact dE):p:=h
theorem akL(h:p:=by
 refine Obl.plain rfl ?_;intro ac wg K Zq hW hf hK;clear Zq;have e1:=hf 1 ag;simp[slotFact,Yg] at e1;clear hf;exact dE):p:=h
theorem Pz(h:p:=by
 rintro e w4 ⟨v4,rfl,ho4,hg4⟩;have hB5:=hB3.grown hg4 af (λg hg=>by
  have h9:=(ho3.lt g hg).1
  omega)
 exact xx):p:=h
theorem Ps(h:p:=by
 intro v' w' h1 h2;have H1:=G h1;have H2:=G h2;clear h1 h2;go_wp2;go_ret;exact⟨v',rfl,H1.out,H2.out⟩):p:=h
theorem Pq(h:p:=by
 show World.ownsRow _ _ _ _ _ _ _;rw[wj HX.out hq,YP,List.flatten_append];simpa using Z5):p:=h
theorem Pp(h:p:=by
 cases h0:(k.toList==k'.toList)
 ·exact vr
 ·cases h1:(x==x')
  ·exact vr
  ·exact vr):p:=h
theorem Po(h:p:=by
 skip;by_cases h3:c'<=c
 ·rw[decide_eq_true h3];exact Q0
 ·rw[decide_eq_false h3];exact Q0):p:=h
theorem akJ(h:p:=by
 have HNM:Hid (¬fG x k t):=λh9=>h ⟨HXO.out,HKO.out,HZN.out (HMY.1 h9).1⟩;exact aiF):p:=h
theorem akH(h:p:=by
 refine Obl.plain rfl ?_;intro ac wg K Zq hW hf hK;clear Zq;have e39:=hf 39 ag;simp[slotFact,Yg] at e39;exact PO):p:=h
theorem akG(h:p:=by
 refine Obl.plain rfl ?_;intro ac wg K Zq hW hf hK;clear Zq;have e33:=hf 33 ag;simp[slotFact,Yg] at e33;exact PO):p:=h
theorem anw(h:p:=by
 have au5:=@G _ @XY;exact zI):p:=h
theorem AX(h:p:=by
 have HG0:=G g0;have HG1:=G g1;have HG2:=G g2;have d0:=ck0 g0;have d1:=ck1 g0;have d2:=ck2 g0;have d3:=ck3 g0;have d4:=ck4 g0;have e0:=ck0 g1;have e1:=ck1 g1;have e2:=ck2 g1;have e3:=ck3 g1;have r0:=ck0 g2;have r1:=ck1 g2;have r2:=ck2 g2;have r3:=ck3 g2;have r4:=ck4 g2;have r5:=ck5 g2;have r6:=ck6 g2;have r7:=ck7 g2;have r8:=ck8 g2;have q0:=ak g2 0;have q1:=ak g2 1;have q2:=ak g2 2;have q3:=ak g2 3;have q4:=ak g2 4;have q5:=ak g2 5;have q6:=ak g2 6;have q7:=ak g2 7;have q8:=ak g2 8;exact Yb HG0 (Yb HG1 (Yb HG2 (Yb d0 (Yb d1 (Yb d2 (Yb d3 (Yb d4 (Yb e0 (Yb e1 (Yb e2 (Yb e3 (Yb r0 (Yb r1 (Yb r2 (Yb r3 (Yb r4 (Yb r5 (Yb r6 (Yb r7 (Yb r8 (Yb q0 (Yb q1 (Yb q2 (Yb q3 (Yb q4 (Yb q5 (Yb q6 (Yb q7 q8))))))))))))))))))))))))))))):p:=h
theorem OV(h:p:=by
 have fv0:=ak Bv.out 0;have fv1:=ak Bv.out 1;have fv2:=ak Bv.out 2;have fv3:=ak Bv.out 3;have fv4:=ak Bv.out 4;have fv5:=ak Bv.out 5;have fv6:=ak Bv.out 6;have fv7:=ak Bv.out 7;exact Yb fv0 (Yb fv1 (Yb fv2 (Yb fv3 (Yb fv4 (Yb fv5 (Yb fv6 fv7))))))):p:=h
theorem ahV(h:p:=by
 have aqT:W5.heap.size=w1.heap.size:=by rw[hW5];simp
 have Zp:∀q,¬q=w.heap.size+1+1+1->W5.heap[q]?=w1.heap[q]?:=λq h9=>by rw[hW5,Ya _ _ _ _ h9,Ya _ _ _ _ h9,Ya _ _ _ _ h9,Ya _ _ _ _ h9,Ya _ _ _ _ h9,Ya _ _ _ _ h9,Ya _ _ _ _ h9,Ya _ _ _ _ h9]
 have au6:=@G _ @aeg;exact Au):p:=h
theorem ahS(h:p:=by
 have mixed:Tryz.prog.follows .mixedOrders=Zi:=aW
 have hw1:IntKind.i64.wrap ((i:Int)+1)=(i:Int)+1:=by rw[IntKind.wrap_i64];omega
 have ZN:(0:Int)<=(i:Int)+1:=af
 exact Yb mixed (Yb hw1 ZN)):p:=h
theorem OP(h:p:=by
 have g0:=(hb.block _ (ae HG0.out)).trans HG0.out;have g1:=(hb.block _ (ae HG1.out)).trans HG1.out;have g2:=(hb.block _ (ae HG2.out)).trans HG2.out;have HB:=upB HB hb;exact Yb g0 (Yb g1 (Yb g2 HB))):p:=h
theorem afW(h:p:=by
 have ay2:=HMY.1.2.2.2.2;have hzz:(aT t k.z).size<=20:=by
  have h1:(aT t k.z)=k.z\/(aT t k.z)=t:=by unfold aT;split <;> simp
  rcases h1 with h1|h1
  ·rw[h1];rcases (HT.2.1.2.1.2.1 j k HK.1).2 with h2|h2
   ·rw[h2];decide
   ·exact h2.2.1
  ·rw[h1];exact awM
 have hmn:(aC++x.n).size<=20:=by
  rw[ByteArray.size_append];have h1:aC.size=2:=rfl;omega
 have HCX:Hid (kg c (bdX x (aC++x.n)) (mkV x (aT t k.z))=dd c i x (aT t k.z)):=xF HT.out HX.1 HMY.2.1;have HMB:Hid (bdV (mkV x (aT t k.z)) x.n=mkV x (aT t k.z)):=rfl;go_wp2_with fail;rw[<-hW6];have ang:=@G _ @Kp;exact dC):p:=h
theorem afV(h:p:=by
 rw[<-hW6];clear hW6;refine (dL E 4 cc hcc _ (HE.below ao7.out) ag).mono ?_;exact PB):p:=h
theorem afU(h:p:=by
 rw[<-hW6];clear hW6;refine (dL E 3 cc hcc _ (HE.below ao7.out) ag).mono ?_;exact PB):p:=h
theorem qJ(h:p:=by
 clear v0 fv0 v1 fv1 v2 fv2 v3 fv3 v4 fv4 v5 fv5 v6 fv6 v7 fv7;obtain⟨W6,hW6⟩:∃W,W=((((((((w2.setCell ⟨w.heap.size+1+1+1,0,J⟩ (I (aC++x.n))).setCell ⟨w.heap.size+1+1+1,1,J⟩ (V O x.z)).setCell ⟨w.heap.size+1+1+1,2,J⟩ (I (aT t k.z))).setCell ⟨w.heap.size+1+1+1,3,J⟩ (I x.k)).setCell ⟨w.heap.size+1+1+1,4,J⟩ (Zf x.x)).setCell ⟨w.heap.size+1+1+1,5,J⟩ (I x.n)).setCell ⟨w.heap.size+1+1+1,6,J⟩ (Zf Zg)).setCell ⟨w.heap.size+1+1+1,7,J⟩ (U J 0 0)):=⟨_,rfl⟩;obtain⟨au7,Zp,Dk,Dx,Dr,Ds,Dv,ao7,HKP⟩:=anw;clear Zp;exact asq):p:=h
theorem afh(h:p:=by
 refine bodyPost_ret (v:=Zj #[U g.a1 g.l1 g.c1,U g.a2 g.l2 g.c2,U g.a3 g.l3 g.c3,U g.a4 g.l4 g.c4,U g.a5 g.l5 g.c5,V O o9.c.now,I o9.n,V O o9.p]) (by simp[results,Tryz.results5,go_sem, *]) rfl ⟨g,o9,rfl,HV.out,?_,sb1 (sb1 (sb1 (sb1 (sb1 (sb1 (sb1 (sb1 (HB.out))))))))⟩;obtain⟨P,hP⟩:=HO.out;exact⟨P,hP.ay (w':=((((((((w3.setCell ⟨w.heap.size+1,0,J⟩ (U g.a1 g.l1 g.c1)).setCell ⟨w.heap.size+1,1,J⟩ (U g.a2 g.l2 g.c2)).setCell ⟨w.heap.size+1,2,J⟩ (U g.a3 g.l3 g.c3)).setCell ⟨w.heap.size+1,3,J⟩ (U g.a4 g.l4 g.c4)).setCell ⟨w.heap.size+1,4,J⟩ (U g.a5 g.l5 g.c5)).setCell ⟨w.heap.size+1,5,J⟩ (V O o9.c.now)).setCell ⟨w.heap.size+1,6,J⟩ (I o9.n)).setCell ⟨w.heap.size+1,7,J⟩ (V O o9.p))) (λq hq s=>by have s1:w2.heap.size<=q:=s;rw[Ya _ _ _ _ (show q≠w.heap.size+1 by omega),Ya _ _ _ _ (show q≠w.heap.size+1 by omega),Ya _ _ _ _ (show q≠w.heap.size+1 by omega),Ya _ _ _ _ (show q≠w.heap.size+1 by omega),Ya _ _ _ _ (show q≠w.heap.size+1 by omega),Ya _ _ _ _ (show q≠w.heap.size+1 by omega),Ya _ _ _ _ (show q≠w.heap.size+1 by omega),Ya _ _ _ _ (show q≠w.heap.size+1 by omega)]) (λq _ s=>by have s1:w2.heap.size<=q:=s;show w.heap.size<=q;omega)⟩):p:=h
theorem afg(h:p:=by
 exact bodyPost_ret (v:=Zj #[U J 0 0,U J 0 0,U J 0 0,U J 0 0,U J 0 0,V O 0,I ⟨#[]⟩,V O cc]) (by simp[results,Tryz.results5,go_sem, *]) rfl ⟨ad0,co0 cc,rfl,HV.out,alh _ _,sb1 (sb1 (sb1 (sb1 (sb1 (sb1 (sb1 (sb1 (HB.out))))))))⟩):p:=h
theorem qI(h:p:=by
 have asr:=@G _ @Tg;exact pX):p:=h
theorem aeX(h:p:=by
 obtain⟨W2,hW2⟩:∃W2,W2=wz.setCell ⟨w1.heap.size,3,J⟩ (U a4 l4 p4):=⟨_,rfl⟩;rw[<-hW2];have hzs:=HWZ.size;have azb:W2.heap.size=wz.heap.size:=by rw[hW2];simp
 have hk2:∀k,¬k=w1.heap.size->W2.heap[k]?=wz.heap[k]?:=λk h9=>by rw[hW2];exact Ya _ _ _ _ h9
 have Bo2:Hid (W2.heap[w1.heap.size]?=M (Ze (Zd d'.a1 d'.l1 d'.c1 d'.a2 d'.l2 d'.c2 d'.a3 d'.l3 d'.c3 a4 l4 p4 d'.a5 d'.l5 d'.c5 c.now) 29 (0,0))):=by
  have h9:=an (i:=3) BoZ.out (U a4 l4 p4);simp only[Yr,Yx,Yy] at h9;rw[hW2];exact h9
 have hvx:=ae BvW.out;have hrx:=ae BrW.out;have Bv2:=G ((hk2 (w.heap.size+1+1) af).trans ((HWZ.block _ hvx).trans BvW.out));have Br2:=G ((hk2 (w.heap.size+1+1+1) af).trans ((HWZ.block _ hrx).trans BrW.out));have ZX:Hid (Below w.heap.size w W2):=by rw[hW2];exact ai (show w.heap.size<=w1.heap.size by omega) (ZH.trans (HWZ.mono ZH.size))
 have HPV:Hid (av W2 d'.a3 d'.l3 d'.c3 8 37 (c.vs.map vdF) (λk=>(w.heap.size+1+1+1+1<=k/\P k=3)/\k<w1.heap.size)):=(HP.v.bC (λk hk s=>⟨s,hk⟩)).ay (λk hk s=>(hk2 k af).trans ((HWZ.block k af).trans (ZW.block k hk))) (λ_ _ s=>s);have HK2:=G hk2;clear hk2 hW2 o0 o1 o2 o3 o4 o5 fo3;go_wp2_with fail;have aqd:=@G _ @JO;exact nk):p:=h
theorem aen(h:p:=by
 go_enter Tryz.func166,Tryz.ntmps166;go_wp2_with (first
  | (at_builtin;refine Lib.wpList_append_run _ rfl _ _ _ _ rfl _ _ rfl rfl _ _ (hrz _) ?_)
  | (at_builtin;refine wpList_copy_run _ rfl _ _ 96 25 rfl _ _ rfl rfl (av4 _ _) ?_))
 go_region_law_o (refine et rfl _ _ 96 96 rfl _ _ lj lj (av5 3 (Z_ - (i+1)) (cap - i)) ?_);go_wp2;go_ret;exact⟨_,rfl,HF.1,HF.2⟩):p:=h
theorem aem(h:p:=by
 go_enter Tryz.func164,Tryz.ntmps164;go_wp2_with (first
  | (at_builtin;refine Lib.wpList_append_run _ rfl _ _ _ _ rfl _ _ rfl rfl _ _ (hrz _) ?_)
  | (at_builtin;refine wpList_copy_run _ rfl _ _ 121 26 rfl _ _ rfl rfl (av4 _ _) ?_))
 go_region_law_o (refine et rfl _ _ 121 121 rfl _ _ lj lj (av5 3 (Z_ - (i+1)) (cap - i)) ?_);go_wp2;go_ret;exact⟨_,rfl,HF.1,HF.2⟩):p:=h
theorem Av(h:p:=by
 have hGi:¬Z_=i:=af
 have azc:¬Z_=i+1:=af
 have hci:¬cap=i:=af
 have ZP:¬((i:Int)=(cap:Int)):=af
 have hz3:(cap:Int)<(cap:Int)+1:=af
 obtain⟨mixed,hw1,ZN⟩:=ahS;have Z6:i<=cap:=af
 have htn:((i:Int)+1).toNat=i+1:=af
 have Zy:(i:Int)<=(cap:Int):=af
 have HF:=G (Yb aop awO);clear hN aop awO awL hW3 hW2 hR3 hg2 aq4 aso hR2 hv1 hg1 hgN hRt hRs hW1 aq3 hG hcell hdl hie hg htk hcs HO;exact au8):p:=h
theorem aeh(h:p:=by
 have Dv:Hid (W6.heap[w.heap.size+1+1+1]?=M (Ze #[I (aC++x.n),V O x.z,I (aT t k.z),I x.k,Zf x.x,I x.n,Zf Zg,U J 0 0] 37 (0,0))):=by rw[hW6];exact SD Bv.out _ _ _ _ _ _ _ _
 have ao7:Hid (Below w.heap.size w W6):=by rw[hW6];exact sb3 (sb3 (sb3 (sb3 (sb3 (sb3 (sb3 (sb3 (HB.out))))))))
 have HKP:=G Zp;exact Yb au7 (Yb Zp (Yb Dk (Yb Dx (Yb Dr (Yb Ds (Yb Dv (Yb ao7 HKP)))))))):p:=h
theorem aeg(h:p:=by
 exact Yb aqT (Yb Zp (Yb Dk (Yb Dx (Yb Dr Ds))))):p:=h
theorem Au(h:p:=by
 have ass:=@G _ @NM;exact uG):p:=h
theorem ad8(h:p:=by
 have hvk:vss[k]?=M [I x.n,V O x.c,I x.z,I x.k,Zf x.x,I x.m,Zf x.y,U va vl vc]:=by
  have ast:=@G _ @NZ;exact uI
 have asu:=@G _ @JD;exact tJ):p:=h
theorem ad3(h:p:=by
 have asf:=@G _ @Xa;exact qk):p:=h
theorem ad2(h:p:=by
 have Κ:=G hX1;have HXC:=G hXc;have heq:=λw=>Lib.run_eql_slice_nil w 96 37 a n cap 0 0 Tryz.underlying96;clear hX1 hXc;cases a with
 | none=>
  obtain rfl:X=[]:=by
   rcases X with _|⟨u,X⟩
   ·rfl
   ·obtain⟨g,e,_⟩:=HXC.out 0 u rfl
    cases e
  obtain rfl:n=0:=by simp at hXl;omega
  go_enter Tryz.func167,Tryz.ntmps167
  go_wp2
  go_ret;exact⟨J,0,rfl,World.ownsRow_nil _ _ _ _,Yh _ _⟩
 | some ad=>
  obtain⟨ab,ao,asp⟩:=ad
  have asv:∀(j:Nat) u,X[j]?=M u->(w.alloc (Ze #[] 37)).cell? ((⟨ab,ao,asp⟩:Addr).add j)=M u:=λj u hu=>by
   obtain⟨g,e,hc⟩:=HXC.out j u hu
   cases e
   rw[Ym,Yp];have Zo:=a_ hc;rw[<-hc];exact World.cell?_of_block (heap_alloc_old w _ Zo)
  have HN:=G asv;have HO:Hid ((w.alloc (Ze #[] 37)).ownsRow w.heap.size 37 8 (U (M ⟨w.heap.size,0,J⟩) 0 0) 0 []):=World.ownsRow_made w #[] 0 (Ye _) (YJ _) aF;clear asv
  go_enter Tryz.func167,Tryz.ntmps167
  go_wp2_with (at_builtin;refine ck rfl _ _ 96 96 rfl w.heap.size 37 37 i0 (Zj #[I ⟨#[]⟩,V O 0,I ⟨#[]⟩,I ⟨#[]⟩,Zf Zg,I ⟨#[]⟩,Zf Zg,U J 0 0]) 8 112 Tryz.underlying96 Tryz.underlying96 Y_.1 Y_.2.1 Y_.2.2.1 Y_.2.2.2 rfl ag _ _ _ rfl HO.out ⟨ab,ao,asp⟩ n cap X rfl hXl HN.out Κ.out br af aF ?_)
  intro v' w' h1 h2
  obtain⟨a',c',rfl⟩:∃a' c',v'=U a' n c':=by
   rcases h1.2 with ⟨rfl,h0⟩|⟨g,cp,cu,rfl,_⟩
   ·exact⟨J,0,by rw[h0]⟩
   ·exact⟨_,_,rfl⟩
  have H1:=G h1;have H2:=G h2;clear h1 h2
  go_wp2
  go_ret;refine⟨a',c',rfl,H1.out,((aj w (Ze #[] 37)).grown H2.out aF (λg hg=>?_))⟩
  simp[YK] at hg
  omega):p:=h
theorem ad1(h:p:=by
 have Κ:=G hX1;have HXC:=G hXc;have heq:=λw=>Lib.run_eql_slice_nil w 121 47 a n cap 0 0 Tryz.underlying121;clear hX1 hXc;cases a with
 | none=>
  obtain rfl:X=[]:=by
   rcases X with _|⟨u,X⟩
   ·rfl
   ·obtain⟨g,e,_⟩:=HXC.out 0 u rfl
    cases e
  obtain rfl:n=0:=by simp at hXl;omega
  go_enter Tryz.func165,Tryz.ntmps165
  go_wp2
  go_ret;exact⟨J,0,rfl,World.ownsRow_nil _ _ _ _,Yh _ _⟩
 | some ad=>
  obtain⟨ab,ao,asp⟩:=ad
  have asv:∀(j:Nat) u,X[j]?=M u->(w.alloc (Ze #[] 47)).cell? ((⟨ab,ao,asp⟩:Addr).add j)=M u:=λj u hu=>by
   obtain⟨g,e,hc⟩:=HXC.out j u hu
   cases e
   rw[Ym,Yp];have Zo:=a_ hc;rw[<-hc];exact World.cell?_of_block (heap_alloc_old w _ Zo)
  have HN:=G asv;have HO:Hid ((w.alloc (Ze #[] 47)).ownsRow w.heap.size 47 5 (U (M ⟨w.heap.size,0,J⟩) 0 0) 0 []):=World.ownsRow_made w #[] 0 (Ye _) (YJ _) aF;clear asv
  go_enter Tryz.func165,Tryz.ntmps165
  go_wp2_with (at_builtin;refine ck rfl _ _ 121 121 rfl w.heap.size 47 47 i0 (Zj #[I ⟨#[]⟩,V O 0,I ⟨#[]⟩,Zf Zg,I ⟨#[]⟩]) 5 64 Tryz.underlying121 Tryz.underlying121 Y_.1 Y_.2.1 Y_.2.2.1 Y_.2.2.2 rfl ag _ _ _ rfl HO.out ⟨ab,ao,asp⟩ n cap X rfl hXl HN.out Κ.out br af aF ?_)
  intro v' w' h1 h2
  obtain⟨a',c',rfl⟩:∃a' c',v'=U a' n c':=by
   rcases h1.2 with ⟨rfl,h0⟩|⟨g,cp,cu,rfl,_⟩
   ·exact⟨J,0,by rw[h0]⟩
   ·exact⟨_,_,rfl⟩
  have H1:=G h1;have H2:=G h2;clear h1 h2
  go_wp2
  go_ret;refine⟨a',c',rfl,H1.out,((aj w (Ze #[] 47)).grown H2.out aF (λg hg=>?_))⟩
  simp[YK] at hg
  omega):p:=h
theorem adF(h:p:=by
 go_enter Tryz.func100,Tryz.ntmps100;go_wp2_with fail;refine (eT x va vl vc _).mono ?_;rintro e w1 ⟨rfl,ZN⟩;obtain⟨hn1,Zr⟩:=aY ZN;have HN1:=G hn1;have ZW:=G Zr;clear ZN hn1 Zr;go_wp2_with fail;refine (ij a n cap xs x.n _ (HR.below ZW.out)).mono ?_;rintro e w2 ⟨rfl,ZG⟩;have HN2:=G ((ZG.block w.heap.size (ae HN1.out)).trans HN1.out);have ZX:=upB ZW ZG;clear ZG;rw[<-HJ.out];generalize hit Vd.n xs x.n=bb;have hs2:=ae HN2.out;have HBD:Hid (Below w.heap.size w w2.drew):=Below.gT ZX.out;obtain⟨n0,n1,n2,n3,n4,n5,n6,n7⟩:=cs8 (show w2.drew.heap[w.heap.size]?=_ from HN2.out);have av6:Calls Tryz.prog 167 #[U a n cap] w2.drew λe w3=> ∃a3 c3,e=Zh (U a3 n c3)/\Hid (w3.ownsRow w2.heap.size 37 8 (U a3 n c3) n vss.flatten)/\Hid (Below w.heap.size w w3)/\w2.heap.size<=w3.heap.size/\w.heap.size<w3.heap.size/\w3.heap[w.heap.size]?=M (Ze (vov x va vl vc) 37 (0,0)):=by
  refine (lE a n cap vss.flatten w2.drew hn hfl HV1.out (HCL.out _ HBD.out)).mono ?_;exact Q_
 have av7:Calls Tryz.prog 167 #[U a n cap] (w2.alloc (Ze (vov x va vl vc) 37)).drew λe w3=> ∃a3 c3,e=Zh (U a3 n c3)/\Hid (w3.ownsRow (w2.heap.size+1) 37 8 (U a3 n c3) n vss.flatten)/\Hid (Below w.heap.size w w3)/\w2.heap.size+1<=w3.heap.size/\Hid (w3.heap[w2.heap.size]?=M (Ze (vov x va vl vc) 37 (0,0))):=by
  have Z3:=Below.gT (ZX.alloc ZX.size (Ze (vov x va vl vc) 37));have Zq:(w2.alloc (Ze (vov x va vl vc) 37)).drew.heap.size=w2.heap.size+1:=aF
  refine (lE a n cap vss.flatten _ hn hfl HV1.out (HCL.out _ Z3)).mono ?_;rintro e w3 ⟨a3,c3,rfl,ho3,Zy⟩;have hs3:=Zy.size;rw[Zq] at ho3 hs3;exact⟨a3,c3,rfl,ho3,Z3.trans (Zy.mono Z3.size),hs3,(Zy.block w2.heap.size (by rw[Zq];omega)).trans (show (w2.alloc (Ze (vov x va vl vc) 37)).drew.heap[w2.heap.size]?=_ from heap_alloc_new w2 _)⟩
 have av8:∀(w3:World) a3 c3,w3.ownsRow w2.heap.size 37 8 (U a3 n c3) n vss.flatten->Below w.heap.size w w3->w2.heap.size<=w3.heap.size->Calls Tryz.prog 166 #[U a3 n c3,V O j,U (M ⟨w3.heap.size,0,J⟩) 1 1] (w3.alloc (Ze (vov x va vl vc) 37)) λe w4=> ∃a' c',e=Zh (U a' (n+1) c')/\Hid (av w4 a' (n+1) c' 8 37 ((aQ (pl Vd.n xs x.n) x xs).map vdF) (λk=>(Q k\/Q2 k)\/w.heap.size<=k))/\Hid (Below w.heap.size w w4):=λw3 a3 c3 ho3 hB3 hs3=>by
  refine (pz a3 n c3 j w2.heap.size w3.heap.size vss.flatten [I x.n,V O x.c,I x.z,I x.k,Zf x.x,I x.m,Zf x.y,U va vl vc] (w3.alloc (Ze (vov x va vl vc) 37)) (ho3.alloc _) hn hjn bg (heap_alloc_new w3 _) rfl dx HV1.out (λg hg e=>by
   have h9:=(ho3.lt g (by rw[hg];rfl)).2
   omega)).mono ?_
  rintro e w4 ⟨v4,rfl,ho4,hg4⟩;have hB5:=(hB3.alloc hB3.size (Ze (vov x va vl vc) 37)).grown hg4 bg (λg hg=>by
   have h9:=(ho3.lt g hg).1
   omega)
  exact xx
 have apB:∀(w3:World) a3 c3,w3.ownsRow (w2.heap.size+1) 37 8 (U a3 n c3) n vss.flatten->Below w.heap.size w w3->w2.heap.size+1<=w3.heap.size->w3.heap[w2.heap.size]?=M (Ze (vov x va vl vc) 37 (0,0))->Calls Tryz.prog 166 #[U a3 n c3,V O j,U (M ⟨w2.heap.size,0,J⟩) 1 1] w3 λe w4=> ∃a' c',e=Zh (U a' (n+1) c')/\Hid (av w4 a' (n+1) c' 8 37 ((aQ (pl Vd.n xs x.n) x xs).map vdF) (λk=>(Q k\/Q2 k)\/w.heap.size<=k))/\Hid (Below w.heap.size w w4):=λw3 a3 c3 ho3 hB3 hs3 hy3=>by
  refine (pz a3 n c3 j (w2.heap.size+1) w2.heap.size vss.flatten [I x.n,V O x.c,I x.z,I x.k,Zf x.x,I x.m,Zf x.y,U va vl vc] w3 ho3 hn hjn hs3 hy3 rfl dx HV1.out (λg hg e=>by
   have h9:=(ho3.lt g (by rw[hg];rfl)).1
   omega)).mono ?_
  exact Pz
 have au9:=@G _ @VR;exact zj):p:=h
theorem adE(h:p:=by
 go_enter Tryz.func98,Tryz.ntmps98;go_wp2_with fail;refine (eS x _).mono ?_;rintro e w1 ⟨rfl,ZN⟩;obtain⟨hn1,Zr⟩:=aY ZN;have HN1:=G hn1;have ZW:=G Zr;clear ZN hn1 Zr;go_wp2_with fail;refine (ly a n cap xs x.n _ (HR.below ZW.out)).mono ?_;rintro e w2 ⟨rfl,ZG⟩;have HN2:=G ((ZG.block w.heap.size (ae HN1.out)).trans HN1.out);have ZX:=upB ZW ZG;clear ZG;rw[<-HJ.out];generalize hit Xd.n xs x.n=bb;have hs2:=ae HN2.out;have HBD:Hid (Below w.heap.size w w2.drew):=Below.gT ZX.out;obtain⟨n0,n1,n2,n3,n4⟩:=cs5 (show w2.drew.heap[w.heap.size]?=_ from HN2.out);have av6:Calls Tryz.prog 165 #[U a n cap] w2.drew λe w3=> ∃a3 c3,e=Zh (U a3 n c3)/\Hid (w3.ownsRow w2.heap.size 47 5 (U a3 n c3) n vss.flatten)/\Hid (Below w.heap.size w w3)/\w2.heap.size<=w3.heap.size/\w.heap.size<w3.heap.size/\w3.heap[w.heap.size]?=M (Ze (xov x) 47 (0,0)):=by
  refine (lD a n cap vss.flatten w2.drew hn hfl HV1.out (HCL.out _ HBD.out)).mono ?_;exact Q_
 have av7:Calls Tryz.prog 165 #[U a n cap] (w2.alloc (Ze (xov x) 47)).drew λe w3=> ∃a3 c3,e=Zh (U a3 n c3)/\Hid (w3.ownsRow (w2.heap.size+1) 47 5 (U a3 n c3) n vss.flatten)/\Hid (Below w.heap.size w w3)/\w2.heap.size+1<=w3.heap.size/\Hid (w3.heap[w2.heap.size]?=M (Ze (xov x) 47 (0,0))):=by
  have Z3:=Below.gT (ZX.alloc ZX.size (Ze (xov x) 47));have Zq:(w2.alloc (Ze (xov x) 47)).drew.heap.size=w2.heap.size+1:=aF
  refine (lD a n cap vss.flatten _ hn hfl HV1.out (HCL.out _ Z3)).mono ?_;rintro e w3 ⟨a3,c3,rfl,ho3,Zy⟩;have hs3:=Zy.size;rw[Zq] at ho3 hs3;exact⟨a3,c3,rfl,ho3,Z3.trans (Zy.mono Z3.size),hs3,(Zy.block w2.heap.size (by rw[Zq];omega)).trans (show (w2.alloc (Ze (xov x) 47)).drew.heap[w2.heap.size]?=_ from heap_alloc_new w2 _)⟩
 have av8:∀(w3:World) a3 c3,w3.ownsRow w2.heap.size 47 5 (U a3 n c3) n vss.flatten->Below w.heap.size w w3->w2.heap.size<=w3.heap.size->Calls Tryz.prog 164 #[U a3 n c3,V O j,U (M ⟨w3.heap.size,0,J⟩) 1 1] (w3.alloc (Ze (xov x) 47)) λe w4=> ∃a' c',e=Zh (U a' (n+1) c')/\Hid (av w4 a' (n+1) c' 5 47 ((aQ (pl Xd.n xs x.n) x xs).map xdF) (λk=>(Q k\/Q2 k)\/w.heap.size<=k))/\Hid (Below w.heap.size w w4):=λw3 a3 c3 ho3 hB3 hs3=>by
  refine (py a3 n c3 j w2.heap.size w3.heap.size vss.flatten [I x.n,V O x.z,I x.k,Zf x.x,I x.v] (w3.alloc (Ze (xov x) 47)) (ho3.alloc _) hn hjn bg (heap_alloc_new w3 _) rfl dx HV1.out (λg hg e=>by
   have h9:=(ho3.lt g (by rw[hg];rfl)).2
   omega)).mono ?_
  rintro e w4 ⟨v4,rfl,ho4,hg4⟩;have hB5:=(hB3.alloc hB3.size (Ze (xov x) 47)).grown hg4 bg (λg hg=>by
   have h9:=(ho3.lt g hg).1
   omega)
  exact xx
 have apB:∀(w3:World) a3 c3,w3.ownsRow (w2.heap.size+1) 47 5 (U a3 n c3) n vss.flatten->Below w.heap.size w w3->w2.heap.size+1<=w3.heap.size->w3.heap[w2.heap.size]?=M (Ze (xov x) 47 (0,0))->Calls Tryz.prog 164 #[U a3 n c3,V O j,U (M ⟨w2.heap.size,0,J⟩) 1 1] w3 λe w4=> ∃a' c',e=Zh (U a' (n+1) c')/\Hid (av w4 a' (n+1) c' 5 47 ((aQ (pl Xd.n xs x.n) x xs).map xdF) (λk=>(Q k\/Q2 k)\/w.heap.size<=k))/\Hid (Below w.heap.size w w4):=λw3 a3 c3 ho3 hB3 hs3 hy3=>by
  refine (py a3 n c3 j (w2.heap.size+1) w2.heap.size vss.flatten [I x.n,V O x.z,I x.k,Zf x.x,I x.v] w3 ho3 hn hjn hs3 hy3 rfl dx HV1.out (λg hg e=>by
   have h9:=(ho3.lt g (by rw[hg];rfl)).1
   omega)).mono ?_
  exact Pz
 have au9:=@G _ @VQ;exact zj):p:=h
theorem Am(h:p:=by
 have HCL:Hid (∀W,Below w.heap.size w W->∀(k:Nat) u,vss.flatten[k]?=M u->∃g,a=M ⟨g,0,J⟩/\W.cell? ⟨g,k,J⟩=M u):=λW hW k u hu=>by
  obtain⟨g,h1,_,h3⟩:=HC.out k u hu;exact⟨g,h1,(ah hW (a_ h3)).trans h3⟩
 have HV1:=G HV.one;clear hj;exact au_):p:=h
theorem ac8(h:p:=by
 have g0:=(hb.block w.heap.size bg).trans (mo _ _ _ _);have g1:=(hb.block (w.heap.size+1) aF).trans (ko _ _ _ _);have g2:=(hb.block (w.heap.size+1+1) aF).trans (km _ _ _ _);have HB:=G ((cO w _ _ _).trans (hb.mono bg));obtain⟨HG0,HG1,HG2,d0,d1,d2,d3,d4,e0,e1,e2,e3,r0,r1,r2,r3,r4,r5,r6,r7,r8,q0,q1,q2,q3,q4,q5,q6,q7,q8⟩:=AX;clear g0 g1 g2 hb;by_cases hq:r=Zi;case neg=>
  have HN:=G (λh=>hq (hr.2 h));clear hr;go_wp2_with fail;exact bodyPost_ret (v:=Zj #[I ⟨#[]⟩,V O 0,I ⟨#[]⟩,I ⟨#[]⟩,Zf Zg,I ⟨#[]⟩,Zf Zg,U J 0 0,V O 1]) nJ rfl ⟨_,_,_,_,_,_,_,rfl,Zk (Zl ⟨HL.out,λh=>HN.out h.1,⟨rfl,rfl,rfl,rfl,rfl,rfl⟩,rfl⟩),cY af HB.out⟩
 have h0:=G (hr.1 hq);subst hq;clear hr;go_wp2_with fail;refine (jo n z x y _ hn hz).mono ?_;rintro e w2 ⟨r,rfl,hr,hb⟩;obtain⟨g0,g1,g2,HB⟩:=OP;clear d0 d1 d2 d3 d4 e0 e1 e2 e3 r0 r1 r2 r3 r4 r5 r6 r7 r8 q0 q1 q2 q3 q4 q5 q6 q7 q8;obtain⟨HG0,HG1,HG2,d0,d1,d2,d3,d4,e0,e1,e2,e3,r0,r1,r2,r3,r4,r5,r6,r7,r8,q0,q1,q2,q3,q4,q5,q6,q7,q8⟩:=AX;clear g0 g1 g2 hb;by_cases hq:r=Zi;case neg=>
  have HN:=G (λh=>hq (hr.2 h));clear hr;go_wp2_with fail;exact bodyPost_ret (v:=Zj #[I ⟨#[]⟩,V O 0,I ⟨#[]⟩,I ⟨#[]⟩,Zf Zg,I ⟨#[]⟩,Zf Zg,U J 0 0,V O 1]) nJ rfl ⟨_,_,_,_,_,_,_,rfl,Zk (Zl ⟨HL.out,λh=>HN.out h.2.1,⟨rfl,rfl,rfl,rfl,rfl,rfl⟩,rfl⟩),cY af HB.out⟩
 have h1:=G (hr.1 hq);subst hq;clear hr;go_wp2_with fail;refine (bh t _ ht).mono ?_;rintro e w3 ⟨r,rfl,hr,rfl⟩;by_cases hq:r=Zi;case neg=>
  have HN:=G (λh=>hq (hr.2 h));clear hr;go_wp2_with fail;exact bodyPost_ret (v:=Zj #[I ⟨#[]⟩,V O 0,I ⟨#[]⟩,I ⟨#[]⟩,Zf Zg,I ⟨#[]⟩,Zf Zg,U J 0 0,V O 1]) nJ rfl ⟨_,_,_,_,_,_,_,rfl,Zk (Zl ⟨HL.out,λh=>HN.out h.2.2,⟨rfl,rfl,rfl,rfl,rfl,rfl⟩,rfl⟩),cY af HB.out⟩
 have h2:=G (hr.1 hq);subst hq;clear hr;by_cases m0:k'=n;case neg=>
  have q90:=bu m0;have M0:=G m0;clear m0;go_wp2_with fail;exact bodyPost_ret (v:=Zj #[I ⟨#[]⟩,V O 0,I ⟨#[]⟩,I ⟨#[]⟩,Zf Zg,I ⟨#[]⟩,Zf Zg,U J 0 0,V O 10]) nJ rfl ⟨_,_,_,_,_,_,_,rfl,Zk (Zk (Zl ⟨HL.out,⟨h0.out,h1.out,h2.out⟩,λh=>M0.out h.1,⟨rfl,rfl,rfl,rfl,rfl,rfl⟩,rfl⟩)),cY af HB.out⟩
 have q90:=aP m0;have M0:=G m0;clear m0;by_cases m1:v'=⟨#[]⟩;case neg=>
  have q91:=aU m1;have M1:=G m1;clear m1;go_wp2_with fail;exact bodyPost_ret (v:=Zj #[I ⟨#[]⟩,V O 0,I ⟨#[]⟩,I ⟨#[]⟩,Zf Zg,I ⟨#[]⟩,Zf Zg,U J 0 0,V O 10]) nJ rfl ⟨_,_,_,_,_,_,_,rfl,Zk (Zk (Zl ⟨HL.out,⟨h0.out,h1.out,h2.out⟩,λh=>M1.out h.2.1,⟨rfl,rfl,rfl,rfl,rfl,rfl⟩,rfl⟩)),cY af HB.out⟩
 have q91:=(eP v').2 m1;have M1:=G m1;clear m1;go_wp2_with fail;refine (RN n x y z t _ hn hz ht).mono ?_;rintro e w4 ⟨r,rfl,hr,hb⟩;obtain⟨g0,g1,g2,HB⟩:=OP;clear d0 d1 d2 d3 d4 e0 e1 e2 e3 r0 r1 r2 r3 r4 r5 r6 r7 r8 q0 q1 q2 q3 q4 q5 q6 q7 q8;obtain⟨HG0,HG1,HG2,d0,d1,d2,d3,d4,e0,e1,e2,e3,r0,r1,r2,r3,r4,r5,r6,r7,r8,q0,q1,q2,q3,q4,q5,q6,q7,q8⟩:=AX;clear g0 g1 g2 hb;by_cases hq:r=Zi;case neg=>
  have HN:=G (λh=>hq (hr.2 h));clear hr;go_wp2_with fail;exact bodyPost_ret (v:=Zj #[I ⟨#[]⟩,V O 0,I ⟨#[]⟩,I ⟨#[]⟩,Zf Zg,I ⟨#[]⟩,Zf Zg,U J 0 0,V O 10]) nJ rfl ⟨_,_,_,_,_,_,_,rfl,Zk (Zk (Zl ⟨HL.out,⟨h0.out,h1.out,h2.out⟩,λh=>HN.out ⟨h1.out,h2.out,h.2.2.1⟩,⟨rfl,rfl,rfl,rfl,rfl,rfl⟩,rfl⟩)),cY af HB.out⟩
 have M2:=G (hr.1 hq).2.2;subst hq;clear hr;by_cases m3:18<n'.size
 ·have M3:=G m3;go_wp2_with fail;exact bodyPost_ret (v:=Zj #[I ⟨#[]⟩,V O 0,I ⟨#[]⟩,I ⟨#[]⟩,Zf Zg,I ⟨#[]⟩,Zf Zg,U J 0 0,V O 10]) nJ rfl ⟨_,_,_,_,_,_,_,rfl,Zk (Zk (Zl ⟨HL.out,⟨h0.out,h1.out,h2.out⟩,λh=>by have h9:=h.2.2.2;have h8:=M3.out;omega,⟨rfl,rfl,rfl,rfl,rfl,rfl⟩,rfl⟩)),cY af HB.out⟩
 go_wp2_with fail;refine (xU ⟨#[118,95]⟩ n' _ (by rw[show (⟨#[118,95]⟩:ByteArray).size=2 from rfl];omega)).mono ?_;rintro e w5 ⟨rfl,hb⟩;obtain⟨g0,g1,g2,HB⟩:=OP;clear d0 d1 d2 d3 d4 e0 e1 e2 e3 r0 r1 r2 r3 r4 r5 r6 r7 r8 q0 q1 q2 q3 q4 q5 q6 q7 q8;obtain⟨HG0,HG1,HG2,d0,d1,d2,d3,d4,e0,e1,e2,e3,r0,r1,r2,r3,r4,r5,r6,r7,r8,q0,q1,q2,q3,q4,q5,q6,q7,q8⟩:=AX;clear g0 g1 g2 hb;go_wp2_with fail;exact bodyPost_ret (v:=Zj #[I (aC++n'),V O c',I t,I k',Zf x',I n',Zf Zg,U J 0 0,V O 0]) (by simp[results,Tryz.results94,go_sem,aC, *]) rfl ⟨_,_,_,_,_,_,_,rfl,Zk (Zk (Zk ⟨HL.out,⟨h0.out,h1.out,h2.out⟩,⟨M0.out,M1.out,M2.out,by omega⟩,⟨rfl,rfl,rfl,rfl,rfl,rfl⟩,rfl⟩)),cY af HB.out⟩):p:=h
theorem ac7(h:p:=by
 have g1:=(hb.block (w.heap.size+1) aF).trans (cL _ _ _);have HB:=G ((aM w _ _).trans (hb.mono bg));have HG1:=G g1;have r0:=ck0 g1;have r1:=ck1 g1;have r2:=ck2 g1;have r3:=ck3 g1;have r4:=ck4 g1;have r5:=ck5 g1;have r6:=ck6 g1;have r7:=ck7 g1;have r8:=ck8 g1;have q0:=ak g1 0;have q1:=ak g1 1;have q2:=ak g1 2;have q3:=ak g1 3;have q4:=ak g1 4;have q5:=ak g1 5;have q6:=ak g1 6;have q7:=ak g1 7;have q8:=ak g1 8;clear g1 hb;by_cases hq:r=Zi;case neg=>
  exact aia
 have h0:=G (hr.1 hq);subst hq;clear hr;go_wp2_with fail;refine (dt t _ ht).mono ?_;rintro e w2 ⟨r,rfl,hr,rfl⟩;by_cases hq:r=Zi;case neg=>
  exact aia
 have h1:=G (hr.1 hq);subst hq;clear hr r0 q0 r1 q1 r2 q2 r3 q3 r4 q4 r5 q5 r6 q6 r7 q7 r8 q8;go_wp2_with fail;refine (pI a len cap vs _ (HR.below HB.out)).mono ?_;rintro e w3 ⟨r,rfl,hr,hb⟩;have hrf:r=Zg:=by
  cases r with
  | false=>rfl
  | true=>exact absurd ⟨h0.out,h1.out,(hr.1 rfl).1,(hr.1 rfl).2⟩ HBR.out
 subst hrf;have g1:=(hb.block _ (ae HG1.out)).trans HG1.out;have ZX:=upB HB hb;have r0:=ck0 g1;have r1:=ck1 g1;have r2:=ck2 g1;have r3:=ck3 g1;have r4:=ck4 g1;have r5:=ck5 g1;have r6:=ck6 g1;have r7:=ck7 g1;have r8:=ck8 g1;have q0:=ak g1 0;have q1:=ak g1 1;have q2:=ak g1 2;have q3:=ak g1 3;have q4:=ak g1 4;have q5:=ak g1 5;have q6:=ak g1 6;have q7:=ak g1 7;have q8:=ak g1 8;clear hr hb g1;go_wp2_with fail;exact bodyPost_ret (v:=Zj #[I ⟨#[]⟩,V O 0,I ⟨#[]⟩,I ⟨#[]⟩,Zf Zg,I ⟨#[]⟩,Zf Zg,U J 0 0,V O 1]) (by simp[results,Tryz.results93,go_sem, *]) rfl (eU.bad (Zk (Zl ⟨HL.out,HBR.out,rfl,rfl⟩)) (g_ af ZX.out))):p:=h
theorem ac6(h:p:=by
 obtain rfl:r=Zi:=hr.2 HRR.1;have g0:=(hb.block w.heap.size bg).trans (du _ _ _);have g1:=(hb.block (w.heap.size+1) aF).trans (cL _ _ _);have HB:=G ((aM w _ _).trans (hb.mono bg));have HG0:=G g0;have HG1:=G g1;clear g0 g1 hb hr;go_wp2_with fail;refine (dt t _ ht).mono ?_;rintro e w2 ⟨r,rfl,hr,rfl⟩;obtain rfl:r=Zi:=hr.2 HRR.2.1;clear hr;go_wp2_with fail;refine (pI a len cap vs _ (HR.below HB.out)).mono ?_;rintro e w3 ⟨r,rfl,hr,hb⟩;obtain rfl:r=Zi:=hr.2 HRR.2.2;have Z7:=upB HB hb;have HX0:=upK HG0 hb;have Κ:=upK HG1 hb;clear hr hb;have p2:=aM w3 (Ze #[I ⟨#[]⟩,V O 0,I ⟨#[]⟩,I ⟨#[]⟩,Zf Zg,I ⟨#[]⟩,Zf Zg,U J 0 0] 37) (Ze #[Zf Zg] 4);have g0:=(p2.block _ (ae HX0.out)).trans HX0.out;have d0:=al g0 0;have d1:=al g0 1;have d2:=al g0 2;have d3:=al g0 3;have d4:=al g0 4;simp only[List.getElem?_toArray,List.getElem?_cons_succ,List.getElem?_cons_zero] at d0 d1 d2 d3 d4;clear p2 g0;go_wp2_with fail;refine (rW n' c' k' x' v' t _).mono ?_;rintro e w4 ⟨rfl,hh4,π⟩;simp only[World.size_alloc] at hh4 ⊢;clear d0 d1 d2 d3 d4;have p2:=aM w3 (Ze #[I ⟨#[]⟩,V O 0,I ⟨#[]⟩,I ⟨#[]⟩,Zf Zg,I ⟨#[]⟩,Zf Zg,U J 0 0] 37) (Ze #[Zf Zg] 4);have G7:=G ((π.block w3.heap.size bg).trans (du _ _ _));have G8:=G ((π.block (w3.heap.size+1) aF).trans (cL _ _ _));have av9:=p2.trans (π.mono bg);have HB4:=upB Z7 av9;have HX4:=upK Κ av9;have HH4:=G hh4;have h34:w3.heap.size+1+1<=w4.heap.size:=by have:=π.size;simp at this;omega
 have HZ4:=G (ae hh4.2);clear p2 π hh4 av9;go_wp2_with fail;refine (xC a len cap _ _ _ rfl _).mono ?_;rintro e w5 ⟨rfl,hl5,hf5,ZI⟩;have G7':=G ((ZI.block _ (ae G7.out)).trans G7.out);have G8':=G ((ZI.block _ (ae G8.out)).trans G8.out);have HX5:=upK HX4 ZI;have Ρ:=upB HB4 ZI;have HH5:=G (HH4.below ZI);have HL5:=G hl5;have HF5:=G hf5;have h45:w4.heap.size+1+1<=w5.heap.size:=by have:=ae hf5;omega
 have hw3:=ae Κ.out;clear hl5 hf5 ZI;obtain⟨xl,b,o,hxv,Z4,hab,hcell⟩:=(HR.out).xs;have HXV:=G hxv;obtain⟨bb,hbb,hba,hbc⟩:∃bb,bb<w3.heap.size/\(xl=[]\/a=M ⟨bb,o,J⟩)/\∀(j:Nat) x,xl[j]?=M x->aw w x.a x.len x.cap x.v.zs/\w5.cell? ⟨bb,o+j*8,J⟩=M (I x.v.n)/\w5.cell? ⟨bb,o+j*8+1,J⟩=M (V O x.v.c)/\w5.cell? ⟨bb,o+j*8+2,J⟩=M (I x.v.z)/\w5.cell? ⟨bb,o+j*8+3,J⟩=M (I x.v.k)/\
   w5.cell? ⟨bb,o+j*8+4,J⟩=M (Zf x.v.x)/\w5.cell? ⟨bb,o+j*8+5,J⟩=M (I x.v.m)/\w5.cell? ⟨bb,o+j*8+6,J⟩=M (Zf x.v.y)/\w5.cell? ⟨bb,o+j*8+7,J⟩=M (U x.a x.len x.cap):=by
  rcases hab with h|⟨h,Zo⟩
  ·exact⟨w.heap.size,by omega,Zl h,λj x hx=>by simp[h] at hx⟩
  ·refine⟨b,by omega,Zk h,λj x hx=>?_⟩;obtain⟨q,q0,q1,q2,q3,q4,q5,q6,q7⟩:=hcell j x hx;exact⟨q,(ah Ρ.out Zo).trans q0,(ah Ρ.out Zo).trans q1,(ah Ρ.out Zo).trans q2,(ah Ρ.out Zo).trans q3,(ah Ρ.out Zo).trans q4,(ah Ρ.out Zo).trans q5,(ah Ρ.out Zo).trans q6,(ah Ρ.out Zo).trans q7⟩
 have HTX:=G (λ(j:Nat) x hx=>(hbc j x hx).1);have HIT:Hid (Sg w5 a w3.heap.size w4.heap.size (w4.heap.size+1) (w3.heap.size+1+1) (w3.heap.size+1+1+1) bb o len cap xl n' c' k' x' v' t):=
  ⟨HL5.out,HF5.out,HH5.out,Z4,hba,by omega,⟨by omega,by omega,by omega,by omega,by omega,by omega,by omega,by omega,by omega,by omega⟩,λj x hx=>(hbc j x hx).2⟩
 have hz4:=HZ4.out;clear hxv hcell hab hba hbc;go_wp2_with fail;rename_i K0 hK0;refine (wpIn_wide (n:=6)).1 ?_;refine wpIn_rangeFunc_ownH rfl af (gf:=184) (lb:=#[Zm (M ⟨w4.heap.size,0,J⟩),Zm (M ⟨w4.heap.size+1,0,J⟩)]) rfl trivial (enters_of Tryz.func184 aW rfl)
  (xD (6 - 1) af a w3.heap.size w4.heap.size (w4.heap.size+1) (w3.heap.size+1+1) (w3.heap.size+1+1+1) bb o len cap w5.heap.size xl n' c' k' x' v' t w5 af HIT.out rfl ⟨by omega,by omega,by omega,by omega,by omega⟩)
  KpB.trans (KpB.put (Ye _)) (Yh _ _) (λ_=>rfl)
  (BI w w5 w3.heap.size) (λ_ _ _=>False) (BI.own w w5 w3.heap.size af af) (λ_ _ _ _ _ hs _ _=>hs)
  ⟨⟨G7'.out,G8'.out⟩,KpB.refl _ _ _,Ρ.out⟩
  (λx a' W=> ∃Bx,w5.heap.size<=Bx/\W.heap[Bx]?=M (Ze #[I x.v.n,V O x.v.c,I x.v.z,I x.v.k,Zf x.v.x,I x.v.m,Zf x.v.y,U x.a x.len x.cap] 37 (0,0))/\a'={ tmps:=#[U a len cap,Zj #[I n',V O c',I k',Zf x',I v'],I t,undef,Zm (M ⟨w.heap.size,0,J⟩),undef,Zm (M ⟨w.heap.size+1,0,J⟩),Zm (M ⟨w3.heap.size,0,J⟩),Zm (M ⟨w3.heap.size+1,0,J⟩),Zm (M ⟨Bx,0,J⟩),U a len cap,V O len,Zf (decide (400<(len:Int))),Zf (decide (400<(len:Int))),I t,Zf Zg,Zf (decide (400<(len:Int))),undef,Zj #[I n',V O c',I k',Zf x',I v'],Zf Zi,Zf Zg,Zf Zg,I t,Zf Zi,Zf Zg,Zf Zg,Zf Zg,U a len cap,Zf Zi,Zf Zg,Zf Zg,undef,U a len cap,Zj #[I n',V O c',I k',Zf x',I v'],I t,.func (.func 185) #[] #[Zm (M ⟨w3.heap.size+1+1,0,J⟩),Zm (M ⟨w3.heap.size+1+1+1,0,J⟩)],.func (.func 184) #[] #[Zm (M ⟨w4.heap.size,0,J⟩),Zm (M ⟨w4.heap.size+1,0,J⟩)],x.val,undef,undef,undef,undef,undef,undef,undef,undef,undef,undef,undef,undef,undef,undef],defers:=[] })
  (λx a' _ X Y row hs hg hr=>by
   obtain⟨Bx,h1,h2,h3⟩:=hs;refine⟨Bx,h1,(hg.block Bx (ae h2) (λe=>?_)).trans h2,h3⟩;obtain⟨-,o,ho,hc⟩:=hr Bx e.symm;rw[h2] at ho
   cases ho
   simp[Obj.isCells] at hc)
  ?assign ?body ?done ?stop
 case assign=>
  rintro l pre x W K hi hK;dsimp only[Vx.val];gi_wp2;refine hK _ _ ((KeepsOthers.alloc _ _).from _) (KpB.below (aj _ _) hi.2.1.1) (hi.below af af (aj _ _)) ⟨W.heap.size,hi.2.1.1,Yf,rfl⟩
 case body=>
  rintro l pre x a' W hl ⟨r,hr⟩ hi ⟨Bx,hBx,bX,rfl⟩ Zo;clear Zo hr;have HI:=G hi;have hww:w.heap.size<=w3.heap.size:=af
  cases Zr:iw pre with
  | none=>
   obtain⟨⟨q7,q8⟩,-,-⟩:=hi;rw[Zr] at q7 q8;have Ω:W.heap[w3.heap.size]?=M (Ze #[I ⟨#[]⟩,V O 0,I ⟨#[]⟩,I ⟨#[]⟩,Zf Zg,I ⟨#[]⟩,Zf Zg,U J 0 0] 37 (0,0)):=q7;have q8':W.heap[w3.heap.size+1]?=M (Ze #[Zf Zg] 4 (0,0)):=q8;have m0:=ck0 Ω;have mf0:=ak Ω 0;have m1:=ck1 Ω;have mf1:=ak Ω 1;have m2:=ck2 Ω;have mf2:=ak Ω 2;have m3:=ck3 Ω;have mf3:=ak Ω 3;have m4:=ck4 Ω;have mf4:=ak Ω 4;have m5:=ck5 Ω;have mf5:=ak Ω 5;have m6:=ck6 Ω;have mf6:=ak Ω 6;have m7:=ck7 Ω;have mf7:=ak Ω 7;have f0:=ck0 q8';have ff0:=ak q8' 0;have y0:=ck0 bX;have y1:=ck1 bX;have y2:=ck2 bX;have y3:=ck3 bX;have y4:=ck4 bX;have y5:=ck5 bX;have y6:=ck6 bX;have y7:=ck7 bX;have HP:=G (HI.put (x:=x) hww (by rw[Zr];rfl));clear q7 q8 Ω q8' bX Zr
   gi_wp2
   refine⟨trivial,?_⟩
   gi_wp2
   exact⟨BI.kf,BI.kp,HP.out⟩
  | some u=>
   obtain⟨⟨q7,q8⟩,-,-⟩:=hi;rw[Zr] at q7 q8;have Ω:W.heap[w3.heap.size]?=M (Ze #[I u.v.n,V O u.v.c,I u.v.z,I u.v.k,Zf u.v.x,I u.v.m,Zf u.v.y,U u.a u.len u.cap] 37 (0,0)):=q7;have q8':W.heap[w3.heap.size+1]?=M (Ze #[Zf Zi] 4 (0,0)):=q8;have m0:=ck0 Ω;have mf0:=ak Ω 0;have m1:=ck1 Ω;have mf1:=ak Ω 1;have m2:=ck2 Ω;have mf2:=ak Ω 2;have m3:=ck3 Ω;have mf3:=ak Ω 3;have m4:=ck4 Ω;have mf4:=ak Ω 4;have m5:=ck5 Ω;have mf5:=ak Ω 5;have m6:=ck6 Ω;have mf6:=ak Ω 6;have m7:=ck7 Ω;have mf7:=ak Ω 7;have f0:=ck0 q8';have ff0:=ak q8' 0;have y0:=ck0 bX;have y1:=ck1 bX;have y2:=ck2 bX;have y3:=ck3 bX;have y4:=ck4 bX;have y5:=ck5 bX;have y6:=ck6 bX;have y7:=ck7 bX;clear q7 q8
   gi_wp2_with fail
   refine⟨trivial,(CallsIn.inRound l (callsIn_wide.2 (yo x.v u.v x.a u.a x.len x.cap u.len u.cap _))).mono ?_⟩;rintro e W2 ⟨rfl,ZG⟩;have hi2:=HI.below af af ZG;have HI2:=G hi2;have HKF:=G (vI (B:=w5.heap.size) ZG);have HKP:=G (KpB.below (h:=w3.heap.size) ZG HI.2.1.1);have z7:=(ZG.block _ (ae Ω)).trans Ω;have z8:=(ZG.block _ (ae q8')).trans q8';have zX:=(ZG.block _ (ae bX)).trans bX;clear hi2 m0 mf0 y0 m1 mf1 y1 m2 mf2 y2 m3 mf3 y3 m4 mf4 y4 m5 mf5 y5 m6 mf6 y6 m7 mf7 y7 f0 ff0;have m0:=ck0 z7;have mf0:=ak z7 0;have m1:=ck1 z7;have mf1:=ak z7 1;have m2:=ck2 z7;have mf2:=ak z7 2;have m3:=ck3 z7;have mf3:=ak z7 3;have m4:=ck4 z7;have mf4:=ak z7 4;have m5:=ck5 z7;have mf5:=ak z7 5;have m6:=ck6 z7;have mf6:=ak z7 6;have m7:=ck7 z7;have mf7:=ak z7 7;have f0:=ck0 z8;have ff0:=ak z8 0;have y0:=ck0 zX;have y1:=ck1 zX;have y2:=ck2 zX;have y3:=ck3 zX;have y4:=ck4 zX;have y5:=ck5 zX;have y6:=ck6 zX;have y7:=ck7 zX;clear ZG z7 z8 zX Ω q8' bX
   cases hbe:gW x.v u.v
   ·have HP:Hid (BI w w5 w3.heap.size (pre++[x]) W2):=by
     have h9:=HI2.out
     show BI w w5 w3.heap.size (pre++[x]) W2
     unfold BI at h9 ⊢;rw[oe,Zr];rw[Zr] at h9
     simpa[stepX,hbe] using h9
    clear hbe Zr
    gi_wp2
    exact⟨HKF.out,HKP.out,HP.out⟩
   ·have HP:=G (HI2.put (x:=x) hww (by rw[Zr];simp[stepX,hbe]));clear hbe Zr
    gi_wp2
    exact⟨HKF.trans BI.kf,HKP.trans BI.kp,HP.out⟩
 case stop=>
  rintro D c pre W _ _ h _;exact h.elim
 case done=>
  rintro D ys W hD rfl hi hK;have ao8:∀(X:World) (o:Obj) (q:Nat),(X.putObj D o).cell? ⟨w.heap.size+1,q,J⟩=X.cell? ⟨w.heap.size+1,q,J⟩:=λX o q=>by
   simp only[YX];rw[World.putObj_heap_other (show w.heap.size+1≠D by omega)]
  have ao9:=CA (svV c' k' x' t) xl;rw[HXV.out] at ao9;have go:=(hi.2.1.2 (w.heap.size+1) af af af).trans HX5.out;have HI:=G hi;have HKD:=G hK;obtain⟨⟨q7,q8⟩,-,-⟩:=hi;refine hK0 _ _ ?_;clear hK0 hK;cases Zr:iw (xl.filter λx=>svV c' k' x' t x.v) with
  | none=>
   rw[Zr] at q8 ao9;have q8':W.heap[w3.heap.size+1]?=M (Ze #[Zf Zg] 4 (0,0)):=q8;have f0:=ck0 q8';have HN:Hid (dG (svV c' k' x' t) vs=J):=ao9.symm;have r0:=ck0 go;have rf0:=ak go 0;have r1:=ck1 go;have rf1:=ak go 1;have r2:=ck2 go;have rf2:=ak go 2;have r3:=ck3 go;have rf3:=ak go 3;have r4:=ck4 go;have rf4:=ak go 4;have r5:=ck5 go;have rf5:=ak go 5;have r6:=ck6 go;have rf6:=ak go 6;have r7:=ck7 go;have rf7:=ak go 7;have r8:=ck8 go;have rf8:=ak go 8;clear q7 q8 q8' go Zr ao9;go_wp2_with fail;refine⟨by simp,Zl ⟨_,_,rfl,run_takeDeferred ((fD af).trans HKD.out),?_⟩⟩;refine⟨Zj #[I ⟨#[]⟩,V O 0,I ⟨#[]⟩,I ⟨#[]⟩,Zf Zg,I ⟨#[]⟩,Zf Zg,U J 0 0,V O 6],?_,eU.bad (Zk (Zk (Zl ⟨HL.out,HRR.out,HN.out,rfl,rfl⟩))) ((g_ af HI.2.2).trans (belowK_b (w:=w) (Ye _) _ D _ _ af ((fD af).trans HKD.out) rfl rfl))⟩
   simp[results,Tryz.results93,go_sem, *]
  | some x=>
   rw[Zr] at q7 q8 ao9;have Ω:W.heap[w3.heap.size]?=M (Ze #[I x.v.n,V O x.v.c,I x.v.z,I x.v.k,Zf x.v.x,I x.v.m,Zf x.v.y,U x.a x.len x.cap] 37 (0,0)):=q7;have q8':W.heap[w3.heap.size+1]?=M (Ze #[Zf Zi] 4 (0,0)):=q8;have f0:=ck0 q8';have HN:Hid (dG (svV c' k' x' t) vs=M x.v):=ao9.symm;have y0:=ck0 Ω;have y1:=ck1 Ω;have y2:=ck2 Ω;have y3:=ck3 Ω;have y4:=ck4 Ω;have y5:=ck5 Ω;have y6:=ck6 Ω;have y7:=ck7 Ω
   have aoa:x∈xl:=by
    rcases CC _ _ _ Zr with h|h
    ·exact (List.mem_filter.1 h).1
    ·cases h
   obtain⟨j,hj⟩:=YG aoa;have HT:=G ((HTX.out j x hj).below HI.2.2)
   have hvj:vs[j]?=M x.v:=by rw[<-HXV.out,Yt,hj];rfl
   have axQ:x.len<=8001:=by
    have h6:=B6 (HRR.2.2.2 j x.v hvj).2.2.2.2.2.2;have:=HT.1
    omega
   have HGO:=G go;clear q7 q8 Ω q8' Zr ao9 go aoa hj hvj;go_wp2_with fail;refine (Ap.amL x.v.n x.v.c x.v.z x.v.k x.v.x x.v.m x.v.y x.a x.len x.cap x.v.zs _ HT.out axQ).mono ?_;rintro e W6 ⟨a',l',p',rfl,z1,z2,ZA⟩;have go:=(ZA.block _ (ae HGO.out)).trans HGO.out;have hDl:=ae HKD.out;have HK6:=G ((ZA.block _ hDl).trans HKD.out);have HQ:Hid (aw W6 a' l' p' x.v.zs/\(x.v.zs=[]\/∃g cur,a'=M ⟨g,0,J⟩/\W.heap.size<=g/\W6.heap[g]?=M (Ze cur 9 (0,0)))/\Below w.heap.size w W6):=⟨z1,z2,HI.2.2.trans (ZA.mono HI.2.2.size)⟩;have hol:=ae HGO.out;have r0:=ck0 go;have rf0:=ak go 0;have r1:=ck1 go;have rf1:=ak go 1;have r2:=ck2 go;have rf2:=ak go 2;have r3:=ck3 go;have rf3:=ak go 3;have r4:=ck4 go;have rf4:=ak go 4;have r5:=ck5 go;have rf5:=ak go 5;have r6:=ck6 go;have rf6:=ak go 6;have r7:=ck7 go;have rf7:=ak go 7;have r8:=ck8 go;have rf8:=ak go 8;clear go z1 z2 ZA y0 y1 y2 y3 y4 y5 y6 y7 f0;go_wp2_with fail;refine⟨by simp,Zl ⟨_,_,rfl,run_takeDeferred ((fD af).trans HK6.out),?_⟩⟩;refine⟨Zj #[I x.v.n,V O x.v.c,I x.v.z,I x.v.k,Zf x.v.x,I x.v.m,Zf x.v.y,U a' l' p',V O 0],?_,x.v,0,a',l',p',rfl,Zk (Zk (Zk ⟨HL.out,HRR.out,HN.out,rfl⟩)),agS (Rm HQ.out af hol) ((fD af).trans HK6.out) af⟩
   simp[results,Tryz.results93,go_sem, *]):p:=h
theorem qB(h:p:=by
 rintro e w1 ⟨rfl,rfl⟩;go_wp2_with fail;refine (od n' c' k' x' v' _ hn' hk' hv').mono ?_;rintro e w1 ⟨r,rfl,hr,hb⟩;exact asw):p:=h
theorem acK(h:p:=by
 exact⟨Zg,rfl,⟨λh=>bJ,λh=>(HN.out h.1).elim⟩,HB.out⟩):p:=h
theorem acJ(h:p:=by
 exact⟨Zg,rfl,⟨λh=>bJ,λh=>(HN.out h.2.1).elim⟩,HB.out⟩):p:=h
theorem abQ(h:p:=by
 rcases hf with ⟨n,hn9,aoR,rfl⟩|⟨hl,hT,x,hx,hn,rfl,z0,z2,z4⟩
 ·obtain⟨k0,k1,k2,k3,k4,k5⟩:=cs6 Bk;have Α:=ae Bk.out;have HV:Hid (bH c t (co0 (aZ n))):=Zl ⟨n,hn9,aoR,rfl⟩;obtain⟨cc,hcc⟩:∃cc,cc=aZ n:=⟨_,rfl⟩;rw[<-hcc] at HV;go_wp2_with fail;refine (dL E n cc hcc _ (HE.below (HB.trans ((aj _ _).mono HB.size))) (by first|decide|omega)).mono ?_;rintro e w2 ⟨rfl,hb⟩;have asx:=@G _ @aix;exact tN
 have HT:=G hT;have HX:=G (Yb hx hn);obtain⟨kd,hk,Γ⟩:=cy (hT.2.2.1.2 _ x hx).1;have HK:=G (Yb hk Γ);clear hT hx hn z0 z2 z4 hk Γ;have apo:=@G _ @UO;exact iK):p:=h
theorem qx(h:p:=by
 have apl:=@G _ @Ts;exact iH):p:=h
theorem abo(h:p:=by
 have HV:Hid (eM c i x k t ⟨dM c i j9 x u,u.n,0⟩):=Zl ⟨j9,u,HBS.out,HU.out,rfl⟩;go_wp2;refine kZ ?_;refine bodyPost_ret (v:=Zj #[U d'.a1 d'.l1 d'.c1,U d'.a2 d'.l2 d'.c2,U d'.a3 d'.l3 d'.c3,U d'.a4 d'.l4 d'.c4,U d'.a5 d'.l5 d'.c5,V O c.now,I (u.n),V O 0]) (by simp[results,Tryz.results24,go_sem, *];try rfl) rfl ⟨d',⟨dM c i j9 x u,u.n,0⟩,rfl,HV.out,?_,sb2 (sb2 (sb2 (sb2 (sb2 (sb2 (sb2 (sb2 (apR.trans (HWZ.mono apR.size)))))))))⟩;obtain⟨P,hP⟩:=HO.out;exact⟨P,hP.ay (w':=((((((((wz.setCell ⟨w.heap.size+1+1,0,J⟩ (U d'.a1 d'.l1 d'.c1)).setCell ⟨w.heap.size+1+1,1,J⟩ (U d'.a2 d'.l2 d'.c2)).setCell ⟨w.heap.size+1+1,2,J⟩ (U d'.a3 d'.l3 d'.c3)).setCell ⟨w.heap.size+1+1,3,J⟩ (U d'.a4 d'.l4 d'.c4)).setCell ⟨w.heap.size+1+1,4,J⟩ (U d'.a5 d'.l5 d'.c5)).setCell ⟨w.heap.size+1+1,5,J⟩ (V O c.now)).setCell ⟨w.heap.size+1+1,6,J⟩ (I (u.n))).setCell ⟨w.heap.size+1+1,7,J⟩ (V O 0))) (λq hq s=>by have s1:w.heap.size+1+1+1+1+1<=q:=s;rw[Ya _ _ _ _ (show q≠w.heap.size+1+1 by omega),Ya _ _ _ _ (show q≠w.heap.size+1+1 by omega),Ya _ _ _ _ (show q≠w.heap.size+1+1 by omega),Ya _ _ _ _ (show q≠w.heap.size+1+1 by omega),Ya _ _ _ _ (show q≠w.heap.size+1+1 by omega),Ya _ _ _ _ (show q≠w.heap.size+1+1 by omega),Ya _ _ _ _ (show q≠w.heap.size+1+1 by omega),Ya _ _ _ _ (show q≠w.heap.size+1+1 by omega)]) (λq _ s=>by have s1:w.heap.size+1+1+1+1+1<=q:=s;show w.heap.size<=q;omega)⟩):p:=h
theorem abn(h:p:=by
 have HV:Hid (eM c i x k t ⟨dd c i x (aT t k.z),(mkV x (aT t k.z)).n,0⟩):=Zk ⟨HBN.out,Zk ⟨HMY.1,Zk ⟨HMY.2.1,Zk ⟨HMY.2.2,rfl⟩⟩⟩⟩;go_wp2;refine kZ ?_;refine bodyPost_ret (v:=Zj #[U d'.a1 d'.l1 d'.c1,U d'.a2 d'.l2 d'.c2,U d'.a3 d'.l3 d'.c3,U d'.a4 d'.l4 d'.c4,U d'.a5 d'.l5 d'.c5,V O c.now,I ((mkV x (aT t k.z)).n),V O 0]) (by simp[results,Tryz.results24,go_sem, *];try rfl) rfl ⟨d',⟨dd c i x (aT t k.z),(mkV x (aT t k.z)).n,0⟩,rfl,HV.out,?_,sb2 (sb2 (sb2 (sb2 (sb2 (sb2 (sb2 (sb2 (ao7.trans (HWZ.mono ao7.size)))))))))⟩;obtain⟨P,hP⟩:=HO.out;exact⟨P,hP.ay (w':=((((((((wz.setCell ⟨w.heap.size+1+1,0,J⟩ (U d'.a1 d'.l1 d'.c1)).setCell ⟨w.heap.size+1+1,1,J⟩ (U d'.a2 d'.l2 d'.c2)).setCell ⟨w.heap.size+1+1,2,J⟩ (U d'.a3 d'.l3 d'.c3)).setCell ⟨w.heap.size+1+1,3,J⟩ (U d'.a4 d'.l4 d'.c4)).setCell ⟨w.heap.size+1+1,4,J⟩ (U d'.a5 d'.l5 d'.c5)).setCell ⟨w.heap.size+1+1,5,J⟩ (V O c.now)).setCell ⟨w.heap.size+1+1,6,J⟩ (I ((mkV x (aT t k.z)).n))).setCell ⟨w.heap.size+1+1,7,J⟩ (V O 0))) (λq hq s=>by have s1:w.heap.size+1+1+1+1+1<=q:=s;rw[Ya _ _ _ _ (show q≠w.heap.size+1+1 by omega),Ya _ _ _ _ (show q≠w.heap.size+1+1 by omega),Ya _ _ _ _ (show q≠w.heap.size+1+1 by omega),Ya _ _ _ _ (show q≠w.heap.size+1+1 by omega),Ya _ _ _ _ (show q≠w.heap.size+1+1 by omega),Ya _ _ _ _ (show q≠w.heap.size+1+1 by omega),Ya _ _ _ _ (show q≠w.heap.size+1+1 by omega),Ya _ _ _ _ (show q≠w.heap.size+1+1 by omega)]) (λq _ s=>by have s1:w.heap.size+1+1+1+1+1<=q:=s;show w.heap.size<=q;omega)⟩):p:=h
theorem abm(h:p:=by
 go_wp2;refine bodyPost_ret (v:=Zj #[U d'.a1 d'.l1 d'.c1,U d'.a2 d'.l2 d'.c2,U a3 l3 p3,U a4 l4 p4,U d'.a5 d'.l5 d'.c5,V O c.now]) (by simp[results,Tryz.results49,go_sem, *]) rfl ⟨⟨d'.a1,d'.l1,d'.c1,d'.a2,d'.l2,d'.c2,a3,l3,p3,a4,l4,p4,d'.a5,d'.l5,d'.c5⟩,rfl,?_,sb3 (sb3 (sb3 (sb3 (sb3 (sb3 (ai (show w.heap.size<=w1.heap.size by omega) (ZX.trans (HWY.mono ZX.size))))))))⟩;have hWf:∀k,¬k=w.heap.size+1+1+1->¬k=w1.heap.size->(((((((wy.setCell ⟨w1.heap.size,2,J⟩ (U a3 l3 p3)).setCell ⟨w.heap.size+1+1+1,0,J⟩ (U d'.a1 d'.l1 d'.c1)).setCell ⟨w.heap.size+1+1+1,1,J⟩ (U d'.a2 d'.l2 d'.c2)).setCell ⟨w.heap.size+1+1+1,2,J⟩ (U a3 l3 p3)).setCell ⟨w.heap.size+1+1+1,3,J⟩ (U a4 l4 p4)).setCell ⟨w.heap.size+1+1+1,4,J⟩ (U d'.a5 d'.l5 d'.c5)).setCell ⟨w.heap.size+1+1+1,5,J⟩ (V O c.now)).heap[k]?=wy.heap[k]?:=λk h8 h9=>by rw[Ya _ _ _ _ (show k≠w.heap.size+1+1+1 by omega),Ya _ _ _ _ (show k≠w.heap.size+1+1+1 by omega),Ya _ _ _ _ (show k≠w.heap.size+1+1+1 by omega),Ya _ _ _ _ (show k≠w.heap.size+1+1+1 by omega),Ya _ _ _ _ (show k≠w.heap.size+1+1+1 by omega),Ya _ _ _ _ (show k≠w.heap.size+1+1+1 by omega),Ya _ _ _ _ (show k≠w1.heap.size by omega)]
 have hE1:∀k,k<w1.heap.size->w.heap.size+1+1+1+1<=k->(((((((wy.setCell ⟨w1.heap.size,2,J⟩ (U a3 l3 p3)).setCell ⟨w.heap.size+1+1+1,0,J⟩ (U d'.a1 d'.l1 d'.c1)).setCell ⟨w.heap.size+1+1+1,1,J⟩ (U d'.a2 d'.l2 d'.c2)).setCell ⟨w.heap.size+1+1+1,2,J⟩ (U a3 l3 p3)).setCell ⟨w.heap.size+1+1+1,3,J⟩ (U a4 l4 p4)).setCell ⟨w.heap.size+1+1+1,4,J⟩ (U d'.a5 d'.l5 d'.c5)).setCell ⟨w.heap.size+1+1+1,5,J⟩ (V O c.now)).heap[k]?=w1.heap[k]?:=λk h8 h9=>(hWf k af af).trans ((HWY.block k af).trans ((HK2.out k af).trans ((HWZ.block k af).trans (ZW.block k h8))));have hPk:∀k,k<w1.heap.size->w.heap.size+1+1+1+1<=k->(if k<w.heap.size then 3 else if k<w1.heap.size then P k else if k<W2.heap.size then 4 else 3)=P k:=λk h8 h9=>by rw[if_neg af,if_pos h8]
 refine⟨λk=>if k<w.heap.size then 3 else if k<w1.heap.size then P k else if k<W2.heap.size then 4 else 3,?_,?_,?_,?_,?_⟩
 ·exact HP.n.ay (λk hk s=>hE1 k hk s.1) (λk hk s=>⟨by have s1:w.heap.size+1+1+1+1<=k:=s.1;show B<=k;omega,(hPk k hk s.1).trans s.2⟩)
 ·exact HP.k.ay (λk hk s=>hE1 k hk s.1) (λk hk s=>⟨by have s1:w.heap.size+1+1+1+1<=k:=s.1;show B<=k;omega,(hPk k hk s.1).trans s.2⟩)
 ·refine HOV.ay (λk hk s=>?_) (λk hk s=>?_)
  ·rcases s with s|s|s
   ·exact hWf k af af
   ·exact hWf k af af
   ·have s1:W2.heap.size<=k:=s;exact hWf k af af
  ·rcases s with s|s|s
   ·exact⟨by show B<=k;omega,(hPk k s.2 s.1.1).trans s.1.2⟩
   ·exact⟨s.1,by show (if k<w.heap.size then 3 else if k<w1.heap.size then P k else if k<W2.heap.size then 4 else 3)=3;rw[if_pos s.2]⟩
   ·have s1:W2.heap.size<=k:=s;exact⟨by show B<=k;omega,by show (if k<w.heap.size then 3 else if k<w1.heap.size then P k else if k<W2.heap.size then 4 else 3)=3;rw[if_neg af,if_neg af,if_neg af]⟩
 ·refine HOX.ay (λk hk s=>?_) (λk hk s=>?_)
  ·have h9:¬k=w1.heap.size/\¬k=w.heap.size+1+1+1:=by rcases s with s|s <;> omega
   exact (hWf k h9.2 h9.1).trans ((HWY.block k af).trans (HK2.out k h9.1))
  ·rcases s with s|s
   ·exact⟨by show B<=k;omega,(hPk k s.2 s.1.1).trans s.1.2⟩
   ·exact⟨by show B<=k;omega,by show (if k<w.heap.size then 3 else if k<w1.heap.size then P k else if k<W2.heap.size then 4 else 3)=4;rw[if_neg af,if_neg af,if_pos af]⟩
 ·exact HP.p.ay (λk hk s=>hE1 k hk s.1) (λk hk s=>⟨by have s1:w.heap.size+1+1+1+1<=k:=s.1;show B<=k;omega,(hPk k hk s.1).trans s.2⟩)):p:=h
theorem aay(h:p:=by
 by_cases hie:i=n
 ·subst hie;have e1:X.take (i*8)++ys++X.drop (i*8)=X++ys:=by rw[YB af,List.drop_of_length_le af,List.append_nil]
  rw[e1];clear e1;have hc0:=hnc.1;have hq:cap=i\/¬cap=i:=Classical.em _;rcases hq with rfl|ZZ
  ·exact aiq
  ·exact aiq
 have hil:i<n:=af
 obtain⟨g,cur,rfl,hbg,hg,hcs,htk⟩:∃g cur,a=M ⟨g,0,J⟩/\base<=g/\w.heap[g]?=M (Ze cur 37 (0,0))/\cur.size=cap*8/\cur.toList.take (n*8)=X:=by
  exact Qx
 have asz:=@G _ @F5;exact sQ):p:=h
theorem aax(h:p:=by
 by_cases hie:i=n
 ·subst hie;have e1:X.take (i*5)++ys++X.drop (i*5)=X++ys:=by rw[YB af,List.drop_of_length_le af,List.append_nil]
  rw[e1];clear e1;have hc0:=hnc.1;have hq:cap=i\/¬cap=i:=Classical.em _;rcases hq with rfl|ZZ
  ·exact ain
  ·exact ain
 have hil:i<n:=af
 obtain⟨g,cur,rfl,hbg,hg,hcs,htk⟩:∃g cur,a=M ⟨g,0,J⟩/\base<=g/\w.heap[g]?=M (Ze cur 47 (0,0))/\cur.size=cap*5/\cur.toList.take (n*5)=X:=by
  exact Qx
 have asz:=@G _ @FZ;exact sQ):p:=h
theorem zN(h:p:=by
 have ao2:=@G _ @Nz;exact ie):p:=h
theorem XZ(h:p:=by
 have ass:=@G _ @NL;exact uG):p:=h
theorem XY(h:p:=by
 have au6:=@G _ @aeh;exact Au):p:=h
theorem zI(h:p:=by
 have au7:W6.heap.size=w2.heap.size:=by rw[hW6];simp
 have Zp:∀q,¬q=w.heap.size+1+1+1->W6.heap[q]?=w2.heap[q]?:=λq h9=>by rw[hW6,Ya _ _ _ _ h9,Ya _ _ _ _ h9,Ya _ _ _ _ h9,Ya _ _ _ _ h9,Ya _ _ _ _ h9,Ya _ _ _ _ h9,Ya _ _ _ _ h9,Ya _ _ _ _ h9]
 exact au5):p:=h
theorem XD(h:p:=by
 go_wp2;go_region;go_wp2;exact bodyPost_ret (v:=Zn #[Zj #[I ⟨#[]⟩,V O 0,I ⟨#[]⟩,I ⟨#[]⟩,Zf Zg,I ⟨#[]⟩,Zf Zg,U J 0 0],.iface 217 (Zm (M (E 2)))]) uQ rfl ⟨Below.gT (Below.alloc (sb1 (sb1 (sb1 (sb1 (sb1 (sb1 (sb1 (sb1 (HB.out))))))))) oZ _),Zl ⟨HNM.out,rfl⟩⟩):p:=h
theorem Xg(h:p:=by
 go_enter Tryz.func99,Tryz.ntmps99;go_wp2;go_loopw [5,10] (λvo vi wr=> ∃(k:Nat) (ws:List (List Value)) (f:Nat->Nat),k<=len/\vi=V O k/\Hid (wr.ownsRow w.heap.size 37 8 vo (wo Vd.n t (xs.take k)).length ws.flatten)/\Hid (Sel xs (wo Vd.n t (xs.take k)) vss ws k f)/\Hid (Below w.heap.size w wr)) (λ_ vi _=>len - (intOf vi).toNat);case atStart=>exact⟨0,[],λ_=>0,by omega,rfl,World.ownsRow_nil _ _ _ _,Sel.nil _ _ _ _,Yh _ _⟩
 case round=>
  obtain⟨k,ws,f,hk,rfl,HO,HF,HB⟩:=hrel;have hBs:=HB.size;by_cases Zo:k<len
  ·obtain⟨b,o,x,rfl,hb,hx,Zc⟩:=bY HR.out Zo;have aoW:=@G _ @ad8;exact gA
  ·exact aih):p:=h
theorem Xf(h:p:=by
 obtain⟨j,hj⟩:∃j,j=pl Vd.n xs x.n:=⟨_,rfl⟩;have hjn:j<=n:=by rw[hj,<-Z4];exact List.findIdx_le_length
 have HJ:=G hj;have aoc:Hid (∀(w4:World) v4 base,w.heap.size<=base->Below w.heap.size w w4->w4.ownsRow base 37 8 v4 (n+1) (vss.flatten.take (j*8)++[I x.n,V O x.c,I x.z,I x.k,Zf x.x,I x.m,Zf x.y,U va vl vc]++vss.flatten.drop (j*8))->∃a' c',v4=U a' (n+1) c'/\av w4 a' (n+1) c' 8 37 ((aQ (pl Vd.n xs x.n) x xs).map vdF) (λk=>(Q k\/Q2 k)\/w.heap.size<=k)):=λw4 v4 base hbs hB4 ho4=>by
  have asA:=@G _ @My;exact uq
 have au_:=@G _ @adF;exact Am):p:=h
theorem Xb(h:p:=by
 obtain⟨j,hj⟩:∃j,j=pl Xd.n xs x.n:=⟨_,rfl⟩;have hjn:j<=n:=by rw[hj,<-Z4];exact List.findIdx_le_length
 have HJ:=G hj;have aoc:Hid (∀(w4:World) v4 base,w.heap.size<=base->Below w.heap.size w w4->w4.ownsRow base 47 5 v4 (n+1) (vss.flatten.take (j*5)++[I x.n,V O x.z,I x.k,Zf x.x,I x.v]++vss.flatten.drop (j*5))->∃a' c',v4=U a' (n+1) c'/\av w4 a' (n+1) c' 5 47 ((aQ (pl Xd.n xs x.n) x xs).map xdF) (λk=>(Q k\/Q2 k)\/w.heap.size<=k)):=λw4 v4 base hbs hB4 ho4=>by
  have asA:=@G _ @Mx;exact uq
 have au_:=@G _ @adE;exact Am):p:=h
theorem Xa(h:p:=by
 go_enter Tryz.func97,Tryz.ntmps97;go_wp2;go_loopw [5,10] (λvo vi wr=> ∃(k:Nat) (ws:List (List Value)) (f:Nat->Nat),k<=len/\vi=V O k/\Hid (wr.ownsRow w.heap.size 47 5 vo (wo Xd.n t (xs.take k)).length ws.flatten)/\Hid (Sel xs (wo Xd.n t (xs.take k)) vss ws k f)/\Hid (Below w.heap.size w wr)) (λ_ vi _=>len - (intOf vi).toNat);case atStart=>exact⟨0,[],λ_=>0,by omega,rfl,World.ownsRow_nil _ _ _ _,Sel.nil _ _ _ _,Yh _ _⟩
 case round=>
  obtain⟨k,ws,f,hk,rfl,HO,HF,HB⟩:=hrel;have hBs:=HB.size;by_cases Zo:k<len
  ·obtain⟨b,o,x,rfl,hb,hx,Zc⟩:=dB HR.out Zo;obtain⟨z0,z2,z4,c0,c1,c2,c3,c4⟩:=bD Zc;have hvk:vss[k]?=M [I x.n,V O x.z,I x.k,Zf x.x,I x.v]:=by
    have ast:=@G _ @NY;exact uI
   have asu:=@G _ @JC;exact tJ
  ·exact aih):p:=h
theorem VR(h:p:=by
 go_region_with (first
  | (go_at_call 167;refine C1.mono ?_;rintro e w3 ⟨a3,c3,rfl,HO3,Z7,hs3,axR,hx3⟩;obtain⟨m0,m1,m2,m3,m4,m5,m6,m7⟩:=cs8 hx3;clear hx3)
  | (go_at_call 167;refine C2.mono ?_;rintro e w3 ⟨a3,c3,rfl,HO3,Z7,hs3,HY3⟩)
  | (go_at_call 166;refine (I1.out w3 a3 c3 HO3.out Z7.out hs3).mono ?_;rintro e w4 ⟨a',c',rfl,HR5,Ρ⟩)
  | (go_at_call 166;refine (I2.out w3 a3 c3 HO3.out Z7.out hs3 HY3.out).mono ?_;rintro e w4 ⟨a',c',rfl,HR5,Ρ⟩))
 all_goals (
  go_wp2
  go_ret
  exact⟨a',_,c',rfl,HR5.out,Ρ.out⟩)):p:=h
theorem VQ(h:p:=by
 go_region_with (first
  | (go_at_call 165;refine C1.mono ?_;rintro e w3 ⟨a3,c3,rfl,HO3,Z7,hs3,axR,hx3⟩;obtain⟨m0,m1,m2,m3,m4⟩:=cs5 hx3;clear hx3)
  | (go_at_call 165;refine C2.mono ?_;rintro e w3 ⟨a3,c3,rfl,HO3,Z7,hs3,HY3⟩)
  | (go_at_call 164;refine (I1.out w3 a3 c3 HO3.out Z7.out hs3).mono ?_;rintro e w4 ⟨a',c',rfl,HR5,Ρ⟩)
  | (go_at_call 164;refine (I2.out w3 a3 c3 HO3.out Z7.out hs3 HY3.out).mono ?_;rintro e w4 ⟨a',c',rfl,HR5,Ρ⟩))
 all_goals (
  go_wp2
  go_ret
  exact⟨a',_,c',rfl,HR5.out,Ρ.out⟩)):p:=h
theorem zj(h:p:=by
 have C1:=G av6;have C2:=G av7;have I1:=G av8;have I2:=G apB;clear av6 av7 av8 apB;have mixed:Tryz.prog.follows .mixedOrders=Zi:=aW
 go_wp2;exact au9):p:=h
theorem UO(h:p:=by
 refine (RA d c x _ kd E _ (HR.below (HB.trans ((aj _ _).mono HB.size))) (HE.below (HB.trans ((aj _ _).mono HB.size))) HK.1 HK.2 HT.2.1.2.1.2.2).mono ?_;rintro e w2 ⟨hb,hf⟩;have aqn:=@G _ @FV;exact mU):p:=h
theorem TA(h:p:=by
 have amW:=@G _ @abo;exact cQ):p:=h
theorem Tz(h:p:=by
 have amW:=@G _ @abn;exact cQ):p:=h
theorem yV(h:p:=by
 refine Grow.done ?_;intro q wz hW hf;simp only[YL] at hf;obtain⟨h37,h36,h35,-,h33,h32,h31,-⟩:=hf;obtain⟨d',axS,awP⟩:=h37;have HO:=G awP;have HWZ:=G hW;have Br6:=upK Dr hW;obtain⟨r0,r1,r2,r3,r4,r5,r6,r7⟩:=cs8 Br6;obtain⟨ZR,ZS,ZT,ZU,ZV,ZY,Z1,Z2⟩:=ahY;clear awP;intro K hK;rw[if_pos cF];simp only[aL,YQ,Y0,Yr,Yx,Yy,h36,h35,h33,h32,h31,axS];exact avd):p:=h
theorem Ts(h:p:=by
 exact asB):p:=h
theorem Tn(h:p:=by
 go_enter Tryz.func166,Tryz.ntmps166;go_wp2_with (simp only[hov]);go_region_law_o (refine et rfl _ _ 96 96 rfl _ _ lj lj (aqo (3) (cap - (i+1)) (cap - i)) ?_);go_wp2_with (at_builtin;refine wpList_copy_run _ rfl _ _ 96 25 rfl _ _ rfl rfl (asC _ _) ?_);go_ret;refine⟨_,rfl,⟨?_,Or.inr ⟨g,cap,(an2.take (i*8)++(ys++an2.drop (i*8+8))).toArray,rfl,hbg,setRow_heap W1 g _ _ _ _ HG1.out,asD,by unfold maxLen;omega,?_,?_⟩⟩,?_⟩
 ·exact qR
 ·simp only[List.size_toArray,YP,YF,List.length_drop,asE];omega
 ·have e:=vP (a:=i*8) (b:=n*8) (c:=cap*8) (m:=8) (c1:=an2) HTK.out (by rw[Array.length_toList,hcs]) af af hyl (by rw[μ.out,show (i+1)*8=i*8+8 by omega]);rw[show (n+1)*8=n*8+8 by omega];simpa using e
 ·exact QT):p:=h
theorem Tm(h:p:=by
 go_enter Tryz.func164,Tryz.ntmps164;go_wp2_with (simp only[hov]);go_region_law_o (refine et rfl _ _ 121 121 rfl _ _ lj lj (aqo (3) (cap - (i+1)) (cap - i)) ?_);go_wp2_with (at_builtin;refine wpList_copy_run _ rfl _ _ 121 26 rfl _ _ rfl rfl (asC _ _) ?_);go_ret;refine⟨_,rfl,⟨?_,Or.inr ⟨g,cap,(an2.take (i*5)++(ys++an2.drop (i*5+5))).toArray,rfl,hbg,setRow_heap W1 g _ _ _ _ HG1.out,asD,by unfold maxLen;omega,?_,?_⟩⟩,?_⟩
 ·exact qR
 ·simp only[List.size_toArray,YP,YF,List.length_drop,asE];omega
 ·have e:=vP (a:=i*5) (b:=n*5) (c:=cap*5) (m:=5) (c1:=an2) HTK.out (by rw[Array.length_toList,hcs]) af af hyl (by rw[μ.out,show (i+1)*5=i*5+5 by omega]);rw[show (n+1)*5=n*5+5 by omega];simpa using e
 ·exact QT):p:=h
theorem yT(h:p:=by
 have ZG:¬cap=i+1:=af
 have π:¬cap=i:=af
 have ZA:¬((cap:Int)<(n:Int)+1):=af
 obtain⟨mixed,hw1,ZN⟩:=ahS;have Z6:i<=n:=af
 have htn:((i:Int)+1).toNat=i+1:=af
 have Zy:(i:Int)<=(n:Int)+1:=af
 have HG1:=G hg1;have HW1:=G hW1;have μ:=G ao_;have HTK:=G htk;clear hg hg1 hW1 ao_ htk hv1 hcell hdl hie;exact ave):p:=h
theorem Tg(h:p:=by
 exact asn):p:=h
theorem pX(h:p:=by
 have apE:=@G _ @JM;exact j0):p:=h
theorem SJ(h:p:=by
 obtain⟨h23,h22,h21,-,h19,h18,h17,h16,-⟩:=hf;obtain⟨a4,l4,p4,axU,awQ⟩:=h22;have HOX:=G awQ;have HWZ:=G hW;have BoZ:=upK BoW hW;obtain⟨o0,o1,o2,o3,o4,o5⟩:=cs6 BoZ;have fo3:=ak BoZ.out 3;clear awQ;intro K hK;rw[if_pos cF];simp only[aL,YQ,Y0,Yr,Yx,Yy,h23,h21,h19,h18,h17,h16,axU];have aqP:=@G _ @aeX;exact l_):p:=h
theorem NZ(h:p:=by
 refine congrArg M (CJ (HV.all k _ h1) (dk HV.out hc2 h1 ag (by simpa using c0)) (dk HV.out hc2 h1 ag (by simpa using c1)) (dk HV.out hc2 h1 ag (by simpa using c2)) (dk HV.out hc2 h1 ag (by simpa using c3)) (dk HV.out hc2 h1 ag (by simpa using c4)) (dk HV.out hc2 h1 ag (by simpa using c5)) (dk HV.out hc2 h1 ag (by simpa using c6)) (dk HV.out hc2 h1 ag (by simpa using c7)))):p:=h
theorem NY(h:p:=by
 refine congrArg M (CK (HV.all k _ h1) (dk HV.out hc2 h1 ag (by simpa using c0)) (dk HV.out hc2 h1 ag (by simpa using c1)) (dk HV.out hc2 h1 ag (by simpa using c2)) (dk HV.out hc2 h1 ag (by simpa using c3)) (dk HV.out hc2 h1 ag (by simpa using c4)))):p:=h
theorem uI(h:p:=by
 have hkv:k<vss.length:=af
 have h1:=Yi hkv;have hoz:o=0:=by
  exact ak4
 subst hoz;have hc2:∀(j:Nat) u,vss.flatten[j]?=M u->w.cell? ⟨b,j,J⟩=M u:=λj u hj=>by
  obtain⟨g,e,_,h3⟩:=HC.out j u hj;cases e;exact h3
 rw[h1];exact ast):p:=h
theorem NM(h:p:=by
 exact au6):p:=h
theorem NL(h:p:=by
 have Dv:Hid (W6.heap[w.heap.size+1+1+1]?=M (Ze #[I ⟨#[]⟩,V O 0,I ⟨#[]⟩,I ⟨#[]⟩,Zf Zg,I ⟨#[]⟩,Zf Zg,U J 0 0] 37 (0,0))):=by rw[hW6];exact SD Bv.out _ _ _ _ _ _ _ _
 have ao7:Hid (Below w.heap.size w W6):=by rw[hW6];exact sb3 (sb3 (sb3 (sb3 (sb3 (sb3 (sb3 (sb3 (HB.out))))))))
 have HKP:=G Zp;clear Zp;rw[<-hW6];clear hW6;refine (dL E 2 cc hcc _ (HE.below ao7.out) ag).mono ?_;exact PB):p:=h
theorem uG(h:p:=by
 have Dk:=G ((Zp (w.heap.size) af).trans Bk.out);have Dx:=G ((Zp (w.heap.size+1) af).trans Bx.out);have Dr:=G ((Zp (w.heap.size+1+1) af).trans Br.out);have Ds:=G ((Zp (w.heap.size+1+1+1+1) af).trans Bs.out);exact ass):p:=h
theorem NA(h:p:=by
 have ase:=@G _ @Xg;exact qm):p:=h
theorem Nz(h:p:=by
 have hXl:=ho.1;have hnc:n<=cap/\cap<=9223372036854775807:=by
  exact akY
 have hyn:∀(j:Nat) u,ys[j]?=M u->w.cell? ((⟨vb,0,J⟩:Addr).add j)=M u:=λj u hu=>by
  rw[Ym,al hy,Yp];simpa using hu
 have HYN:=G hyn;have HO:=G ho;have HY:=G hy;have hvl:=ae hy;have Κ:=G hX1;have HY1:=G hy1;clear hyn ho hy hX1 hy1;exact avg):p:=h
theorem Nk(h:p:=by
 clear v0 fv0 v1 fv1 v2 fv2 v3 fv3 v4 fv4 v5 fv5 v6 fv6 v7 fv7;obtain⟨W6,hW6⟩:∃W,W=((((((((w2.setCell ⟨w.heap.size+1+1+1,0,J⟩ (I ⟨#[]⟩)).setCell ⟨w.heap.size+1+1+1,1,J⟩ (V O 0)).setCell ⟨w.heap.size+1+1+1,2,J⟩ (I ⟨#[]⟩)).setCell ⟨w.heap.size+1+1+1,3,J⟩ (I ⟨#[]⟩)).setCell ⟨w.heap.size+1+1+1,4,J⟩ (Zf Zg)).setCell ⟨w.heap.size+1+1+1,5,J⟩ (I ⟨#[]⟩)).setCell ⟨w.heap.size+1+1+1,6,J⟩ (Zf Zg)).setCell ⟨w.heap.size+1+1+1,7,J⟩ (U J 0 0)):=⟨_,rfl⟩;have au5:=@G _ @XZ;exact zI):p:=h
theorem Nj(h:p:=by
 have asq:=@G _ @afV;exact qJ):p:=h
theorem Ni(h:p:=by
 have asq:=@G _ @afU;exact qJ):p:=h
theorem nB(h:p:=by
 rw[<-hcc] at HV;obtain⟨v0,v1,v2,v3,v4,v5,v6,v7⟩:=cs8 Bv;obtain⟨fv0,fv1,fv2,fv3,fv4,fv5,fv6,fv7⟩:=OV;go_wp2_with fail;exact aqp):p:=h
theorem MQ(h:p:=by
 have asB:=@G _ @abQ;exact qx):p:=h
theorem uv(h:p:=by
 go_wp2_with fail;refine (RO d c t E _ (HR.below (HB.trans ((aM _ _ _).mono HB.size))) (HE.below (HB.trans ((aM _ _ _).mono HB.size)))).mono ?_;rintro e w1 ⟨hb,hf⟩;exact asG):p:=h
theorem My(h:p:=by
 obtain⟨H4,hV5⟩:=hV4.ins (p:=j) (r:=vdF x) (vs:=[I x.n,V O x.c,I x.z,I x.k,Zf x.x,I x.m,Zf x.y,U va vl vc]) (hh:=λ_=>hh) rfl rfl (λi f hf=>by
  obtain⟨v,h1,h2⟩:=HF.out i f hf
  exact⟨v,h1,h2.ay (λcu _ q=>hB4.block _ (ae q)) (λ_ s=>Zl (Zk s))⟩) (λi zs h hz k r i2 zs2 hr2 ZP ZE e=>by
 obtain⟨v,_,h2⟩:=HF.out i _ h;obtain⟨_,_,_,_,_,_,_,_,h3⟩:=h2;have hkv:k<vss.length:=by rw[HV.len];exact (Yc.1 hr2).1
 obtain⟨v',_,h5⟩:=HV.cell k r _ hr2 (Yi hkv) i2 _ ZP;obtain⟨_,_,_,_,_,_,_,_,h6⟩:=h5;rcases h3 with h3|⟨_,h3,_⟩
 ·exact hz h3
 ·rcases h6 with h6|⟨_,h6,_⟩
  ·exact ZE h6
  ·rw[e] at h6;exact HQ.out _ h6 h3) (λi i2 zs zs2 h _ h2 _=>by
 rcases i with _|_|_|_|_|_|_|_|i <;> simp[vdF] at h <;> rcases i2 with _|_|_|_|_|_|_|_|i2 <;> simp[vdF] at h2 <;> rfl) oT
 exact ail):p:=h
theorem Mx(h:p:=by
 obtain⟨H4,hV5⟩:=hV4.ins (p:=j) (r:=xdF x) (vs:=[I x.n,V O x.z,I x.k,Zf x.x,I x.v]) (hh:=λ_=>hh) rfl rfl (λi f hf=>by
  obtain⟨v,h1,h2⟩:=HF.out i f hf
  exact⟨v,h1,h2.ay (λcu _ q=>hB4.block _ (ae q)) (λ_ s=>Zl (Zk s))⟩) (λi zs h _=>by rcases i with _|_|_|_|_|i <;> simp[xdF] at h) (λi i2 zs zs2 h _ _ _=>by rcases i with _|_|_|_|_|i <;> simp[xdF] at h) oT
 have h45:aR w4 (λk=>(Q k\/Q2 k)\/w.heap.size<=k) 5 ((aQ j x xs).map xdF) (aQ j [I x.n,V O x.z,I x.k,Zf x.x,I x.v] vss) H4:=by rw[fj];exact hV5
 have hle:((aQ j x xs).map xdF).length=n+1:=by rw[Yq,di af,Z4]
 exact aij):p:=h
theorem uq(h:p:=by
 rw[<-Cn HV.all af] at ho4;have hV4:=(HV.below hB4).ay (w':=w4) (S':=λk=>(Q k\/Q2 k)\/w.heap.size<=k) (λ_ _ _ _=>rfl) (λ_ _ s=>Zl (Zl s));exact asA):p:=h
theorem Mc(h:p:=by
 have hfl:vss.flatten.length=n*8:=by rw[eH hV.all,hvl]
 have HV:=G hV;have HC:=G hcell;have HF:=G hxf;have HQ:=G hq;clear ho hV hcell hxf hq;have ase:=@G _ @Xf;exact qm):p:=h
theorem Mb(h:p:=by
 have hfl:vss.flatten.length=n*5:=by rw[eH hV.all,hvl]
 have HV:=G hV;have HC:=G hcell;have HF:=G hxf;clear ho hV hcell hxf hq;have asf:=@G _ @Xb;exact qk):p:=h
theorem ud(h:p:=by
 have HR:=G ho.row;have Z4:xs.length=n:=oQ
 obtain⟨vss,H,hV,hcell⟩:=ho.jK;have hvl:vss.length=n:=by rw[hV.len,Yq,Z4]
 exact asH):p:=h
theorem K5(h:p:=by
 go_wp2;go_ret;exact⟨HB.trans ((aj _ _).mono HB.size),Zk (Zk ⟨HV.out,HKX.out,rfl⟩)⟩):p:=h
theorem K4(h:p:=by
 go_wp2;go_ret;exact⟨HB.trans ((aj _ _).mono HB.size),Zk (Zl ⟨HV.out,HKX.out,rfl⟩)⟩):p:=h
theorem K3(h:p:=by
 go_wp2_with fail;refine (vQ d c x ⟨#[]⟩ _ _ kd E _ (HR.below HB.out) (HE.below HB.out) HT.out HX.1 HVX.1 HK.1 HK.2 (Zl rfl)).mono ?_;rintro e w3 ⟨g,o9,rfl,hI,ho,hb⟩;have HO:=G ho;have hw2:=ae Br.out;have HV:Hid (bH c t o9):=Zk ⟨hl,HT.out,_,x,_,kd,HX.1,HX.2,HK.1,HK.2,Zk ⟨HVX.1,Zk ⟨HVX.2,hI⟩⟩⟩;clear hI ho;clear k0 k1 k2 k3 k4 k5 x0 x1 x2 x3 x4;replace Bk:=upK Bk hb;replace Br:=upK Br hb;replace Bx:=upK Bx hb;replace HB:=upB HB hb;clear hb;have asn:=@G _ @afh;exact qI):p:=h
theorem K2(h:p:=by
 have HV:Hid (bH c t (co0 (aZ 6))):=Zk ⟨hl,HT.out,_,x,_,kd,HX.1,HX.2,HK.1,HK.2,Zl ⟨hv,rfl⟩⟩;obtain⟨cc,hcc⟩:∃cc,cc=aZ 6:=⟨_,rfl⟩;rw[<-hcc] at HV;go_wp2_with fail;refine (dL E 6 cc hcc _ (HE.below HB.out) (by first|decide|omega)).mono ?_;exact PI):p:=h
theorem K1(h:p:=by
 have HV:Hid (bH c t (co0 (aZ 7))):=Zk ⟨hl,HT.out,_,x,_,kd,HX.1,HX.2,HK.1,HK.2,Zk ⟨hv,Zl ⟨hkx,rfl⟩⟩⟩;obtain⟨cc,hcc⟩:∃cc,cc=aZ 7:=⟨_,rfl⟩;rw[<-hcc] at HV;go_wp2_with fail;refine (dL E 7 cc hcc _ (HE.below HB.out) (by first|decide|omega)).mono ?_;exact PI):p:=h
theorem fg(h:p:=by
 obtain⟨k0,k1,k2,k3,k4,k5⟩:=cs6 Bk;obtain⟨x0,x1,x2,x3,x4⟩:=cs5 Bx;exact aon):p:=h
theorem Kq(h:p:=by
 refine Grow.aO Dk.out ?_;refine Grow.aO Dx.out ?_;refine Grow.aO Dv.out ?_;refine Grow.step (PrF (w.heap.size+1+1+1+1+1) (dM c i j9 x u)) rfl (PrF.mono _ _) ?_ ?_
 ·have asI:=@G _ @He;exact sW
 refine Grow.aK ?_;refine Grow.aO Dv.out ?_;refine Grow.step (PrO (w.heap.size+1+1+1+1+1) (dM c i j9 x u) (u.n)) rfl (PrO.mono _ _ _) ?_ ?_
 ·exact Rg
 have avd:=@G _ @TA;exact yV):p:=h
theorem Kp(h:p:=by
 refine Grow.aO Dk.out ?_;refine Grow.aO Dx.out ?_;refine Grow.aO Dv.out ?_;refine Grow.step (PrF (w.heap.size+1+1+1+1+1) (dd c i x (aT t k.z))) rfl (PrF.mono _ _) ?_ ?_
 ·have asI:=@G _ @Hd;exact sW
 refine Grow.aK ?_;refine Grow.aO Dv.out ?_;refine Grow.step (PrO (w.heap.size+1+1+1+1+1) (dd c i x (aT t k.z)) ((mkV x (aT t k.z)).n)) rfl (PrO.mono _ _ _) ?_ ?_
 ·exact Rg
 have avd:=@G _ @Tz;exact yV):p:=h
theorem tN(h:p:=by
 have aqn:=@G _ @FU;exact mU):p:=h
theorem JP(h:p:=by
 refine Grow.aO BoW.out ?_;refine Grow.aK ?_;refine Grow.aO BxW.out ?_;refine Grow.step (RoF 5 47 ((wo Xd.n x.n c.xs).map xdF) (λk=>((w.heap.size+1+1+1+1<=k/\P k=4)/\k<w1.heap.size)\/w1.heap.size+1<=k)) rfl (RoF.mono _ _ _ _) ?_ ?_
 ·refine Obl.plain rfl ?_;intro ac wg K Zq hW hf hK;clear Zq;have e17:=hf 17 ag;simp[slotFact,Yg] at e17;have e19:=hf 19 ag;simp[slotFact,Yg] at e19;clear hf;go_simp;have hs6:=hW.size;refine (Cd d'.a4 d'.l4 d'.c4 c.xs x.n (λk=>(w.heap.size+1+1+1+1<=k/\P k=4)/\k<w1.heap.size) _ (((HP.x.bC (λk hk s=>⟨s,hk⟩)).below ZW.out).below hW) hlx).mono ?_;rintro e w6 ⟨a2,l2,p2,rfl,ho6,ZA⟩;exact hK _ _ ZA ⟨a2,l2,p2,rfl,ho6.bC (λk _ s=>s.imp id (λq=>by have q1:wg.heap.size<=k:=q;omega))⟩
 refine Grow.aO BxW.out ?_;refine Grow.step (RoF 5 47 ((kg c (bdX x v.n) (bdV v x.n)).xs.map xdF) (λk=>((w.heap.size+1+1+1+1<=k/\P k=4)/\k<w1.heap.size)\/w1.heap.size+1<=k)) rfl (RoF.mono _ _ _ _) ?_ ?_
 ·refine Obl.plain rfl ?_;intro ac wg K Zq hW hf hK;clear Zq;have e20:=hf 20 ag;simp[slotFact,Yg] at e20;have e21:=hf 21 ag;simp[slotFact,Yg] at e21;clear hf;obtain⟨a2,l2,p2,e20,ho2⟩:=e20;go_simp;have hs6:=hW.size;have hl2:l2<=8:=by have h6:=ho2.1;rw[Yq] at h6;have h7:=yA Xd.n x.n c.xs;have:=HS.x;omega
  refine (wk a2 l2 p2 (wo Xd.n x.n c.xs) (bdX x v.n) 0 _ (λ_=>False) _ ho2 hl2 (λi f hf=>by rcases i with _|_|_|_|_|i <;> simp[xdF,bdX] at hf <;> subst hf;exact⟨_,rfl,rfl,HZ.1⟩;exact⟨_,rfl,rfl⟩;exact⟨_,rfl,rfl,HZ.2.1⟩;exact⟨_,rfl,rfl⟩;exact⟨_,rfl,rfl,HZ.2.2.1⟩) (λ_ _ q=>q)).mono ?_;rintro e w6 ⟨a4,l4,p4,rfl,ho6,ZA⟩;exact hK _ _ ZA ⟨a4,l4,p4,rfl,ho6.bC (λk _ s=>by
   rcases s with (s|s)|s
   ·exact s
   ·exact s.elim
   ·have q1:wg.heap.size<=k:=s;exact Zk af)⟩
 refine Grow.aK ?_;have apm:=@G _ @SJ;exact iG):p:=h
theorem JO(h:p:=by
 refine Grow.aO Bo2.out ?_;refine Grow.aK ?_;refine Grow.aO Bv2.out ?_;refine Grow.step (RoF 8 37 ((wo Vd.n v.n c.vs).map vdF) (λk=>((w.heap.size+1+1+1+1<=k/\P k=3)/\k<w1.heap.size)\/W2.heap.size<=k)) rfl (RoF.mono _ _ _ _) ?_ ?_
 ·refine Obl.plain rfl ?_;intro ac wg K Zq hW hf hK;clear Zq;have e25:=hf 25 ag;simp[slotFact,Yg] at e25;have e27:=hf 27 ag;simp[slotFact,Yg] at e27;clear hf;go_simp;have hs6:=hW.size;refine (Ce d'.a3 d'.l3 d'.c3 c.vs v.n _ _ (HPV.below hW) hlv).mono ?_;rintro e w6 ⟨a2,l2,p2,rfl,ho6,ZA⟩;exact hK _ _ ZA ⟨a2,l2,p2,rfl,ho6.bC (λk _ s=>s.imp id (λq=>by have q1:wg.heap.size<=k:=q;show W2.heap.size<=k;omega))⟩
 refine Grow.aO Bv2.out ?_;refine Grow.step (RoF 8 37 ((kg c (bdX x v.n) (bdV v x.n)).vs.map vdF) (λk=>((w.heap.size+1+1+1+1<=k/\P k=3)/\k<w1.heap.size)\/(B<=k/\k<w.heap.size)\/W2.heap.size<=k)) rfl (RoF.mono _ _ _ _) ?_ ?_
 ·refine Obl.plain rfl ?_;intro ac wg K Zq hW hf hK;clear Zq;have e28:=hf 28 ag;simp[slotFact,Yg] at e28;have e29:=hf 29 ag;simp[slotFact,Yg] at e29;clear hf;obtain⟨a2,l2,p2,e28,ho2⟩:=e28;go_simp;have hs6:=hW.size;have hl2:l2<=8:=by have h6:=ho2.1;rw[Yq] at h6;have h7:=yA Vd.n v.n c.vs;have:=HS.v;omega
  obtain⟨g,hg⟩:=(HV.below (ZX.trans (hW.mono ZX.size))).fr;refine (wm a2 l2 p2 (wo Vd.n v.n c.vs) (bdV v x.n) va vl vc g _ (λk=>B<=k/\k<w.heap.size) _ ho2 hl2 (CI (x:=bdV v x.n) HZ.2.2.1 HZ.2.2.2.1 HZ.2.2.2.2 HZ.1 hg) (λk q1 q2=>by
   rcases q1 with q1|q1
   ·omega
   ·have q4:W2.heap.size<=k:=q1;omega)).mono ?_
  rintro e w6 ⟨a4,l4,p4,rfl,ho6,ZA⟩;exact hK _ _ ZA ⟨a4,l4,p4,rfl,ho6.bC (λk _ s=>by
   rcases s with (s|s)|s
   ·exact s.imp id Zk
   ·exact Zk (Zl s)
   ·have q1:wg.heap.size<=k:=s;exact Zk (Zk (show W2.heap.size<=k by omega)))⟩
 refine Grow.aK ?_;have aom:=@G _ @D1;exact fc):p:=h
theorem JM(h:p:=by
 exact asr):p:=h
theorem j0(h:p:=by
 obtain⟨r0,r1,r2,r3,r4,r5,r6,r7⟩:=cs8 Br;obtain⟨ZR,ZS,ZT,ZU,ZV,ZY,Z1,Z2⟩:=dD;go_wp2;exact apE):p:=h
theorem JD(h:p:=by
 replace c5:=(ah HB.out hb).trans c5;replace c6:=(ah HB.out hb).trans c6;replace c7:=(ah HB.out hb).trans c7;clear Zc hx hvk Zx z0 z2 z3 z5;have hn8:=yA Vd.n t (xs.take k);have hn9:(wo Vd.n t (xs.take k)).length<=k:=by rw[YF] at hn8;omega
 go_wp2_with fail;refine (eT x va vl vc _).mono ?_;rintro e w1 ⟨rfl,ZN⟩;obtain⟨hn1,Zr⟩:=aY ZN;obtain⟨n0,n1,n2,n3,n4,n5,n6,n7⟩:=cs8 hn1;have hs1:=ae hn1;have HO1:=G (cv HO.out Zr);have ZW:=G (HB.trans (Zr.mono hBs));clear ZN Zr hn1 c0 c1 c2 c3 c4 c5 c6 c7;cases hq:(x.n.toList==t.toList)
 ·have Τ:(x.n.toList !=t.toList)=Zi:=by simp[bne,hq]
  go_wp2_with (first|(at_builtin;refine wpList_append_own _ rfl _ _ 96 rfl w.heap.size 37 i0 (Zj #[I ⟨#[]⟩,V O 0,I ⟨#[]⟩,I ⟨#[]⟩,Zf Zg,I ⟨#[]⟩,Zf Zg,U J 0 0]) 8 112 Tryz.underlying96 Y_.1 Y_.2.1 Y_.2.2.1 Y_.2.2.2 rfl ag _ _ _ rfl (HO1.alloc _) ⟨w1.heap.size,0,J⟩ 1 1 [I x.n,V O x.c,I x.z,I x.k,Zf x.x,I x.m,Zf x.y,U va vl vc] rfl rfl ?c1 ?c2 ?c3 ?c4 ?c5 ?_));case c1=>exact en _ _ _
  case c2=>intro u hu;simp only[YT,List.not_mem_nil,or_false] at hu;rcases hu with rfl|rfl|rfl|rfl|rfl|rfl|rfl|rfl <;> rfl
  case c3=>unfold maxLen;omega
  case c4=>omega
  case c5=>simp;omega
  rintro v' w3 Z5 ZC -;have HO3:Hid (w3.ownsRow w.heap.size 37 8 v' (wo Vd.n t (xs.take (k+1))).length (ws++([[I x.n,V O x.c,I x.z,I x.k,Zf x.x,I x.m,Zf x.y,U va vl vc]]:List (List Value))).flatten):=by
   exact Pq
  exact Rl
 ·exact QQ):p:=h
theorem JC(h:p:=by
 clear Zc hx hvk z0 z2 z4;have hn8:=yA Xd.n t (xs.take k);have hn9:(wo Xd.n t (xs.take k)).length<=k:=by rw[YF] at hn8;omega
 go_wp2_with fail;refine (eS x _).mono ?_;rintro e w1 ⟨rfl,ZN⟩;obtain⟨hn1,Zr⟩:=aY ZN;obtain⟨n0,n1,n2,n3,n4⟩:=cs5 hn1;have hs1:=ae hn1;have HO1:=G (cv HO.out Zr);have ZW:=G (HB.trans (Zr.mono hBs));clear ZN Zr hn1 c0 c1 c2 c3 c4;cases hq:(x.n.toList==t.toList)
 ·have Τ:(x.n.toList !=t.toList)=Zi:=by simp[bne,hq]
  go_wp2_with (first|(at_builtin;refine wpList_append_own _ rfl _ _ 121 rfl w.heap.size 47 i0 (Zj #[I ⟨#[]⟩,V O 0,I ⟨#[]⟩,Zf Zg,I ⟨#[]⟩]) 5 64 Tryz.underlying121 Y_.1 Y_.2.1 Y_.2.2.1 Y_.2.2.2 rfl ag _ _ _ rfl (HO1.alloc _) ⟨w1.heap.size,0,J⟩ 1 1 [I x.n,V O x.z,I x.k,Zf x.x,I x.v] rfl rfl ?c1 ?c2 ?c3 ?c4 ?c5 ?_));case c1=>exact en _ _ _
  case c2=>intro u hu;simp only[YT,List.not_mem_nil,or_false] at hu;rcases hu with rfl|rfl|rfl|rfl|rfl <;> rfl
  case c3=>unfold maxLen;omega
  case c4=>omega
  case c5=>simp;omega
  rintro v' w3 Z5 ZC -;have HO3:Hid (w3.ownsRow w.heap.size 47 5 v' (wo Xd.n t (xs.take (k+1))).length (ws++([[I x.n,V O x.z,I x.k,Zf x.x,I x.v]]:List (List Value))).flatten):=by
   exact Pq
  exact Rl
 ·exact QQ):p:=h
theorem tJ(h:p:=by
 have HX:=G hx;have HVK:=G hvk;replace c0:=(ah HB.out hb).trans c0;replace c1:=(ah HB.out hb).trans c1;replace c2:=(ah HB.out hb).trans c2;replace c3:=(ah HB.out hb).trans c3;replace c4:=(ah HB.out hb).trans c4;exact asu):p:=h
theorem JB(h:p:=by
 have aop:W3.ownsRow base 37 8 (U (M ⟨N,0,J⟩) (cap+1) Z_) (cap+1) (X.take (i*8)++ys++X.drop (i*8)):=by
  refine⟨?_,Or.inr ⟨N,Z_,R3.toArray,rfl,by omega,by rw[hW3];exact setRow_heap W2.drew N _ _ 37 _ aq4,hGn,by unfold maxLen;omega,?_,?_⟩⟩
  ·exact qR
  ·exact P2
  ·have e:=pG (a:=i*8) (b:=cap*8) (m:=8) (R2:=R2) hRt hXl af hyl hR2 (R2.drop ((i+1)*8+(X.drop (i*8)).length));rw[hR3,show (cap+1)*8=cap*8+8 by omega,show (i+1)*8=i*8+8 by omega];rw[show (i+1)*8=i*8+8 by omega] at e;simpa using e
 have au8:=@G _ @aen;exact Av):p:=h
theorem JA(h:p:=by
 have aop:W3.ownsRow base 47 5 (U (M ⟨N,0,J⟩) (cap+1) Z_) (cap+1) (X.take (i*5)++ys++X.drop (i*5)):=by
  refine⟨?_,Or.inr ⟨N,Z_,R3.toArray,rfl,by omega,by rw[hW3];exact setRow_heap W2.drew N _ _ 47 _ aq4,hGn,by unfold maxLen;omega,?_,?_⟩⟩
  ·exact qR
  ·exact P2
  ·have e:=pG (a:=i*5) (b:=cap*5) (m:=5) (R2:=R2) hRt hXl af hyl hR2 (R2.drop ((i+1)*5+(X.drop (i*5)).length));rw[hR3,show (cap+1)*5=cap*5+5 by omega,show (i+1)*5=i*5+5 by omega];rw[show (i+1)*5=i*5+5 by omega] at e;simpa using e
 have au8:=@G _ @aem;exact Av):p:=h
theorem tI(h:p:=by
 have awL:∀k,¬k=N->W3.heap[k]?=W1.heap[k]?:=λk hk=>by rw[hW3,setRow_other W2.drew N k _ hk];exact (congrArg (λz:World=>z.heap[k]?) hW2).trans (setRow_other W1 N k _ hk)
 have awO:w.grownBy W3 (M g):=by
  exact amr
 exact asJ):p:=h
theorem Jp(h:p:=by
 obtain⟨i0,hi,ZO,η,ZP⟩:=info_parts jl;have apQ:=@G _ @ad3;exact jQ):p:=h
theorem Jo(h:p:=by
 obtain⟨i0,hi,ZO,η,ZP⟩:=info_parts jm;have ao2:=@G _ @NA;exact ie):p:=h
theorem tG(h:p:=by
 have HR:=G ho.row;have Z4:xs.length=len:=oQ
 obtain⟨vss,H,hV,hcell⟩:=ho.jK;have HV:=G hV;have HC:=G hcell;have hvl:vss.length=xs.length:=by rw[hV.len,Yq]
 clear ho hV hcell;exact asK):p:=h
theorem He(h:p:=by
 refine (lB d c x u va vl vc (w.heap.size+1+1+1+1+1) _ (HR.below (apR.trans (hW.mono apR.size))) HT.sm ((HT5.below hW).ay (λ_ _ _=>rfl) (λk hk s=>⟨s,hk⟩)) af af af af af af).mono ?_;rintro e w6 ⟨d',rfl,ho6,ZA⟩;rw[HCX.out] at ho6;exact hK _ _ ZA ⟨d',rfl,ho6⟩):p:=h
theorem Hd(h:p:=by
 refine (lB d c x (mkV x (aT t k.z)) J 0 0 (w.heap.size+1+1+1+1+1) _ (HR.below (ao7.trans (hW.mono ao7.size))) HT.sm ⟨⟨rfl,Ye _,by omega,λq y hy=>by simp[mkV] at hy,Zl rfl⟩,Zl rfl⟩ af af af (show (aC++x.n).size<=9223372036854775807 by omega) (show (aT t k.z).size<=9223372036854775807 by omega) (show x.k.size<=9223372036854775807 by omega)).mono ?_;rintro e w6 ⟨d',rfl,ho6,ZA⟩;rw[HMB.out,show (mkV x (aT t k.z)).n=aC++x.n from rfl,HCX.out] at ho6;exact hK _ _ ZA ⟨d',rfl,ho6⟩):p:=h
theorem sW(h:p:=by
 refine Obl.plain rfl ?_;intro ac wg K Zq hW hf hK;clear Zq;have e31:=hf 31 ag;simp[slotFact,Yg] at e31;have e32:=hf 32 ag;simp[slotFact,Yg] at e32;have e33:=hf 33 ag;simp[slotFact,Yg] at e33;clear hf;go_simp;have hs6:=hW.size;exact asI):p:=h
theorem GO(h:p:=by
 have e36:=hf 36 ag;simp[slotFact,Yg] at e36;clear hf;obtain⟨d',e34,ho⟩:=e34;go_simp;exact hK _ _ (Yh _ _) ⟨d',rfl,ho⟩):p:=h
theorem F5(h:p:=by
 have hdl:(X.drop (i*8)).length=(n - i)*8:=by rw[List.length_drop,hXl,Nat.sub_mul]
 have ZM:=ae hg;by_cases asD:n+1<=cap
 ·have aqo:∀ty dc sc,(Builtin.copy_ #[96,96] ty #[U (M ⟨g,(i+1)*8,J⟩) (n - i) dc,U (M ⟨g,i*8,J⟩) (n+1 - i) sc]).run Tryz.prog w.drew=.ok (goInt (Nat.min (n+1 - i) (n - i))) (w.drew.setRow g (cur.toList.take ((i+1)*8)++X.drop (i*8)++cur.toList.drop ((i+1)*8+(X.drop (i*8)).length)).toArray):=λty dc sc=>
   cn w.drew 96 96 ty 37 g ((i+1)*8) (n - i) dc ⟨g,i*8,J⟩ (n+1 - i) sc 8 cur 37 (X.drop (i*8)) i0 Tryz.underlying96 Y_.1 Y_.2.2.1 hg AP (λj u hj=>by
    rw[YN] at hj;rw[Ym]
    exact hcell _ u hj) (by rw[hdl,hcs];omega) (λu hu=>Κ.out u (List.mem_of_mem_drop hu))
  obtain⟨an2,ao_⟩:∃c1:List Value,c1=cur.toList.take ((i+1)*8)++X.drop (i*8)++cur.toList.drop ((i+1)*8+(X.drop (i*8)).length):=⟨_,rfl⟩;rw[<-ao_] at aqo;have asE:an2.length=cap*8:=by rw[ao_];simp only[YP,YF,List.length_drop,hXl,Array.length_toList,hcs];omega
  obtain⟨W1,hW1⟩:∃W1,W1=w.drew.setRow g an2.toArray:=⟨_,rfl⟩;rw[<-hW1] at aqo;have hg1:W1.heap[g]?=M (Ze an2.toArray 37 (0,0)):=by rw[hW1];exact setRow_heap w.drew g _ _ 37 _ hg
  have hv1:W1.heap[vb]?=w.heap[vb]?:=by rw[hW1];exact setRow_other w.drew g vb _ hvg
  have asC:∀ty dc,(Builtin.copy_ #[96,25] ty #[U (M ⟨g,i*8,J⟩) (n+1 - i) dc,U (M ⟨vb,0,J⟩) 1 1]).run Tryz.prog W1=.ok (goInt (Nat.min 1 (n+1 - i))) (W1.setRow g (an2.take (i*8)++ys++an2.drop (i*8+ys.length)).toArray):=λty dc=>by
   have:=cn W1 96 25 ty 37 g (i*8) (n+1 - i) dc ⟨vb,0,J⟩ 1 1 8 an2.toArray 37 ys i0 Tryz.underlying96 Y_.1 Y_.2.2.1 hg1 AO (λj u hj=>by
    rw[Ym,al (hv1.trans HY.out),Yp]
    simpa using hj) (by simp only[List.size_toArray];rw[asE,hyl];omega) HY1.out
   simpa using this
  have hov:∀lb cb,(callFunc 190 #[U (M ⟨vb,0,J⟩) 1 1,U (M ⟨g,(i+1)*8,J⟩) lb cb]).run Tryz.prog w=.ok (.value (Zf Zg)) w:=λlb cb=>by
   rw[run_callFunc_extern Tryz.func190 aW aW aW (e:=Extern.SlicesOverlaps.overlaps #[25,25] #[4]) aW,
    Lib.run_overlaps_apart w 25 4 37 Tryz.underlying25 8 (λw=>by kernel_rfl) ⟨vb,0,J⟩ ⟨g,(i+1)*8,J⟩ 1 1 lb cb hvg 37 37 ys.toArray.size cur.size (by simp[World.shape?,HY.out]) (by simp[World.shape?,hg]) (Nat.ne_of_gt (by rw[hcs];omega)) (ak HY.out _) (ak HY.out _)]
   rfl
  have ave:=@G _ @Tn;exact yT
 have hcn:cap=n:=af
 subst hcn;obtain⟨N,hN⟩:∃N,N=w.heap.size:=⟨_,rfl⟩;obtain⟨Z_,hG⟩:∃Z_,Z_=grownCap w (cap+1) cap 37:=⟨_,rfl⟩;obtain⟨ROW,aq3⟩:∃R:Array Value,R=(X.take (i*8)).toArray++Builtin.zeroCells (Zj #[I ⟨#[]⟩,V O 0,I ⟨#[]⟩,I ⟨#[]⟩,Zf Zg,I ⟨#[]⟩,Zf Zg,U J 0 0]:Value).cells (cap+1 - i)++Builtin.zeroCells (Zj #[I ⟨#[]⟩,V O 0,I ⟨#[]⟩,I ⟨#[]⟩,Zf Zg,I ⟨#[]⟩,Zf Zg,U J 0 0]:Value).cells (Z_ - (cap+1)):=⟨_,rfl⟩;obtain⟨W1,hW1⟩:∃W1,W1=w.drew.alloc (Ze ROW 37):=⟨_,rfl⟩;have hGn:cap+1<=Z_:=by rw[hG];exact grownCap_ge w _ _ _
 have axV:Z_<=9223372036854775807:=by
  have:=grownCap_le_maxLen w (cap+1) cap 37 br;rw[<-hG] at this;unfold maxLen at this;omega
 have hRs:ROW.size=Z_*8:=by
  rw[aq3];simp only[Array.size_append,List.size_toArray,YF,size_zeroCells,hXl];rw[show (Zj #[I ⟨#[]⟩,V O 0,I ⟨#[]⟩,I ⟨#[]⟩,Zf Zg,I ⟨#[]⟩,Zf Zg,U J 0 0]:Value).cells.size=8 from rfl];omega
 have hRt:ROW.toList.take (i*8)=X.take (i*8):=by
  exact Qg
 have hrz:∀ty,(YY #[96,3] ty #[U (M ⟨g,0,J⟩) i cap,V O ((cap:Int)+1 - (i:Int))]).run Tryz.prog w=.ok (U (M ⟨N,0,J⟩) (cap+1) Z_) W1:=λty=>by
  have hold:(Builtin.firstCells i0.size i (U (M ⟨g,0,J⟩) i cap)).run Tryz.prog w.drew=.ok (X.take (i*8)).toArray w.drew:=by
   rw[Y_.2.2.1];exact run_firstCells_some w.drew 8 i ⟨g,0,J⟩ i cap (X.take (i*8)) oU (λj v hj=>by
    rw[Ym,Yp];rw[YC] at hj
    split at hj
    ·exact hcell j v hj
    ·cases hj)
  have h:=Lib.run_append_grow_zeros w 96 3 ty 37 i0 _ O O Tryz.underlying96 Tryz.underlying3 Y_.1 Y_.2.1 (M ⟨g,0,J⟩) i cap (X.take (i*8)) hold (cap+1 - i) af (by rw[Y_.2.2.1];decide) af af (by rw[Y_.2.2.2];omega) (by rw[Y_.2.2.2];exact growslice_fits af af);exact QH
 have hgN:W1.heap[N]?=M (Ze ROW 37 (0,0)):=by rw[hW1,hN];exact Go.heap_alloc_new w.drew _
 have asL:=@G _ @Dp;exact si):p:=h
theorem FZ(h:p:=by
 have hdl:(X.drop (i*5)).length=(n - i)*5:=by rw[List.length_drop,hXl,Nat.sub_mul]
 have ZM:=ae hg;by_cases asD:n+1<=cap
 ·have aqo:∀ty dc sc,(Builtin.copy_ #[121,121] ty #[U (M ⟨g,(i+1)*5,J⟩) (n - i) dc,U (M ⟨g,i*5,J⟩) (n+1 - i) sc]).run Tryz.prog w.drew=.ok (goInt (Nat.min (n+1 - i) (n - i))) (w.drew.setRow g (cur.toList.take ((i+1)*5)++X.drop (i*5)++cur.toList.drop ((i+1)*5+(X.drop (i*5)).length)).toArray):=λty dc sc=>
   cn w.drew 121 121 ty 47 g ((i+1)*5) (n - i) dc ⟨g,i*5,J⟩ (n+1 - i) sc 5 cur 47 (X.drop (i*5)) i0 Tryz.underlying121 Y_.1 Y_.2.2.1 hg AP (λj u hj=>by
    rw[YN] at hj;rw[Ym]
    exact hcell _ u hj) (by rw[hdl,hcs];omega) (λu hu=>Κ.out u (List.mem_of_mem_drop hu))
  obtain⟨an2,ao_⟩:∃c1:List Value,c1=cur.toList.take ((i+1)*5)++X.drop (i*5)++cur.toList.drop ((i+1)*5+(X.drop (i*5)).length):=⟨_,rfl⟩;rw[<-ao_] at aqo;have asE:an2.length=cap*5:=by rw[ao_];simp only[YP,YF,List.length_drop,hXl,Array.length_toList,hcs];omega
  obtain⟨W1,hW1⟩:∃W1,W1=w.drew.setRow g an2.toArray:=⟨_,rfl⟩;rw[<-hW1] at aqo;have hg1:W1.heap[g]?=M (Ze an2.toArray 47 (0,0)):=by rw[hW1];exact setRow_heap w.drew g _ _ 47 _ hg
  have hv1:W1.heap[vb]?=w.heap[vb]?:=by rw[hW1];exact setRow_other w.drew g vb _ hvg
  have asC:∀ty dc,(Builtin.copy_ #[121,26] ty #[U (M ⟨g,i*5,J⟩) (n+1 - i) dc,U (M ⟨vb,0,J⟩) 1 1]).run Tryz.prog W1=.ok (goInt (Nat.min 1 (n+1 - i))) (W1.setRow g (an2.take (i*5)++ys++an2.drop (i*5+ys.length)).toArray):=λty dc=>by
   have:=cn W1 121 26 ty 47 g (i*5) (n+1 - i) dc ⟨vb,0,J⟩ 1 1 5 an2.toArray 47 ys i0 Tryz.underlying121 Y_.1 Y_.2.2.1 hg1 AO (λj u hj=>by
    rw[Ym,al (hv1.trans HY.out),Yp]
    simpa using hj) (by simp only[List.size_toArray];rw[asE,hyl];omega) HY1.out
   simpa using this
  have hov:∀lb cb,(callFunc 188 #[U (M ⟨vb,0,J⟩) 1 1,U (M ⟨g,(i+1)*5,J⟩) lb cb]).run Tryz.prog w=.ok (.value (Zf Zg)) w:=λlb cb=>by
   rw[run_callFunc_extern Tryz.func188 aW aW aW (e:=Extern.SlicesOverlaps.overlaps #[26,26] #[4]) aW,
    Lib.run_overlaps_apart w 26 4 47 Tryz.underlying26 5 (λw=>by kernel_rfl) ⟨vb,0,J⟩ ⟨g,(i+1)*5,J⟩ 1 1 lb cb hvg 47 47 ys.toArray.size cur.size (by simp[World.shape?,HY.out]) (by simp[World.shape?,hg]) (Nat.ne_of_gt (by rw[hcs];omega)) (ak HY.out _) (ak HY.out _)]
   rfl
  have ave:=@G _ @Tm;exact yT
 have hcn:cap=n:=af
 subst hcn;obtain⟨N,hN⟩:∃N,N=w.heap.size:=⟨_,rfl⟩;obtain⟨Z_,hG⟩:∃Z_,Z_=grownCap w (cap+1) cap 47:=⟨_,rfl⟩;obtain⟨ROW,aq3⟩:∃R:Array Value,R=(X.take (i*5)).toArray++Builtin.zeroCells (Zj #[I ⟨#[]⟩,V O 0,I ⟨#[]⟩,Zf Zg,I ⟨#[]⟩]:Value).cells (cap+1 - i)++Builtin.zeroCells (Zj #[I ⟨#[]⟩,V O 0,I ⟨#[]⟩,Zf Zg,I ⟨#[]⟩]:Value).cells (Z_ - (cap+1)):=⟨_,rfl⟩;obtain⟨W1,hW1⟩:∃W1,W1=w.drew.alloc (Ze ROW 47):=⟨_,rfl⟩;have hGn:cap+1<=Z_:=by rw[hG];exact grownCap_ge w _ _ _
 have axV:Z_<=9223372036854775807:=by
  have:=grownCap_le_maxLen w (cap+1) cap 47 br;rw[<-hG] at this;unfold maxLen at this;omega
 have hRs:ROW.size=Z_*5:=by
  rw[aq3];simp only[Array.size_append,List.size_toArray,YF,size_zeroCells,hXl];rw[show (Zj #[I ⟨#[]⟩,V O 0,I ⟨#[]⟩,Zf Zg,I ⟨#[]⟩]:Value).cells.size=5 from rfl];omega
 have hRt:ROW.toList.take (i*5)=X.take (i*5):=by
  exact Qg
 have hrz:∀ty,(YY #[121,3] ty #[U (M ⟨g,0,J⟩) i cap,V O ((cap:Int)+1 - (i:Int))]).run Tryz.prog w=.ok (U (M ⟨N,0,J⟩) (cap+1) Z_) W1:=λty=>by
  have hold:(Builtin.firstCells i0.size i (U (M ⟨g,0,J⟩) i cap)).run Tryz.prog w.drew=.ok (X.take (i*5)).toArray w.drew:=by
   rw[Y_.2.2.1];exact run_firstCells_some w.drew 5 i ⟨g,0,J⟩ i cap (X.take (i*5)) oU (λj v hj=>by
    rw[Ym,Yp];rw[YC] at hj
    split at hj
    ·exact hcell j v hj
    ·cases hj)
  have h:=Lib.run_append_grow_zeros w 121 3 ty 47 i0 _ O O Tryz.underlying121 Tryz.underlying3 Y_.1 Y_.2.1 (M ⟨g,0,J⟩) i cap (X.take (i*5)) hold (cap+1 - i) af (by rw[Y_.2.2.1];decide) af af (by rw[Y_.2.2.2];omega) (by rw[Y_.2.2.2];exact growslice_fits af af);exact QH
 have hgN:W1.heap[N]?=M (Ze ROW 47 (0,0)):=by rw[hW1,hN];exact Go.heap_alloc_new w.drew _
 have asL:=@G _ @Dn;exact si):p:=h
theorem sQ(h:p:=by
 have hvg:=ZE g rfl;clear ZE;have hcell:∀(j:Nat) u,X[j]?=M u->w.cell? ⟨g,j,J⟩=M u:=λj u hj=>by
  rw[al hg];rw[<-htk,YC] at hj;split at hj
  ·simpa using hj
  ·cases hj
 exact asz):p:=h
theorem FV(h:p:=by
 have Bx:=G ZD;replace HB:=upB HB Zr;clear hb Zr ZD;rcases hf with ⟨hv,rfl⟩|⟨hv,hkx,rfl⟩|⟨hv,hkx,rfl⟩
 ·have aon:=@G _ @K2;exact fg
 ·have aon:=@G _ @K1;exact fg
 have HVX:=G (Yb hv hkx);clear hv hkx;have aon:=@G _ @K3;exact fg):p:=h
theorem FU(h:p:=by
 have Bx:=G ZD;replace HB:=upB HB Zr;clear hb Zr ZD;exact asx):p:=h
theorem mU(h:p:=by
 clear k0 k1 k2 k3 k4 k5 Α;obtain⟨ZD,Zr⟩:=aY hb;replace Bk:=upK Bk Zr;replace Br:=upK Br Zr;exact aqn):p:=h
theorem Fz(h:p:=by
 clear hf;exact dE):p:=h
theorem E5(h:p:=by
 have Bk:=G ZD;have Bx:=G Ν;replace HB:=upB HB Zr;clear hb Zr ZD Ν;have asM:=bj HRI.out HK.1 HK.2;rcases hf with ⟨hh,n9,hx,hn9,rfl,-,-⟩|⟨hh,rfl⟩;rotate_left
 ·rw[asM.2] at hh;cases hh
 obtain⟨-,rfl⟩:=HRI.inj HK.1 hx (HK.2.trans hn9.symm);clear hx hn9 hh asM;have ev:=(HE.below HB.out).v7;have evl:=a_ ev;cases hkx:k.x
 ·have HKX:=G hkx;clear hkx;have aon:=@G _ @K5;exact fg
 ·have HKX:=G hkx;clear hkx;have aon:=@G _ @K4;exact fg):p:=h
theorem sD(h:p:=by
 go_wp2_with fail;refine (oG d c.now c.ks x.k w _ HR.k (HB.trans ((aM _ _ _).mono HB.size))).mono ?_;rintro e w1 ⟨hb,hf⟩;obtain⟨ZD,Ν,Zr⟩:=dK hb;exact asN):p:=h
theorem Es(h:p:=by
 clear hm hh h8';have asq:=@G _ @afW;exact qJ):p:=h
theorem Er(h:p:=by
 clear v0 fv0 v1 fv1 v2 fv2 v3 fv3 v4 fv4 v5 fv5 v6 fv6 v7 fv7;obtain⟨W5,hW5⟩:∃W,W=((((((((w1.setCell ⟨w.heap.size+1+1+1,0,J⟩ (I u.n)).setCell ⟨w.heap.size+1+1+1,1,J⟩ (V O u.c)).setCell ⟨w.heap.size+1+1+1,2,J⟩ (I u.z)).setCell ⟨w.heap.size+1+1+1,3,J⟩ (I u.k)).setCell ⟨w.heap.size+1+1+1,4,J⟩ (Zf u.x)).setCell ⟨w.heap.size+1+1+1,5,J⟩ (I u.m)).setCell ⟨w.heap.size+1+1+1,6,J⟩ (Zf u.y)).setCell ⟨w.heap.size+1+1+1,7,J⟩ (U va vl vc)):=⟨_,rfl⟩;obtain⟨aqT,Zp,Dk,Dx,Dr,Ds⟩:=ahV;have Dv:Hid (W5.heap[w.heap.size+1+1+1]?=M (Ze (vov u va vl vc) 37 (0,0))):=by rw[hW5];exact SD Bv.out _ _ _ _ _ _ _ _
 have apR:Hid (Below w.heap.size w W5):=by rw[hW5];exact sb3 (sb3 (sb3 (sb3 (sb3 (sb3 (sb3 (sb3 (HB.out))))))))
 have HKP:=G Zp;clear Zp;have hq1:=HQ.out;have HT5:Hid (bG W5 va vl vc u.zs (λk=>w.heap.size+1+1+1+1+1<=k)):=HTO.ay (λk hk s=>HKP.out k (by have s1:w.heap.size+1+1+1+1+1<=k:=s;omega)) (λ_ _ s=>s);have HCX:Hid (kg c (bdX x u.n) (bdV u x.n)=dM c i j9 x u):=vz HT.out HX.1 HU.out;go_wp2_with fail;rw[<-hW5];have ang:=@G _ @Kq;exact dC):p:=h
theorem sx(h:p:=by
 obtain⟨v0,v1,v2,v3,v4,v5,v6,v7⟩:=cs8 Bv;obtain⟨fv0,fv1,fv2,fv3,fv4,fv5,fv6,fv7⟩:=OV;go_wp2;go_step3;refine kH (ag1 (HJ1.out _ _ ?_));exact asO):p:=h
theorem D1(h:p:=by
 obtain⟨h31,h30,h29,-,h27,h26,h25,h24,-⟩:=hf;obtain⟨a3,l3,p3,axW,awR⟩:=h30;have HOV:=G awR;have HWY:=G hW;have BoY:=upK Bo2 hW;have BrY:=upK Br2 hW;obtain⟨o0,o1,o2,o3,o4,o5⟩:=cs6 BoY;have fo2:=ak BoY.out 2;obtain⟨r0,r1,r2,r3,r4,r5⟩:=cs6 BrY;have ZR:=ak BrY.out 0;have ZS:=ak BrY.out 1;have ZT:=ak BrY.out 2;have ZU:=ak BrY.out 3;have ZV:=ak BrY.out 4;have ZY:=ak BrY.out 5;clear awR;intro K hK;rw[if_pos cF];simp only[aL,YQ,Y0,Yr,Yx,Yy,h31,h29,h27,h26,h25,h24,axW];have amW:=@G _ @abm;exact cQ):p:=h
theorem Dp(h:p:=by
 obtain⟨R2,hR2⟩:∃R2:List Value,R2=ROW.toList.take (i*8)++ys++ROW.toList.drop (i*8+ys.length):=⟨_,rfl⟩;obtain⟨W2,hW2⟩:∃W2,W2=W1.setRow N R2.toArray:=⟨_,rfl⟩;have av4:∀ty dc,(Builtin.copy_ #[96,25] ty #[U (M ⟨N,i*8,J⟩) (cap+1 - i) dc,U (M ⟨vb,0,J⟩) 1 1]).run Tryz.prog W1=.ok (goInt (Nat.min 1 (cap+1 - i))) W2:=λty dc=>by
  rw[hW2,hR2];exact cn W1 96 25 ty 37 N (i*8) (cap+1 - i) dc ⟨vb,0,J⟩ 1 1 8 ROW 37 ys i0 Tryz.underlying96 Y_.1 Y_.2.2.1 hgN AO (λj u hj=>by
   rw[Ym,al (hv1.trans HY.out),Yp]
   simpa using hj) (by rw[hRs,hyl];omega) HY1.out
 have aso:R2.length=Z_*8:=by
  exact P7
 have aq4:W2.heap[N]?=M (Ze R2.toArray 37 (0,0)):=by rw[hW2];exact setRow_heap W1 N _ _ 37 _ hgN
 have hgn:¬g=N:=af
 have hg2:W2.heap[g]?=w.heap[g]?:=by rw[hW2,setRow_other W1 N g _ hgn];exact hg1
 obtain⟨R3,hR3⟩:∃R3:List Value,R3=R2.take ((i+1)*8)++X.drop (i*8)++R2.drop ((i+1)*8+(X.drop (i*8)).length):=⟨_,rfl⟩;obtain⟨W3,hW3⟩:∃W3,W3=W2.drew.setRow N R3.toArray:=⟨_,rfl⟩;have av5:∀ty dc sc,(Builtin.copy_ #[96,96] ty #[U (M ⟨N,(i+1)*8,J⟩) (cap - i) dc,U (M ⟨g,i*8,J⟩) (cap - i) sc]).run Tryz.prog W2.drew=.ok (goInt (Nat.min (cap - i) (cap - i))) W3:=λty dc sc=>by
  have:=cn W2.drew 96 96 ty 37 N ((i+1)*8) (cap - i) dc ⟨g,i*8,J⟩ (cap - i) sc 8 R2.toArray 37 (X.drop (i*8)) i0 Tryz.underlying96 Y_.1 Y_.2.2.1 aq4 AP (λj u hj=>by
   rw[YN] at hj;have hc:=hcell _ u hj;rw[Ym];rw[<-hc]
   exact World.cell?_of_block (w:=w) (w':=W2.drew) hg2) (by rw[hdl,List.size_toArray,aso];omega) (λu hu=>Κ.out u (List.mem_of_mem_drop hu))
  rw[hW3,hR3];simpa only[List.toList_toArray] using this
 have asJ:=@G _ @JB;exact tI):p:=h
theorem Dn(h:p:=by
 obtain⟨R2,hR2⟩:∃R2:List Value,R2=ROW.toList.take (i*5)++ys++ROW.toList.drop (i*5+ys.length):=⟨_,rfl⟩;obtain⟨W2,hW2⟩:∃W2,W2=W1.setRow N R2.toArray:=⟨_,rfl⟩;have av4:∀ty dc,(Builtin.copy_ #[121,26] ty #[U (M ⟨N,i*5,J⟩) (cap+1 - i) dc,U (M ⟨vb,0,J⟩) 1 1]).run Tryz.prog W1=.ok (goInt (Nat.min 1 (cap+1 - i))) W2:=λty dc=>by
  rw[hW2,hR2];exact cn W1 121 26 ty 47 N (i*5) (cap+1 - i) dc ⟨vb,0,J⟩ 1 1 5 ROW 47 ys i0 Tryz.underlying121 Y_.1 Y_.2.2.1 hgN AO (λj u hj=>by
   rw[Ym,al (hv1.trans HY.out),Yp]
   simpa using hj) (by rw[hRs,hyl];omega) HY1.out
 have aso:R2.length=Z_*5:=by
  exact P7
 have aq4:W2.heap[N]?=M (Ze R2.toArray 47 (0,0)):=by rw[hW2];exact setRow_heap W1 N _ _ 47 _ hgN
 have hgn:¬g=N:=af
 have hg2:W2.heap[g]?=w.heap[g]?:=by rw[hW2,setRow_other W1 N g _ hgn];exact hg1
 obtain⟨R3,hR3⟩:∃R3:List Value,R3=R2.take ((i+1)*5)++X.drop (i*5)++R2.drop ((i+1)*5+(X.drop (i*5)).length):=⟨_,rfl⟩;obtain⟨W3,hW3⟩:∃W3,W3=W2.drew.setRow N R3.toArray:=⟨_,rfl⟩;have av5:∀ty dc sc,(Builtin.copy_ #[121,121] ty #[U (M ⟨N,(i+1)*5,J⟩) (cap - i) dc,U (M ⟨g,i*5,J⟩) (cap - i) sc]).run Tryz.prog W2.drew=.ok (goInt (Nat.min (cap - i) (cap - i))) W3:=λty dc sc=>by
  have:=cn W2.drew 121 121 ty 47 N ((i+1)*5) (cap - i) dc ⟨g,i*5,J⟩ (cap - i) sc 5 R2.toArray 47 (X.drop (i*5)) i0 Tryz.underlying121 Y_.1 Y_.2.2.1 aq4 AP (λj u hj=>by
   rw[YN] at hj;have hc:=hcell _ u hj;rw[Ym];rw[<-hc]
   exact World.cell?_of_block (w:=w) (w':=W2.drew) hg2) (by rw[hdl,List.size_toArray,aso];omega) (λu hu=>Κ.out u (List.mem_of_mem_drop hu))
  rw[hW3,hR3];simpa only[List.toList_toArray] using this
 have asJ:=@G _ @JA;exact tI):p:=h
theorem si(h:p:=by
 have hg1:W1.heap[g]?=w.heap[g]?:=by rw[hW1];exact Go.heap_alloc_old w.drew _ ZM
 have hv1:W1.heap[vb]?=w.heap[vb]?:=by rw[hW1];exact Go.heap_alloc_old w.drew _ hvl
 exact asL):p:=h
namespace Rc
theorem yA(nm:α->ByteArray) (t:ByteArray) (xs:List α):(wo nm t xs).length<=xs.length:=List.length_filter_le _ _
structure Sel {α β:Type} (xs ys:List α) (vss ws:List β) (k:Nat) (f:Nat->Nat):Prop where
 len:ws.length=ys.length
 y:∀j,j<ys.length->ys[j]?=xs[f j]?
 v:∀j,j<ys.length->ws[j]?=vss[f j]?
 lt:∀j,j<ys.length->f j<k
 inj:∀i j,i<ys.length->j<ys.length->f i=f j->i=j
theorem Sel.nil(xs:List α) (vss:List β) (k:Nat) (f:Nat->Nat):Sel xs [] vss [] k f:=⟨rfl,λj h=>by simp at h,λj h=>by simp at h,λj h=>by simp at h,λi j h=>by simp at h⟩
theorem Sel.up {xs:List α} {vss ws:List β} (h:Sel xs ys vss ws k f):Sel xs ys vss ws (k+1) f:=⟨h.len,h.y,h.v,λj hj=>Nat.lt_succ_of_lt (h.lt j hj),h.inj⟩
theorem Sel.push {xs:List α} {vss ws:List β} (h:Sel xs ys vss ws k f) {x:α} {u:β} (hx:xs[k]?=M x) (hu:vss[k]?=M u):Sel xs (ys++[x]) vss (ws++[u]) (k+1) (λj=>if j=ys.length then k else f j):=by
 have hl:=h.len;refine⟨by simp[hl],λj hj=>?_,λj hj=>?_,λj hj=>?_,λi j hi hj e=>?_⟩
 ·by_cases e:j=ys.length
  ·subst e;simp[hx]
  ·have Λ:j<ys.length:=by simp at hj;omega
   rw[Yu Λ,if_neg e];exact h.y j Λ
 ·by_cases e:j=ys.length
  ·subst e;rw[if_pos rfl,hu,List.getElem?_append_right af,hl,Nat.sub_self];rfl
  ·have Λ:j<ys.length:=by simp at hj;omega
   rw[Yu af,if_neg e];exact h.v j Λ
 ·by_cases e:j=ys.length
  ·simp only[if_pos e];omega
  ·have Λ:j<ys.length:=by simp at hj;omega
   simp only[if_neg e];have:=h.lt j Λ;omega
 ·by_cases e1:i=ys.length <;> by_cases e2:j=ys.length
  ·omega
  ·have Λ:j<ys.length:=by simp at hj;omega
   simp only[if_pos e1,if_neg e2] at e;have:=h.lt j Λ;omega
  ·have hi':i<ys.length:=by simp at hi;omega
   simp only[if_pos e2,if_neg e1] at e;have:=h.lt i hi';omega
  ·simp only[if_neg e1,if_neg e2] at e;exact h.inj i j (by simp at hi;omega) (by simp at hj;omega) e
theorem Sel.jK {F:α->List Fv} {xs:List α} {ws:List (List Value)} (h:Sel xs ys vss ws k f) (hv:aR w S m (xs.map F) vss H):aR w S m (ys.map F) ws (λj=>H (f j)):=
 hv.sel f (by rw[h.len,Yq]) (λj hj=>by rw[Yq] at hj;rw[Yt,Yt,h.y j hj]) (λj hj=>by rw[Yq] at hj;exact h.v j hj) (λi j hi hj e=>h.inj i j (by simpa using hi) (by simpa using hj) e)
theorem CK {a0 a1 a2 a3 a4:Value} (hl:vs.length=5) (h0:vs[0]?=M a0) (h1:vs[1]?=M a1) (h2:vs[2]?=M a2) (h3:vs[3]?=M a3) (h4:vs[4]?=M a4):vs=[a0,a1,a2,a3,a4]:=by
 apply List.ext_getElem?;intro i;rcases i with _|_|_|_|_|i
 ·exact h0
 ·exact h1
 ·exact h2
 ·exact h3
 ·exact h4
 ·rw[List.getElem?_eq_none af,List.getElem?_eq_none aF]
theorem CJ {a0 a1 a2 a3 a4 a5 a6 a7:Value} (hl:vs.length=8) (h0:vs[0]?=M a0) (h1:vs[1]?=M a1) (h2:vs[2]?=M a2) (h3:vs[3]?=M a3) (h4:vs[4]?=M a4) (h5:vs[5]?=M a5) (h6:vs[6]?=M a6) (h7:vs[7]?=M a7):vs=[a0,a1,a2,a3,a4,a5,a6,a7]:=by
 apply List.ext_getElem?;intro i;rcases i with _|_|_|_|_|_|_|_|i
 ·exact h0
 ·exact h1
 ·exact h2
 ·exact h3
 ·exact h4
 ·exact h5
 ·exact h6
 ·exact h7
 ·rw[List.getElem?_eq_none af,List.getElem?_eq_none aF]
theorem dk {rs:List (List Fv)} (hV:aR w S m rs vss H) (hc:∀(k:Nat) u,vss.flatten[k]?=M u->w.cell? ⟨g,k,J⟩=M u) {k:Nat} {vs:List Value} (hk:vss[k]?=M vs) {i:Nat} {u:Value} (hi:i<m) (hu:w.cell? ⟨g,k*m+i,J⟩=M u):vs[i]?=M u:=by
 have hl:=hV.all k vs hk;have h1:vs[i]?=M (vs[i]'(by omega)):=Yi _;have h2:=hc _ _ (gF hV.all hk h1);rw[hu] at h2;rw[h1];exact h2.symm
theorem Cd(a:Option Addr) (len cap:Nat) (xs:List Xd) (t:ByteArray) (Q:Nat->Prop) (w:World) (ho:av w a len cap 5 47 (xs.map xdF) Q) (hl:len<=8):
  Calls Tryz.prog 97 #[U a len cap,I t] w λe w'=> ∃a' l' c',e=Zh (U a' l' c')/\av w' a' l' c' 5 47 ((wo Xd.n t xs).map xdF) (λk=>Q k\/w.heap.size<=k)/\Below w.heap.size w w':=by
 have asK:=@G _ @Jp;exact tG
theorem Ce(a:Option Addr) (len cap:Nat) (xs:List Vd) (t:ByteArray) (Q:Nat->Prop) (w:World) (ho:av w a len cap 8 37 (xs.map vdF) Q) (hl:len<=8):
  Calls Tryz.prog 99 #[U a len cap,I t] w λe w'=> ∃a' l' c',e=Zh (U a' l' c')/\av w' a' l' c' 8 37 ((wo Vd.n t xs).map vdF) (λk=>Q k\/w.heap.size<=k)/\Below w.heap.size w w':=by
 have asK:=@G _ @Jo;exact tG
def anG(E:Nat->Addr) (Why:Nat->Prop) (ok:Prop) (w:World) (e:Ending) (w':World):Prop:=Below w.heap.size w w'/\((∃i,i<9/\Why i/\e=Zh (.iface 217 (Zm (M (E i)))))\/(ok/\e=Zh .nilIface))
theorem cn(w:World) (dT sT ty elem:TypeId) (g o apS asP:Nat) (a:Addr) (av_ axX m:Nat) (cur:Array Value) (t:TypeId) (cs:List Value) (i:TypeInfo)
  (hu:Tryz.prog.underlying dT=M (.slice elem)) (hi:Tryz.prog.info? elem=M i) (hs:i.size=m)
  (hg:w.heap[g]?=M (Ze cur t (0,0))) (hn:cs.length=Nat.min av_ apS*m)
  (axY:∀j v,cs[j]?=M v->w.cell? (a.add j)=M v) (awa:o+cs.length<=cur.size) (h1:∀v∈cs,v.oneCell'=Zi):
  (Builtin.copy_ #[dT,sT] ty #[U (M ⟨g,o,J⟩) apS asP,U (M a) av_ axX]).run Tryz.prog w=
   .ok (goInt (Nat.min av_ apS)) (w.setRow g (cur.toList.take o++cs++cur.toList.drop (o+cs.length)).toArray):=by
 have hl:=run_loadCells_list (P:=Tryz.prog) w a cs axY;have hst:=run_storeCells_at Tryz.prog g o t cs 0 cur w hg (by simpa using awa) h1;rw[hn] at hl;simp[Builtin.copy_,run_underlying hu,Builtin.lenOf,Builtin.firstCells,sizeOf,typeInfo,hi,hs,hl,hst]
theorem vP {a c:Nat} {X ys cur c1:List Value} (hX:cur.take b=X) (hc:cur.length=c) (h1:a+m<=b) (h2:b+m<=c) (hy:ys.length=m) (h:c1=cur.take (a+m)++X.drop a++cur.drop (a+m+(X.drop a).length)):(c1.take a++(ys++c1.drop (a+m))).take (b+m)=X.take a++ys++X.drop a:=by
 have hXl:X.length=b:=by rw[<-hX,YF];omega
 have e1:c1.take a=X.take a:=by
  rw[h,List.append_assoc,List.take_append_of_le_length oU,List.take_take,<-hX,List.take_take];congr 1;omega
 have e2:c1.drop (a+m)=X.drop a++cur.drop (a+m+(X.drop a).length):=by
  rw[h,List.append_assoc];exact List.drop_left' oU
 rw[e1,e2,<-List.append_assoc,<-List.append_assoc];exact List.take_left' ahB
theorem pG {a:Nat} {X ys R R2 S:List Value} (hX:R.take a=X.take a) (hXl:X.length=b) (h1:a<=b) (hy:ys.length=m) (h:R2=R.take a++ys++S) (T:List Value):(R2.take (a+m)++X.drop a++T).take (b+m)=X.take a++ys++X.drop a:=by
 have e1:R2.take (a+m)=X.take a++ys:=by
  rw[h,hX];exact List.take_left' (by simp only[YP,YF];omega)
 rw[e1];exact List.take_left' ahB
theorem kr(w:World) (g:Nat) (cs:Array Value):w.grownBy (w.setRow g cs) (M g):=⟨rfl,rfl,rfl,by simp[World.setRow],λk _ h=>setRow_other w g k cs (λe=>h (by rw[e]))⟩
theorem et {ops:Array Oper} {o:Oper} {a:Act} {E:Prop}
  (hg:o.guard=J) (d x:Operand) (dT sT:TypeId) (hop:o.op=Op.call { callee:=Callee.builtin Builtin.copy,args:=#[d,x],argTypes:=#[dT,sT] })
  (v u:Value) (hd:a.eval d=v) (hx:a.eval x=u) {v':Value} {w':World} (hr:(Builtin.copy_ #[dT,sT] o.type #[v,u]).run Tryz.prog w=.ok v' w') (hK:K (a.put o.dst v') w'):
  if YR o (yielded ops a.tmps)=Zi then Oper.wp Tryz.prog o a w K Q else E:=by
 have hw:YR o (yielded ops a.tmps)=Zi:=by simp[YR,hg]
 rw[if_pos hw];unfold Oper.wp;simp[execOp,hop,resolve,invoke,builtin,hd,hx,hr,Result.andThen];exact hK
theorem Cn {p:Nat} {vss:List (List α)} (h:∀(j:Nat) vs,vss[j]?=M vs->vs.length=m) (hp:p<=vss.length) (vs:List α):(aQ p vs vss).flatten=vss.flatten.take (p*m)++vs++vss.flatten.drop (p*m):=by
 have hl:((vss.take p).flatten).length=p*m:=by
  rw[eH (m:=m) (λj v hv=>by
   rw[YC] at hv
   split at hv
   ·exact h j v hv
   ·cases hv),YF,Nat.min_eq_left hp]
 have e:vss.flatten=(vss.take p).flatten++(vss.drop p).flatten:=AQ
 have e1:vss.flatten.take (p*m)=(vss.take p).flatten:=by rw[e];exact List.take_left' hl
 have e2:vss.flatten.drop (p*m)=(vss.drop p).flatten:=by rw[e];exact List.drop_left' hl
 rw[e1,e2];simp[aQ]
theorem pz(a:Option Addr) (n cap i base vb:Nat) (X ys:List Value) (w:World) (ho:w.ownsRow base 37 8 (U a n cap) n X) (hn:n<=8) (Z6:i<=n) (hbs:base<=w.heap.size) (hy:w.heap[vb]?=M (Ze ys.toArray 37 (0,0))) (hyl:ys.length=8) (hy1:∀u∈ys,u.oneCell'=Zi) (hX1:∀u∈X,u.oneCell'=Zi) (ZE:∀g,a=M ⟨g,0,J⟩->¬vb=g):
  Calls Tryz.prog 166 #[U a n cap,V O i,U (M ⟨vb,0,J⟩) 1 1] w λe w'=> ∃v',e=Zh v'/\w'.ownsRow base 37 8 v' (n+1) (X.take (i*8)++ys++X.drop (i*8))/\w.grownBy w' ((U a n cap:Value).ownBlock):=by
 obtain⟨i0,hi,ZO,η,ZP⟩:=info_parts jm;have avg:=@G _ @aay;exact zN
theorem lE(a:Option Addr) (n cap:Nat) (X:List Value) (w:World) (hn:n<=8) (hXl:X.length=n*8) (hX1:∀u∈X,u.oneCell'=Zi) (hXc:∀(j:Nat) u,X[j]?=M u->∃g,a=M ⟨g,0,J⟩/\w.cell? ⟨g,j,J⟩=M u):
  Calls Tryz.prog 167 #[U a n cap] w λe w'=> ∃a' c',e=Zh (U a' n c')/\w'.ownsRow w.heap.size 37 8 (U a' n c') n X/\Below w.heap.size w w':=by
 obtain⟨i0,hi,ZO,η,ZP⟩:=info_parts jm;have apQ:=@G _ @ad2;exact jQ
theorem B0(a:Option Addr) (n cap:Nat) (xs:List Vd) (t:ByteArray) (Zu:Nat) (E:Nat->Addr) (w:World) (hr:aV w a n cap 8 (xs.map vdF)) (hG:Ers w E):
  Calls Tryz.prog 95 #[U a n cap,I t,V O Zu] w (anG E (λi=>(i=3/\hit Vd.n xs t=Zi)\/(i=4/\hit Vd.n xs t=Zg/\Zu<=xs.length)) (hit Vd.n xs t=Zg/\xs.length<Zu) w):=by
 have Z4:xs.length=n:=ef
 have HR:=G hr;have HE:=G hG;clear hr hG;go_enter Tryz.func95,Tryz.ntmps95;go_wp2_with fail;refine (ij a n cap xs t _ HR.out).mono ?_;rintro e w1 ⟨rfl,hb⟩;have HB:=G hb;have e3:=(HE.below hb).v3;have e4:=(HE.below hb).v4;clear hb;generalize pl Vd.n xs t=j;cases hh:hit Vd.n xs t
 ·have HH:=G hh;clear hh;by_cases hm:Zu<=n
  ·have hm2:¬((n:Int)<(Zu:Int)):=af
   go_wp2;go_ret;exact⟨HB.out,Zl ⟨4,by decide,Zk ⟨rfl,HH.out,by omega⟩,rfl⟩⟩
  ·have hm2:(n:Int)<(Zu:Int):=af
   go_wp2;go_ret;exact⟨HB.out,Zk ⟨⟨HH.out,by omega⟩,rfl⟩⟩
 ·have HH:=G hh;clear hh;go_wp2;go_ret;exact⟨HB.out,Zl ⟨3,by decide,Zl ⟨rfl,HH.out⟩,rfl⟩⟩
theorem wm(a:Option Addr) (n cap:Nat) (xs:List Vd) (x:Vd) (va:Option Addr) (vl vc hh:Nat) (Q Q2:Nat->Prop) (w:World) (ho:av w a n cap 8 37 (xs.map vdF) Q) (hn:n<=8) (hxf:∀(i:Nat) f,(vdF x)[i]?=M f->∃v,[I x.n,V O x.c,I x.z,I x.k,Zf x.x,I x.m,Zf x.y,U va vl vc][i]?=M v/\f.Fr w hh Q2 v) (hq:∀k,Q k->Q2 k->False):
  Calls Tryz.prog 100 #[U a n cap,Zj #[I x.n,V O x.c,I x.z,I x.k,Zf x.x,I x.m,Zf x.y,U va vl vc]] w λe w'=> ∃a' l' c',e=Zh (U a' l' c')/\av w' a' l' c' 8 37 ((aQ (pl Vd.n xs x.n) x xs).map vdF) (λk=>(Q k\/Q2 k)\/w.heap.size<=k)/\Below w.heap.size w w':=by
 have asH:=@G _ @Mc;exact ud
theorem py(a:Option Addr) (n cap i base vb:Nat) (X ys:List Value) (w:World) (ho:w.ownsRow base 47 5 (U a n cap) n X) (hn:n<=8) (Z6:i<=n) (hbs:base<=w.heap.size) (hy:w.heap[vb]?=M (Ze ys.toArray 47 (0,0))) (hyl:ys.length=5) (hy1:∀u∈ys,u.oneCell'=Zi) (hX1:∀u∈X,u.oneCell'=Zi) (ZE:∀g,a=M ⟨g,0,J⟩->¬vb=g):
  Calls Tryz.prog 164 #[U a n cap,V O i,U (M ⟨vb,0,J⟩) 1 1] w λe w'=> ∃v',e=Zh v'/\w'.ownsRow base 47 5 v' (n+1) (X.take (i*5)++ys++X.drop (i*5))/\w.grownBy w' ((U a n cap:Value).ownBlock):=by
 obtain⟨i0,hi,ZO,η,ZP⟩:=info_parts jl;have avg:=@G _ @aax;exact zN
theorem lD(a:Option Addr) (n cap:Nat) (X:List Value) (w:World) (hn:n<=8) (hXl:X.length=n*5) (hX1:∀u∈X,u.oneCell'=Zi) (hXc:∀(j:Nat) u,X[j]?=M u->∃g,a=M ⟨g,0,J⟩/\w.cell? ⟨g,j,J⟩=M u):
  Calls Tryz.prog 165 #[U a n cap] w λe w'=> ∃a' c',e=Zh (U a' n c')/\w'.ownsRow w.heap.size 47 5 (U a' n c') n X/\Below w.heap.size w w':=by
 obtain⟨i0,hi,ZO,η,ZP⟩:=info_parts jl;have apQ:=@G _ @ad1;exact jQ
set_option linter.unusedVariables false in
theorem wk(a:Option Addr) (n cap:Nat) (xs:List Xd) (x:Xd) (hh:Nat) (Q Q2:Nat->Prop) (w:World) (ho:av w a n cap 5 47 (xs.map xdF) Q) (hn:n<=8) (hxf:∀(i:Nat) f,(xdF x)[i]?=M f->∃v,[I x.n,V O x.z,I x.k,Zf x.x,I x.v][i]?=M v/\f.Fr w hh Q2 v) (hq:∀k,Q k->Q2 k->False):
  Calls Tryz.prog 98 #[U a n cap,Zj #[I x.n,V O x.z,I x.k,Zf x.x,I x.v]] w λe w'=> ∃a' l' c',e=Zh (U a' l' c')/\av w' a' l' c' 5 47 ((aQ (pl Xd.n xs x.n) x xs).map xdF) (λk=>(Q k\/Q2 k)\/w.heap.size<=k)/\Below w.heap.size w w':=by
 have asH:=@G _ @Mb;exact ud
theorem jx {xs:List α} {x:α} (hr:aH nm xs) (hx:xs[k]?=M x) (hn:nm x=t):wo nm t xs=xs.take k++xs.drop (k+1):=by
 have hk:k<xs.length:=(Yc.1 hx).1;have e:xs=xs.take k++x ::xs.drop (k+1):=by
  have h1:xs.drop k=x ::xs.drop (k+1):=by rw[List.drop_eq_getElem_cons hk];congr 1;exact (Yc.1 hx).2
  rw[<-h1,List.take_append_drop]
 have ε:∀(j:Nat) y,xs[j]?=M y->¬j=k->(!((nm y).toList==t.toList))=Zi:=λj y hj ZE=>by
  have:¬nm y=t:=λq=>ZE (hr.inj hj hx (q.trans hn.symm)).1;simp[bu this]
 have h1:(xs.take k).filter (λx=> !((nm x).toList==t.toList))=xs.take k:=List.filter_eq_self.2 λy hy=>by
  obtain⟨j,hj⟩:=YG hy;rw[YC] at hj;split at hj
  ·exact ε j y hj af
  ·cases hj
 have h2:(xs.drop (k+1)).filter (λx=> !((nm x).toList==t.toList))=xs.drop (k+1):=List.filter_eq_self.2 λy hy=>by
  obtain⟨j,hj⟩:=YG hy;rw[YN] at hj;exact ε _ y hj af
 unfold wo;conv=>lhs;rw[e]
 rw[List.filter_append,List.filter_cons,h1,h2,aP hn];rfl
end Rc
theorem ai4 {a b:Bool} (h:a=b):Ending.returned (Zf a)=Zh (Zf b):=by rw[h]
def lf(w:World) (cb zb:Nat) (n':ByteArray) (c':Int) (k':ByteArray) (x':Bool) (v':ByteArray) (t:ByteArray):Prop:=
 w.heap[cb]?=M (Ze #[I n',V O c',I k',Zf x',I v'] 47 (0,0))/\w.heap[zb]?=M (Ze #[I t] 9 (0,0))
theorem lf.below {cb zb:Nat} (h:lf w cb zb n' c' k' x' v' t) (hb:Below w.heap.size w w1):lf w1 cb zb n' c' k' x' v' t:=
 ⟨(hb.block _ (ae h.1)).trans h.1,(hb.block _ (ae h.2)).trans h.2⟩
theorem aha(n:ByteArray) (c:Int) (z:ByteArray) (k:ByteArray) (x:Bool) (m:ByteArray) (y:Bool) (a:Option Addr) (len cap:Nat) (cb zb:Nat) (n':ByteArray) (c':Int) (k':ByteArray) (x':Bool) (v':ByteArray) (t:ByteArray) (w:World) (hh:lf w cb zb n' c' k' x' v' t):
  Calls Tryz.prog 185 #[Zj #[I n,V O c,I z,I k,Zf x,I m,Zf y,U a len cap],Zm (M ⟨cb,0,J⟩),Zm (M ⟨zb,0,J⟩)] w λe w'=>e=Zh (Zf (svB c z k x m y c' k' x' t))/\Below w.heap.size w w':=by
 have hh1:=hh.below (aj w (Ze #[I n,V O c,I z,I k,Zf x,I m,Zf y,U a len cap] 37));have HB:=G (aj w (Ze #[I n,V O c,I z,I k,Zf x,I m,Zf y,U a len cap] 37));have c1:=al hh1.1 1;have c2:=al hh1.1 2;have c3:=al hh1.1 3;have c4:=al hh1.2 0;simp only[List.getElem?_toArray,List.getElem?_cons_succ,List.getElem?_cons_zero] at c1 c2 c3 c4;clear hh hh1;unfold svB;cases y;case true=>
  exact Pp
 case false=>
  cases h2:m.toList.isEmpty
  ·skip;exact Pp
  ·skip;cases h0:(k.toList==k'.toList)
   ·exact vr
   ·cases h1:(x==x')
    ·exact vr
    ·skip;cases h4:t.toList.isEmpty
     ·cases h5:(z.toList==t.toList)
      ·skip;exact Q0
      ·exact Po
     ·exact Po
theorem rW(n':ByteArray) (c':Int) (k':ByteArray) (x':Bool) (v':ByteArray) (t:ByteArray) (w:World):
  Calls Tryz.prog 153 #[Zj #[I n',V O c',I k',Zf x',I v'],I t] w λe w'=>e=Zh (.func (.func 185) #[] #[Zm (M ⟨w.heap.size,0,J⟩),Zm (M ⟨w.heap.size+1,0,J⟩)])/\lf w' w.heap.size (w.heap.size+1) n' c' k' x' v' t/\Below w.heap.size w w':=by
 go_enter Tryz.func153,Tryz.ntmps153;go_wp2;go_ret;exact⟨rfl,⟨du _ _ _,cL _ _ _⟩,aM _ _ _⟩
def Vd.Ok(v:Vd):Prop:=Bu v.n v.c v.z v.k v.x v.m v.y v.zs
def vZ:Vd:=⟨⟨#[]⟩,0,⟨#[]⟩,⟨#[]⟩,Zg,⟨#[]⟩,Zg,[]⟩
def lH(vs:List Vd) (n':ByteArray) (c':Int) (k' v' t:ByteArray):Prop:=iT n' c' k' v'/\dz t/\vs.length<=8/\∀(j:Nat) v,vs[j]?=M v->v.Ok
def rD(vs:List Vd) (n':ByteArray) (c':Int) (k':ByteArray) (x':Bool) (v':ByteArray) (t:ByteArray) (u:Vd) (p:Int):Prop:=
 ((400<vs.length\/8000<t.size)/\u=vZ/\p=2)\/(¬(400<vs.length\/8000<t.size)/\¬lH vs n' c' k' v' t/\u=vZ/\p=1)\/
 (¬(400<vs.length\/8000<t.size)/\lH vs n' c' k' v' t/\dG (svV c' k' x' t) vs=J/\u=vZ/\p=6)\/
 (¬(400<vs.length\/8000<t.size)/\lH vs n' c' k' v' t/\dG (svV c' k' x' t) vs=M u/\p=0)
def eU(vs:List Vd) (n':ByteArray) (c':Int) (k':ByteArray) (x':Bool) (v':ByteArray) (t:ByteArray) (w:World) (e:Ending) (w':World):Prop:=
 ∃u p a l c,e=Zh (Zj #[I u.n,V O u.c,I u.z,I u.k,Zf u.x,I u.m,Zf u.y,U a l c,V O p])/\rD vs n' c' k' x' v' t u p/\Ap.cj u.zs w a l c w'
theorem agT(hb:Below w.heap.size w w'):Ap.cj [] w J 0 0 w':=⟨⟨rfl,Ye _,by omega,λj x hx=>by simp at hx,Zl rfl⟩,Zl rfl,hb⟩
theorem eU.bad {vs:List Vd} {p:Int} (h:rD vs n' c' k' x' v' t vZ p) (hb:Below w.heap.size w w'):
  eU vs n' c' k' x' v' t w (Zh (Zj #[I ⟨#[]⟩,V O 0,I ⟨#[]⟩,I ⟨#[]⟩,Zf Zg,I ⟨#[]⟩,Zf Zg,U J 0 0,V O p])) w':=⟨vZ,p,J,0,0,rfl,h,agT hb⟩
theorem g_(hB:B<=b) (h:Below B w w1):
  Below B w (((((((((w1.setCell ⟨b,0,J⟩ (v0)).setCell ⟨b,1,J⟩ (v1)).setCell ⟨b,2,J⟩ (v2)).setCell ⟨b,3,J⟩ (v3)).setCell ⟨b,4,J⟩ (v4)).setCell ⟨b,5,J⟩ (v5)).setCell ⟨b,6,J⟩ (v6)).setCell ⟨b,7,J⟩ (v7)).setCell ⟨b,8,J⟩ (v8)):=
 ((((((((h.setCell (p:=⟨b,0,J⟩) hB v0).setCell (p:=⟨b,1,J⟩) hB v1).setCell (p:=⟨b,2,J⟩) hB v2).setCell (p:=⟨b,3,J⟩) hB v3).setCell (p:=⟨b,4,J⟩) hB v4).setCell (p:=⟨b,5,J⟩) hB v5).setCell (p:=⟨b,6,J⟩) hB v6).setCell (p:=⟨b,7,J⟩) hB v7).setCell (p:=⟨b,8,J⟩) hB v8
theorem Rm {a:Option Addr} {p X:Nat} (h:aw w' a l p zs/\(zs=[]\/∃g cur,a=M ⟨g,0,J⟩/\X<=g/\w'.heap[g]?=M (Ze cur 9 (0,0)))/\Below w.heap.size w w') (hb:w.heap.size<=b) (hX:b<X):
  Ap.cj zs w a l p (((((((((w'.setCell ⟨b,0,J⟩ (v0)).setCell ⟨b,1,J⟩ (v1)).setCell ⟨b,2,J⟩ (v2)).setCell ⟨b,3,J⟩ (v3)).setCell ⟨b,4,J⟩ (v4)).setCell ⟨b,5,J⟩ (v5)).setCell ⟨b,6,J⟩ (v6)).setCell ⟨b,7,J⟩ (v7)).setCell ⟨b,8,J⟩ (v8)):=by
 have h9:=Ap.cj.set (Ap.cj.set (Ap.cj.set (Ap.cj.set (Ap.cj.set (Ap.cj.set (Ap.cj.set (Ap.cj.set (Ap.cj.set h hb hX (i:=0) (v:=v0)) hb hX (i:=1) (v:=v1)) hb hX (i:=2) (v:=v2)) hb hX (i:=3) (v:=v3)) hb hX (i:=4) (v:=v4)) hb hX (i:=5) (v:=v5)) hb hX (i:=6) (v:=v6)) hb hX (i:=7) (v:=v7)) hb hX (i:=8) (v:=v8);refine⟨h9.1,?_,h9.2.2⟩;rcases h9.2.1 with h|⟨g,cur,h1,h2,h3⟩
 ·exact Zl h
 ·exact Zk ⟨g,cur,h1,by omega,h3⟩
theorem B6 {x:Bool} (h:ed zs (if x=Zi then 1 else 6)):zs.length<=6:=by
 have:=(eY h).1;omega
def am7(n z t:ByteArray):Prop:=kE n z/\aN t/\(z=⟨#[]⟩\/z=t)
theorem RN(n:ByteArray) (x y:Bool) (z t:ByteArray) (w:World) (hn:n.size<=9223372036854775807) (hz:z.size<=9223372036854775807) (ht:t.size<=9223372036854775807):
  Calls Tryz.prog 157 #[Zj #[I n,Zf x,Zf y,I z],I t] w (ar (am7 n z t) w):=by
 go_enter Tryz.func157,Tryz.ntmps157;go_wp2_with fail;refine (jo n z x y _ hn hz).mono ?_;rintro e w1 ⟨r,rfl,hr,hb⟩;obtain⟨g,ZN,-⟩:=fM hb;have HB:=G ZN;have c3:=ck3 g;clear g hb ZN;by_cases hq:r=Zi;case neg=>
  have aoU:=@G _ @acK;exact gw
 have h0:=G (hr.1 hq);subst hq;clear hr;go_wp2_with fail;refine (bh t _ ht).mono ?_;rintro e w2 ⟨r,rfl,hr,rfl⟩;by_cases hq:r=Zi;case neg=>
  have aoU:=@G _ @acJ;exact gw
 have h1:=G (hr.1 hq);subst hq;clear hr;by_cases ZO:z=⟨#[]⟩
 ·subst ZO;go_wp2_with fail;go_ret;exact⟨Zi,rfl,⟨λ_=>⟨h0.out,h1.out,Zl rfl⟩,λ_=>rfl⟩,HB.out⟩
 have HZ:=G ZO;have hq9:=aU ZO;by_cases hzt:z=t
 ·have hq8:=aP hzt;have HT:=G hzt;clear hzt ZO;go_wp2_with fail;go_ret;exact⟨Zi,rfl,⟨λ_=>⟨h0.out,h1.out,Zk HT.out⟩,λ_=>rfl⟩,HB.out⟩
 ·have hq8:=bu hzt;have HT:=G hzt;clear hzt ZO;go_wp2_with fail;go_ret;exact⟨Zg,rfl,⟨λh=>bJ,λh=>(h.2.2.elim HZ.out HT.out).elim⟩,HB.out⟩
theorem pA:(Tryz.prog.info? 5).map (λi=>(i.zero,i.size,i.bytes))=M (M (V .u8 0),1,1):=by kernel_rfl
theorem kK:(Tryz.prog.info? 5).map (·.size)=M 1:=by kernel_rfl
theorem fF(dT sT ty:TypeId) (elem:TypeId) (hu:P.underlying dT=M (.slice elem)) (Zq:(P.info? elem).map (·.size)=M 1)
  (dp:Option Addr) (apS asP:Nat) (t:ByteArray)
  (g off:Nat) (cur:List Value) (e:TypeId) (hg:w.heap[g]?=M (Ze cur.toArray e (0,0))) (hle:t.size<=apS) (axZ:0<t.size->dp=M ⟨g,off,J⟩)
  (awa:off+t.size<=cur.length) (B:Nat) (w0:World) (hb:Below B w0 w) (hBg:B<=g):
  ∃w',(Builtin.copy_ #[dT,sT] ty #[U dp apS asP,I t]).run P w=.ok (V O (t.size:Nat)) w'/\
   Hid (w'.heap[g]?=M (Ze (splice cur off (Y1 t.data.toList)).toArray e (0,0)))/\Below B w0 w':=by
 have hlen:(Y1 t.data.toList).length=t.size:=by rw[Lib.byteCells_length,<-Lib.size_eq]
 by_cases h0:t.size=0
 ·have aoQ:=Lib.run_copy_empty_string (P:=P) w dT sT ty elem dp apS asP t hu (by rw[Zq];rfl) h0;have hc:Y1 t.data.toList=[]:=List.eq_nil_of_length_eq_zero af;rw[h0];exact⟨w,aoQ,show _=_ by rw[hc];simpa[splice] using hg,hb⟩
 ·obtain rfl:=axZ af;have aoQ:=Lib.run_copy_row_string (P:=P) w dT sT ty elem g off apS asP t cur.toArray e hu Zq hg hle (by simpa using awa);refine⟨_,aoQ,?_,below_setRow hb hBg _⟩;show _=_;rw[setRow_heap w g _ _ e _ hg];simp[splice,hlen]
theorem vT {n:Nat} {e:TypeId} {xs:List Value} (h:w.ownsRow B e 1 (U (M ⟨g,0,J⟩) n n) n xs):
  w.heap[g]?=M (Ze xs.toArray e (0,0))/\xs.length=n/\B<=g:=by
 obtain⟨h1,h2⟩:=h;rcases h2 with ⟨h3,_⟩|⟨g',cap,cur,hv,hB,hh,_,_,Zq,htk⟩
 ·cases h3
 ·simp only[Value.slice.injEq,YZ,Addr.mk.injEq] at hv;obtain⟨⟨rfl,_,_⟩,_,rfl⟩:=hv;have hl:cur.toList.length<=n*1:=by simp[Zq]
  rw[YB hl] at htk;subst htk;exact⟨by simpa using hh,by simpa using Zq,hB⟩
theorem wB {Z X Y:List Value} (h:Z.length=X.length+Y.length):splice (splice Z 0 X) X.length Y=X++Y:=by
 unfold splice;have h1:List.drop (X.length+Y.length) Z=[]:=Yw af;simp[<-List.append_assoc,h1]
theorem vX(l:List UInt8) {n cap:Nat} (hn:l.length=n) (h:w.heap[g]?=M (Ze (Y1 l).toArray 5 (0,0))):
  (convert 22 9 (U (M ⟨g,0,J⟩) n cap)).run Tryz.prog w=.ok (I ⟨l.toArray⟩) w:=by
 subst hn;exact run_convert_bytes_back (P:=Tryz.prog) w 22 9 5 ⟨g,0,J⟩ cap l Tryz.underlying22 Tryz.underlying5 Tryz.underlying9 (λj hj=>by
  rw[Ym]
  simp[YX,h,Y1,hj])
theorem fX(s:ByteArray):(Y1 s.data.toList).length=s.size:=by rw[Lib.byteCells_length,<-Lib.size_eq]
theorem vL(x:ByteArray) (w:World) (h:x.size<=1073741824):
  Calls Tryz.prog 158 #[I x,I ByteArray.empty] w λe w'=>e=Zh (I x)/\Below w.heap.size w w':=by
 obtain⟨i0,hi,ZO,η,ZP⟩:=info_parts pA;go_enter Tryz.func158,Tryz.ntmps158;go_wp2_with (at_make;refine wpList_make_full _ rfl _ _ 22 rfl w.heap.size 5 i0 (V .u8 0) 1 Tryz.underlying22 hi ZO η _ _ _ _ x.size rfl rfl af af (by rw[ZP];omega) br (Ye _) ?_);intro w1 ζ ZC;obtain⟨hg1,hz,-⟩:=vT ζ;obtain⟨Z,hZ⟩:∃Z,Z=(madeCells #[Value.int IntKind.u8 0] x.size).toList:=⟨_,rfl⟩;have asQ:=(Yh _ _).grown ZC (Ye _) (λk hk=>by cases hk);rw[<-hZ] at hg1 hz;obtain⟨w2,hcp,HG2,awb⟩:=fF (P:=Tryz.prog) 22 9 3 5 Tryz.underlying22 kK (M ⟨w.heap.size,0,J⟩) x.size x.size x w.heap.size 0 Z 5 hg1 af (λ_=>rfl) af w.heap.size w asQ (Ye _);have hs2:splice Z 0 (Y1 x.data.toList)=Y1 x.data.toList:=by
  unfold splice;have h1:List.drop (0+(Y1 x.data.toList).length) Z=[]:=Yw (by rw[fX];omega);rw[h1];simp
 rw[hs2] at HG2;have asC:=Lib.run_copy_empty_string (P:=Tryz.prog) w2 22 9 3 5 (M ⟨w.heap.size,0,J⟩) 0 0 ByteArray.empty Tryz.underlying22 aW rfl;have hcv:=vX (cap:=x.size) x.data.toList (Lib.size_eq x).symm HG2.out;clear hs2 hZ ζ ZC hg1 hi ZO η ZP asQ;go_wp2;go_ret;exact⟨rfl,awb⟩
theorem vK(x y:ByteArray) (w:World) (h:x.size+y.size<=1073741824) (hy:¬y=ByteArray.empty):
  Calls Tryz.prog 158 #[I x,I y] w λe w'=>e=Zh (I ⟨(x.data.toList++y.data.toList).toArray⟩)/\Below w.heap.size w w':=by
 obtain⟨i0,hi,ZO,η,ZP⟩:=info_parts pA;go_enter Tryz.func158,Tryz.ntmps158;go_wp2_with (at_make;refine wpList_make_full _ rfl _ _ 22 rfl w.heap.size 5 i0 (V .u8 0) 1 Tryz.underlying22 hi ZO η _ _ _ _ (x.size+y.size) rfl rfl af af (by rw[ZP];omega) br (Ye _) ?_);intro w1 ζ ZC;obtain⟨hg1,hz,-⟩:=vT ζ;obtain⟨Z,hZ⟩:∃Z,Z=(madeCells #[Value.int IntKind.u8 0] (x.size+y.size)).toList:=⟨_,rfl⟩;have asQ:=(Yh _ _).grown ZC (Ye _) (λk hk=>by cases hk);rw[<-hZ] at hg1 hz;obtain⟨w2,hcp,HG2,awb⟩:=fF (P:=Tryz.prog) 22 9 3 5 Tryz.underlying22 kK (M ⟨w.heap.size,0,J⟩) (x.size+y.size) (x.size+y.size) x w.heap.size 0 Z 5 hg1 af (λ_=>rfl) af w.heap.size w asQ (Ye _);obtain⟨w3,asC,HG3,ax0⟩:=fF (P:=Tryz.prog) 22 9 3 5 Tryz.underlying22 kK (M ⟨w.heap.size,x.size,J⟩) y.size y.size y w.heap.size x.size _ 5 HG2.out af (λ_=>rfl) (by rw[length_splice _ _ _ (by rw[fX];omega)];omega) w.heap.size w awb (Ye _);have hs2:splice (splice Z 0 (Y1 x.data.toList)) x.size (Y1 y.data.toList)=Y1 (x.data.toList++y.data.toList):=by
  have h1:=wB (Z:=Z) (X:=Y1 x.data.toList) (Y:=Y1 y.data.toList) (by rw[fX,fX];exact hz);rw[fX] at h1;rw[h1,Lib.byteCells_append]
 rw[hs2] at HG3;have hcv:=vX (n:=x.size+y.size) (cap:=x.size+y.size) (x.data.toList++y.data.toList) (by rw[YP,<-Lib.size_eq,<-Lib.size_eq]) HG3.out;clear hs2 hZ ζ ZC hg1 hi ZO η ZP asQ;go_wp2;go_ret;exact⟨rfl,ax0⟩
theorem rm(x y:ByteArray):x++y=⟨(x.data.toList++y.data.toList).toArray⟩:=by
 apply ByteArray.ext;simp
theorem xU(x y:ByteArray) (w:World) (h:x.size+y.size<=1073741824):
  Calls Tryz.prog 158 #[I x,I y] w λe w'=>e=Zh (I (x++y))/\Below w.heap.size w w':=by
 by_cases hy:y=ByteArray.empty
 ·subst hy;have:=vL x w af;rw[show x++ByteArray.empty=x from by simp];exact this
 ·rw[rm];exact vK x y w h hy
def Sf(n':ByteArray) (c':Int) (k' v' n z t:ByteArray):Prop:=iT n' c' k' v'/\kE n z/\aN t
def Se(n0:ByteArray) (c0:Int) (z0 k0:ByteArray) (x0:Bool) (m0:ByteArray):Prop:=n0=⟨#[]⟩/\c0=0/\z0=⟨#[]⟩/\k0=⟨#[]⟩/\x0=Zg/\m0=⟨#[]⟩
def alB(n':ByteArray) (c':Int) (k':ByteArray) (x':Bool) (v' n z t:ByteArray) (n0:ByteArray) (c0:Int) (z0 k0:ByteArray) (x0:Bool) (m0:ByteArray) (p0:Int):Prop:=
 (8000<t.size/\Se n0 c0 z0 k0 x0 m0/\p0=2)\/(¬8000<t.size/\¬Sf n' c' k' v' n z t/\Se n0 c0 z0 k0 x0 m0/\p0=1)\/
 (¬8000<t.size/\Sf n' c' k' v' n z t/\¬kD n' k' v' n z t/\Se n0 c0 z0 k0 x0 m0/\p0=10)\/
 (¬8000<t.size/\Sf n' c' k' v' n z t/\kD n' k' v' n z t/\(n0=aC++n'/\c0=c'/\z0=t/\k0=k'/\x0=x'/\m0=n')/\p0=0)
def ahl(n':ByteArray) (c':Int) (k':ByteArray) (x':Bool) (v':ByteArray) (n z:ByteArray) (t:ByteArray) (w:World) (e:Ending) (w':World):Prop:=
 ∃n0 c0 z0 k0 x0 m0 p0,e=Zh (Zj #[I n0,V O c0,I z0,I k0,Zf x0,I m0,Zf Zg,U J 0 0,V O p0])/\alB n' c' k' x' v' n z t n0 c0 z0 k0 x0 m0 p0/\Below w.heap.size w w'
theorem cY(hB:B<=b) (h:Below B w w1):
  Below B w (((((((((w1.setCell ⟨b,0,J⟩ (v0)).setCell ⟨b,1,J⟩ (v1)).setCell ⟨b,2,J⟩ (v2)).setCell ⟨b,3,J⟩ (v3)).setCell ⟨b,4,J⟩ (v4)).setCell ⟨b,5,J⟩ (v5)).setCell ⟨b,6,J⟩ (v6)).setCell ⟨b,7,J⟩ (v7)).setCell ⟨b,8,J⟩ (v8)):=
 ((((((((h.setCell (p:=⟨b,0,J⟩) hB v0).setCell (p:=⟨b,1,J⟩) hB v1).setCell (p:=⟨b,2,J⟩) hB v2).setCell (p:=⟨b,3,J⟩) hB v3).setCell (p:=⟨b,4,J⟩) hB v4).setCell (p:=⟨b,5,J⟩) hB v5).setCell (p:=⟨b,6,J⟩) hB v6).setCell (p:=⟨b,7,J⟩) hB v7).setCell (p:=⟨b,8,J⟩) hB v8
theorem pB(n':ByteArray) (c':Int) (k':ByteArray) (x':Bool) (v':ByteArray) (n:ByteArray) (x:Bool) (y:Bool) (z:ByteArray) (t:ByteArray) (w:World) (hn':n'.size<=9223372036854775807) (hk':k'.size<=9223372036854775807) (hv':v'.size<=9223372036854775807) (hn:n.size<=9223372036854775807) (hz:z.size<=9223372036854775807) (ht:t.size<=9223372036854775807):
  Calls Tryz.prog 94 #[Zj #[I n',V O c',I k',Zf x',I v'],Zj #[I n,Zf x,Zf y,I z],I t] w (ahl n' c' k' x' v' n z t w):=by
 by_cases hl:8000<t.size
 ·have HL:=G hl;go_enter Tryz.func94,Tryz.ntmps94;go_wp2_with fail;refine (n8 t _ hl).mono ?_;rintro e w1 ⟨rfl,rfl⟩;go_wp2_with fail;exact bodyPost_ret (v:=Zj #[I ⟨#[]⟩,V O 0,I ⟨#[]⟩,I ⟨#[]⟩,Zf Zg,I ⟨#[]⟩,Zf Zg,U J 0 0,V O 2]) (by simp[results,Tryz.results94,go_sem]) rfl ⟨_,_,_,_,_,_,_,rfl,Zl ⟨HL.out,⟨rfl,rfl,rfl,rfl,rfl,rfl⟩,rfl⟩,cO _ _ _ _⟩
 have HL:=G hl;go_enter Tryz.func94,Tryz.ntmps94;go_wp2_with fail;refine (mg t _ hl).mono ?_;have asw:=@G _ @ac8;exact qB
namespace Rc
theorem qT {ps:List α} {x y:α} (hr:aH nm ps) (hx:ps[k]?=M x) (hn:nm x=t):aQ (pl nm (wo nm t ps) t) y (wo nm t ps)=ps.set k y:=by
 have hk:k<ps.length:=(Yc.1 hx).1;have hw:=jx hr hx hn;have hpl:pl nm (wo nm t ps) t=k:=by
  rw[hw];have Zo:∀(j:Nat) z,j<k->(ps.take k++ps.drop (k+1))[j]?=M z->Yk (nm z).toList t.toList=Zi:=λj z hj hz=>by
   have h1:(ps.take k).length=k:=by rw[YF];omega
   rw[Yu af,YC,if_pos hj] at hz;have:=hr.lt hj hz hx;rw[hn] at this;exact this
  by_cases he:k+1<ps.length
  ·have h1:(ps.take k).length=k:=by rw[YF];omega
   have h2:(ps.take k++ps.drop (k+1))[k]?=M ps[k+1]:=by
    rw[List.getElem?_append_right af,h1,Nat.sub_self,YN];exact Yi he
   refine pj Zo h2 ?_;have h3:=hr.lt (Nat.lt_succ_self k) hx (Yi he);rw[hn] at h3;cases h9:Yk (nm ps[k+1]).toList t.toList
   ·rfl
   ·have h8:=cK _ _ _ h3 h9;rw[eG] at h8;cases h8
  ·have h4:ps.take k++ps.drop (k+1)=ps.take k:=by rw[Yw af,List.append_nil]
   rw[h4];rw[h4] at Zo;have h1:(ps.take k).length=k:=by rw[YF];omega
   rw[ik (λj z hz=>Zo j z dO hz),h1]
 rw[hpl,hw];unfold aQ;have h1:(ps.take k).length=k:=by rw[YF];omega
 rw[List.take_left' h1,List.drop_left' h1,List.set_eq_take_append_cons_drop,if_pos hk];simp
def kg(c:Cl) (x:Xd) (v:Vd):Cl:=⟨c.ns,c.ks,aQ (pl Vd.n (wo Vd.n v.n c.vs) v.n) v (wo Vd.n v.n c.vs),aQ (pl Xd.n (wo Xd.n x.n c.xs) x.n) x (wo Xd.n x.n c.xs),c.ps,c.now⟩
theorem Ss {xs:List α} (h:∀(j:Nat) x,xs[j]?=M x->¬nm x=t):wo nm t xs=xs:=List.filter_eq_self.2 λy hy=>by
 obtain⟨j,hj⟩:=YG hy;simp[bu (h j y hj)]
theorem vz {i j:Nat} {u:Vd} (hr:au c) (hx:c.xs[i]?=M x) (hu:c.vs[j]?=M u):kg c (bdX x u.n) (bdV u x.n)=dM c i j x u:=by
 unfold kg dM;rw[show (bdX x u.n).n=x.n from rfl,show (bdV u x.n).n=u.n from rfl,qT (y:=bdV u x.n) hr.2.1.2.2.1.2.2 hu rfl,qT (y:=bdX x u.n) hr.2.1.2.2.2.1.2.2 hx rfl]
theorem xF {i:Nat} (hr:au c) (hx:c.xs[i]?=M x) (hh:hit Vd.n c.vs (aC++x.n)=Zg):kg c (bdX x (aC++x.n)) (mkV x t)=dd c i x t:=by
 unfold kg dd;have h1:wo Vd.n (aC++x.n) c.vs=c.vs:=Ss (λj v hv e=>by
  have:=(bj hr.2.1.2.2.1.2.2 hv e).2;rw[hh] at this
  cases this)
 rw[show (bdX x (aC++x.n)).n=x.n from rfl,show (mkV x t).n=aC++x.n from rfl,h1,qT (y:=bdX x (aC++x.n)) hr.2.1.2.2.2.1.2.2 hx rfl]
def bH(c:Cl) (t:ByteArray) (o:Co):Prop:=
 (∃n,n<9/\AskWhy c t n/\o=co0 (aZ n))\/
 (¬8000<t.size/\au c/\∃(i:Nat) (x:Xd) (j:Nat) (k:Kd),c.xs[i]?=M x/\x.n=t/\c.ks[j]?=M k/\k.n=x.k/\
  ((¬x.v=⟨#[]⟩/\o=co0 7)\/(x.v=⟨#[]⟩/\((k.x=Zi/\o=co0 11)\/(k.x=Zg/\eM c i x k ⟨#[]⟩ o)))))
end Rc
theorem ai5 {a b:Bool} (h:a=b):Ending.returned (Zf a)=Zh (Zf b):=by rw[h]
theorem yo(v u:Vd) (va ua:Option Addr) (vl vc ul uc:Nat) (w:World):
  Calls Tryz.prog 154 #[Zj #[I v.n,V O v.c,I v.z,I v.k,Zf v.x,I v.m,Zf v.y,U va vl vc],Zj #[I u.n,V O u.c,I u.z,I u.k,Zf u.x,I u.m,Zf u.y,U ua ul uc]] w λe w'=>e=Zh (Zf (gW v u))/\Below w.heap.size w w':=by
 have HB:=G (aM w (Ze #[I v.n,V O v.c,I v.z,I v.k,Zf v.x,I v.m,Zf v.y,U va vl vc] 37) (Ze #[I u.n,V O u.c,I u.z,I u.k,Zf u.x,I u.m,Zf u.y,U ua ul uc] 37));by_cases h:v.c=u.c
 ·have h1:(v.c !=u.c)=Zg:=by simp[h]
  have HX:=G (show Yk v.n.toList u.n.toList=gW v u by simp[gW,h]);exact P4
 ·have h1:(v.c !=u.c)=Zi:=by simp[h]
  have HX:=G (show decide (v.c<u.c)=gW v u by simp[gW,h]);exact P4
theorem pI(a:Option Addr) (len cap:Nat) (vs:List Vd) (w:World) (hr:fY w a len cap vs):
  Calls Tryz.prog 151 #[U a len cap] w (ar (vs.length<=8/\∀(j:Nat) v,vs[j]?=M v->v.Ok) w):=by
 have HR:=G hr;have hvl:=hr.1;have hlc:=Yo hr.2.1 hr.2.2.1;clear hr;by_cases h8:8<len
 ·go_enter Tryz.func151,Tryz.ntmps151;go_wp2;go_ret;exact⟨Zg,rfl,⟨λh=>bJ,λh=>absurd h.1 af⟩,Yh _ _⟩
 go_enter Tryz.func151,Tryz.ntmps151;go_wp2;go_loopw [10] (λvi wr=> ∃(i:Nat),i<=len/\vi=V O i/\Hid (∀(j:Nat) v,j<i->vs[j]?=M v->v.Ok)/\Hid (Below w.heap.size w wr)) (λvi _=>len - (intOf vi).toNat);case atStart=>exact⟨0,by omega,rfl,λj v hj=>by omega,Yh _ _⟩
 case round=>
  obtain⟨i,hi,rfl,HA,HB⟩:=hrel;by_cases Zo:i<len
  ·obtain⟨b,o,v,rfl,hb,hv,hf,va,vl,vc,Zx,c0,c1,c2,c3,c4,c5,c6,c7⟩:=(HR.below HB.out).at Zo;have HV:=G hv;have HT:=G Zx;have HF:=G hf;clear hv Zx hf;go_wp2_with fail;refine (vM v.n v.c v.z v.k v.x v.m v.y va vl vc v.zs _ HF.1 HF.2.1 HF.2.2.1 HF.2.2.2 (HT.below (aj _ _))).mono ?_;rintro e w3 ⟨r,rfl,hr,Zy⟩;have Z7:=G (HB.trans ((fM Zy).2.1.mono HB.size));by_cases hq:r=Zi;case neg=>
    have HN:=G (λh=>hq (hr.2 h));clear hr Zy c0 c1 c2 c3 c4 c5 c6 c7;go_wp2_with fail;go_ret;exact⟨Zg,rfl,⟨λh=>bJ,λh=>(HN.out (h.2 i v HV.out)).elim⟩,Z7.out⟩
   have ξ:=hr.1 hq;subst hq;clear hr Zy c0 c1 c2 c3 c4 c5 c6 c7;go_wp2_with fail;refine⟨⟨i+1,by omega,by go_num,λj u hj hu=>?_,Z7⟩,by simp[intOf];omega⟩;by_cases e:j=i
   ·subst e;rw[HV.out] at hu;obtain rfl:=Yd hu;exact ξ
   ·exact HA.out j u af hu
  ·obtain rfl:i=len:=af
   go_wp2;go_ret;exact⟨Zi,rfl,⟨λ_=>⟨by omega,λj v hv=>HA.out j v (by have:=(Yc.1 hv).1;omega) hv⟩,λ_=>rfl⟩,HB.out⟩
theorem pE(a:Option Addr) (len cap:Nat) (vs:List Vd) (n':ByteArray) (c':Int) (k':ByteArray) (x':Bool) (v':ByteArray) (t:ByteArray) (w:World) (hn':n'.size<=9223372036854775807) (hk':k'.size<=9223372036854775807) (hv':v'.size<=9223372036854775807) (ht:t.size<=9223372036854775807) (hr:fY w a len cap vs) (awS:(400<vs.length\/8000<t.size)\/¬lH vs n' c' k' v' t):
  Calls Tryz.prog 93 #[U a len cap,Zj #[I n',V O c',I k',Zf x',I v'],I t] w (eU vs n' c' k' x' v' t w):=by
 have HR:=G hr;have hvl:=hr.1;have hlc:=Yo hr.2.1 hr.2.2.1;have ax1:=G awS;clear hr awS;by_cases hl4:400<len
 ·have HL:=G (show rD vs n' c' k' x' v' t vZ 2 from Zl ⟨Zl af,rfl,rfl⟩);go_enter Tryz.func93,Tryz.ntmps93;exact Re
 by_cases hl8:8000<t.size
 ·have HL:=G (show rD vs n' c' k' x' v' t vZ 2 from Zl ⟨Zk hl8,rfl,rfl⟩);go_enter Tryz.func93,Tryz.ntmps93;go_wp2_with fail;refine (n8 t _ hl8).mono ?_;rintro e w1 ⟨rfl,rfl⟩;exact Re
 have HL:=G (show¬(400<vs.length\/8000<t.size) by omega);have HBR:=G (ax1.resolve_left HL.out);go_enter Tryz.func93,Tryz.ntmps93;go_wp2_with fail;refine (mg t _ hl8).mono ?_;have asw:=@G _ @ac7;exact qB
theorem xC(a:Option Addr) (len cap:Nat) (v:Value) (fs:Array Value) (fn:Fn) (hv:v=.func fn #[] fs) (w:World):
  Calls Tryz.prog 152 #[U a len cap,v] w λe w'=>e=Zh (.func (.func 184) #[] #[Zm (M ⟨w.heap.size,0,J⟩),Zm (M ⟨w.heap.size+1,0,J⟩)])/\
   w'.heap[w.heap.size]?=M (Ze #[U a len cap] 25 (0,0))/\w'.heap[w.heap.size+1]?=M (Ze #[v] 141 (0,0))/\Below w.heap.size w w':=by
 subst hv;go_enter Tryz.func152,Tryz.ntmps152;go_wp2;go_ret;exact⟨rfl,du _ _ _,cL _ _ _,aM _ _ _⟩
attribute [local go_sem] Oper.semAt_some
structure Vx where
 v:Vd
 a:Option Addr
 len:Nat
 cap:Nat
def Vx.val(x:Vx):Value:=Zj #[I x.v.n,V O x.v.c,I x.v.z,I x.v.k,Zf x.v.x,I x.v.m,Zf x.v.y,U x.a x.len x.cap]
def KpB(h n₀:Nat) (W W':World):Prop:=W.heap.size<=W'.heap.size/\∀k,k<n₀->¬k=h->¬k=h+1->W'.heap[k]?=W.heap[k]?
theorem KpB.refl(h n₀:Nat) (W:World):KpB h n₀ W W:=⟨Ye _,λ_ _ _ _=>rfl⟩
theorem KpB.trans {A B C:World} (p:KpB h n₀ A B) (q:KpB h n₀ B C):KpB h n₀ A C:=⟨Yo p.1 q.1,λk h1 h2 h3=>(q.2 k h1 h2 h3).trans (p.2 k h1 h2 h3)⟩
theorem KpB.below {A B:World} (q:Below A.heap.size A B) (hn:n₀<=A.heap.size):KpB h n₀ A B:=⟨q.size,λk h1 _ _=>q.block k (by omega)⟩
theorem KpB.put(hn:n₀<=w.heap.size) (W:World) (l:Nat) (o o':Obj) (hl:w.heap.size<=l) (_:W.heap[l]?=M o) (_:o.isCells=Zg) (_:o.isWalk=Zg):KpB h n₀ W (W.putObj l o'):=
 ⟨by simp,λk h1 _ _=>World.putObj_heap_other (λe=>by omega)⟩
theorem cg(h:Below w.heap.size w w'):w.grownBy w' J:=⟨h.os,h.tape,h.output,h.size,λk hk _=>h.block k hk⟩
structure Sg (W:World) (a:Option Addr) (h lb fb cb zb b o len cap:Nat) (xl:List Vx) (n':ByteArray) (c':Int) (k':ByteArray) (x':Bool) (v':ByteArray) (t:ByteArray):Prop where
 l0:W.heap[lb]?=M (Ze #[U a len cap] 25 (0,0))
 f0:W.heap[fb]?=M (Ze #[.func (.func 185) #[] #[Zm (M ⟨cb,0,J⟩),Zm (M ⟨zb,0,J⟩)]] 141 (0,0))
 held:lf W cb zb n' c' k' x' v' t
 ll:xl.length=len
 ha:xl=[]\/a=M ⟨b,o,J⟩
 bl:b<W.heap.size
 ne:¬lb=h/\¬lb=h+1/\¬fb=h/\¬fb=h+1/\¬cb=h/\¬cb=h+1/\¬zb=h/\¬zb=h+1/\¬b=h/\¬b=h+1
 cell:∀(j:Nat) x,xl[j]?=M x->W.cell? ⟨b,o+j*8,J⟩=M (I x.v.n)/\W.cell? ⟨b,o+j*8+1,J⟩=M (V O x.v.c)/\W.cell? ⟨b,o+j*8+2,J⟩=M (I x.v.z)/\W.cell? ⟨b,o+j*8+3,J⟩=M (I x.v.k)/\
  W.cell? ⟨b,o+j*8+4,J⟩=M (Zf x.v.x)/\W.cell? ⟨b,o+j*8+5,J⟩=M (I x.v.m)/\W.cell? ⟨b,o+j*8+6,J⟩=M (Zf x.v.y)/\W.cell? ⟨b,o+j*8+7,J⟩=M (U x.a x.len x.cap)
theorem Sg.kept {a:Option Addr} {lb fb cb zb o len cap:Nat} {xl:List Vx} (i:Sg W a h lb fb cb zb b o len cap xl n' c' k' x' v' t) (hn:lb<n₀/\fb<n₀/\cb<n₀/\zb<n₀/\b<n₀) (k:KpB h n₀ W W'):
  Sg W' a h lb fb cb zb b o len cap xl n' c' k' x' v' t:=by
 obtain⟨e1,e2,e3,e4,e5,e6,e7,e8,e9,e10⟩:=i.ne;have hc:∀j,W'.cell? ⟨b,j,J⟩=W.cell? ⟨b,j,J⟩:=λj=>by simp[YX,k.2 b hn.2.2.2.2 e9 e10]
 refine⟨(k.2 _ hn.1 e1 e2).trans i.l0,(k.2 _ hn.2.1 e3 e4).trans i.f0,⟨(k.2 _ hn.2.2.1 e5 e6).trans i.held.1,(k.2 _ hn.2.2.2.1 e7 e8).trans i.held.2⟩,i.ll,i.ha,Yl i.bl k.1,i.ne,λj x hx=>?_⟩;simp only[hc];exact i.cell j x hx
theorem xD(n:Nat) (hn1:1<=n) (a:Option Addr) (h lb fb cb zb b o len cap n₀:Nat) (xl:List Vx) (n':ByteArray) (c':Int) (k':ByteArray) (x':Bool) (v':ByteArray) (t:ByteArray) (w:World) (hlen:len<=1000) (hi:Sg w a h lb fb cb zb b o len cap xl n' c' k' x' v' t) (hw:n₀=w.heap.size) (hn:lb<n₀/\fb<n₀/\cb<n₀/\zb<n₀/\b<n₀):
  SeqStopsK Fence.wide n Tryz.prog 184 #[Zm (M ⟨lb,0,J⟩),Zm (M ⟨fb,0,J⟩)] (λx:Vx=> #[x.val]) (KpB h n₀) (λxs=>xs=xl.filter λx=>svV c' k' x' t x.v) (λ_=>True) len w:=λl Z8 Jx W hW hJ hJx hY h0=>by
 have hiW:=hi.kept hn (KpB.below hW af);have hz:n₀<=W.heap.size:=by have:=hW.size;omega
 clear hi hW;have HI:=G hiW;have HAJ:=G hJ;have HY:=G hY;clear hJ hJx hY;have c0:=al hiW.l0 0;simp only[List.getElem?_toArray,List.getElem?_cons_zero] at c0;clear hiW;refine callsIn_of_wp Tryz.func184 rfl trivial ?_ rfl;simp only[Tryz.ntmps184,List.size_toArray,Y4,List.length_nil,Nat.reduceAdd,Nat.reduceSub,Array.replicate_succ,Array.replicate_zero,List.push_toArray,List.append_toArray,List.nil_append,List.cons_append];gi_wp2;gi_loopw [8] (λp wr=> ∃i:Nat,i<=len/\p=V O i/\Hid (KpB h n₀ W wr)/\Hid (Z8 ((xl.take i).filter λx=>svV c' k' x' t x.v) wr)) (λp _=>len - (intOf p).toNat);case atStart=>exact⟨0,by omega,rfl,KpB.refl _ _ _,h0⟩
 case round=>
  obtain⟨i,hi,rfl,HK,HJ⟩:=hrel;have hI:=HI.kept hn HK.out;have hzr:=Yo hz HK.1;by_cases Zo:i<len;case neg=>
   obtain rfl:i=len:=af
   have HE:Hid (Z8 (xl.filter λx=>svV c' k' x' t x.v) wr):=by have:=HJ.out;rw[YB (by have:=hI.ll;omega)] at this;exact this
   clear hI c0;gi_wp2;go_end0;exact⟨⟨_,rfl⟩,Zl ⟨_,rfl,HE.out⟩⟩
  have Z4:=hI.ll;obtain rfl:a=M ⟨b,o,J⟩:=by
   rcases hI.ha with h|h
   ·rw[h] at Z4;simp at Z4;omega
   ·exact h
  obtain⟨x,hx⟩:∃x,xl[i]?=M x:=⟨_,Yi af⟩;obtain⟨p0,p1,p2,p3,p4,p5,p6,p7⟩:=hI.cell i x hx;have hbf:=aj wr (Ze #[I x.v.n,V O x.v.c,I x.v.z,I x.v.k,Zf x.v.x,I x.v.m,Zf x.v.y,U x.a x.len x.cap] 37);have f0:=(ah hbf (ae hI.f0)).trans (al hI.f0 0);simp only[List.getElem?_toArray,List.getElem?_cons_zero] at f0;have HH:=G hI.held;have HX:=G hx;have azd:(i:Int)<len:=af
  clear hI hx hbf c0;gi_wp2_with fail;refine⟨trivial,(callsIn_wide.2 (aha x.v.n x.v.c x.v.z x.v.k x.v.x x.v.m x.v.y x.a x.len x.cap cb zb n' c' k' x' v' t _ (HH.below (aj _ _)))).mono ?_⟩;rintro e w2 ⟨rfl,ZG⟩;obtain⟨gv,Zy,-⟩:=fM ZG;have y0:=ck0 gv;have y1:=ck1 gv;have y2:=ck2 gv;have y3:=ck3 gv;have y4:=ck4 gv;have y5:=ck5 gv;have y6:=ck6 gv;have y7:=ck7 gv;have HK2:=G (HK.trans (KpB.below (h:=h) Zy hzr));have HJ2:=G (HAJ.out _ _ _ _ HJ.out (cg Zy) (λr e=>by cases e));clear gv ZG Zy p0 p1 p2 p3 p4 p5 p6 p7 f0;have hsv:svB x.v.c x.v.z x.v.k x.v.x x.v.m x.v.y c' k' x' t=svV c' k' x' t x.v:=rfl;rw[hsv];clear hsv;cases hs:svV c' k' x' t x.v
  ·have he:Z8 ((xl.take (i+1)).filter λx=>svV c' k' x' t x.v) w2:=by have:=HJ2.out;rw[YM,HX.out,List.filter_append];simpa[hs] using this
   have HE:=G he;clear hs he;gi_wp2;refine⟨λ_ h=>bJ,?_⟩;gi_wp2;go_roundw;case rel=>exact⟨i+1,by omega,by go_num,HK2,HE⟩
   case measure=>simp[intOf];omega
  have hfl:((xl.take i).filter λx=>svV c' k' x' t x.v).length<len:=by
   have h1:=List.length_filter_le (λx:Vx=>svV c' k' x' t x.v) (xl.take i);have h2:(xl.take i).length<=i:=List.length_take_le _ _;omega
  obtain⟨fn,tmps,assign,body,hy,hR⟩:=HY.out _ x w2 HJ2.out hfl;dsimp only[Vx.val] at hy;have HS:=G hs;clear hs;gi_wp2;refine hR.mono ?_;rintro e W3 (⟨rfl,hJ3,hk3⟩|⟨rfl,awT⟩)
  ·have he:Z8 ((xl.take (i+1)).filter λx=>svV c' k' x' t x.v) W3:=by rw[YM,HX.out,List.filter_append];simpa[HS.out] using hJ3
   have HE:=G he;clear he;have HK3:=G (HK2.trans hk3);clear hJ3 hk3 hR hy y0 y1 y2 y3 y4 y5 y6 y7;gi_wp2;go_roundw;case rel=>exact⟨i+1,by omega,by go_num,HK3,HE⟩
   case measure=>simp[intOf];omega
  ·have HE:=G awT;clear awT hR hy y0 y1 y2 y3 y4 y5 y6 y7;gi_wp2;refine bodyPost_ret (results_none rfl _ _ _) rfl ?_;exact⟨⟨_,rfl⟩,Zk ⟨_,trivial,HE.out⟩⟩
attribute [local go_sem] Oper.semAt_some
theorem fY.xs {a:Option Addr} {len cap:Nat} {vs:List Vd} (h:fY w a len cap vs):∃(xl:List Vx) (b o:Nat),xl.map Vx.v=vs/\xl.length=len/\(xl=[]\/(a=M ⟨b,o,J⟩/\b<w.heap.size))/\
  ∀(j:Nat) x,xl[j]?=M x->aw w x.a x.len x.cap x.v.zs/\w.cell? ⟨b,o+j*8,J⟩=M (I x.v.n)/\w.cell? ⟨b,o+j*8+1,J⟩=M (V O x.v.c)/\w.cell? ⟨b,o+j*8+2,J⟩=M (I x.v.z)/\w.cell? ⟨b,o+j*8+3,J⟩=M (I x.v.k)/\
   w.cell? ⟨b,o+j*8+4,J⟩=M (Zf x.v.x)/\w.cell? ⟨b,o+j*8+5,J⟩=M (I x.v.m)/\w.cell? ⟨b,o+j*8+6,J⟩=M (Zf x.v.y)/\w.cell? ⟨b,o+j*8+7,J⟩=M (U x.a x.len x.cap):=by
 obtain⟨h1,h2,h3,h5⟩:=h;rcases h5 with rfl|⟨b,o,rfl,Zo,hc⟩
 ·exact⟨[],0,0,rfl,by simpa using h1,Zl rfl,λj x hx=>by simp at hx⟩
 ·have hh:∀(j:Nat) v,vs[j]?=M v->∃x:Vx,x.v=v/\(aw w x.a x.len x.cap x.v.zs/\w.cell? ⟨b,o+j*8,J⟩=M (I x.v.n)/\w.cell? ⟨b,o+j*8+1,J⟩=M (V O x.v.c)/\w.cell? ⟨b,o+j*8+2,J⟩=M (I x.v.z)/\w.cell? ⟨b,o+j*8+3,J⟩=M (I x.v.k)/\
    w.cell? ⟨b,o+j*8+4,J⟩=M (Zf x.v.x)/\w.cell? ⟨b,o+j*8+5,J⟩=M (I x.v.m)/\w.cell? ⟨b,o+j*8+6,J⟩=M (Zf x.v.y)/\w.cell? ⟨b,o+j*8+7,J⟩=M (U x.a x.len x.cap)):=λj v hv=>by
   obtain⟨-,a',l',c',q⟩:=hc j v hv;exact⟨⟨v,a',l',c'⟩,rfl,q⟩
  have key:∀(n:Nat),n<=vs.length->∃xl:List Vx,xl.map Vx.v=vs.take n/\∀(j:Nat) x,xl[j]?=M x->(aw w x.a x.len x.cap x.v.zs/\w.cell? ⟨b,o+j*8,J⟩=M (I x.v.n)/\w.cell? ⟨b,o+j*8+1,J⟩=M (V O x.v.c)/\w.cell? ⟨b,o+j*8+2,J⟩=M (I x.v.z)/\w.cell? ⟨b,o+j*8+3,J⟩=M (I x.v.k)/\
    w.cell? ⟨b,o+j*8+4,J⟩=M (Zf x.v.x)/\w.cell? ⟨b,o+j*8+5,J⟩=M (I x.v.m)/\w.cell? ⟨b,o+j*8+6,J⟩=M (Zf x.v.y)/\w.cell? ⟨b,o+j*8+7,J⟩=M (U x.a x.len x.cap)):=by
   intro n
   induction n with
   | zero=>exact λ_=>⟨[],by simp,λj x hx=>by simp at hx⟩
   | succ n ih=>
    intro hn;obtain⟨xl,e1,e2⟩:=ih af
    have hl:xl.length=n:=by have:=congrArg List.length e1;simp at this;omega
    obtain⟨x,hxv,hx⟩:=hh n (vs[n]'(by omega)) (Yi _);refine⟨xl++[x],?_,λj y hy=>?_⟩
    ·rw[YM,<-e1,Yi (show n<vs.length by omega)]
     simp[hxv]
    ·by_cases e:j<xl.length
     ·rw[Yu e] at hy;exact e2 j y hy
     ·rw[List.getElem?_append_right af] at hy
      have hj:j - xl.length=0:=by
       rcases Nat.eq_zero_or_pos (j - xl.length) with h|h
       ·exact h
       ·rw[List.getElem?_eq_none bg] at hy;cases hy
      rw[hj] at hy;obtain rfl:=Yd (show M x=M y from hy)
      obtain rfl:j=n:=af
      exact hx
  obtain⟨xl,e1,e2⟩:=key vs.length (Ye _);rw[List.take_length] at e1;refine⟨xl,b,o,e1,by have:=congrArg List.length e1;simp at this;omega,Zk ⟨rfl,Zo⟩,e2⟩
def stepX(acc:Option Vx) (x:Vx):Option Vx:=match acc with|J=>M x|M u=>if gW x.v u.v=Zi then M x else M u
def iw(xs:List Vx):Option Vx:=xs.foldl stepX J
theorem oe(xs:List Vx) (x:Vx):iw (xs++[x])=stepX (iw xs) x:=by simp[iw]
theorem CB(sv:Vd->Bool) (xs:List Vx):∀acc:Option Vx,((xs.filter λx=>sv x.v).foldl stepX acc).map Vx.v=(xs.map Vx.v).foldl (stepB sv) (acc.map Vx.v):=by
 induction xs with
 | nil=>intro acc;simp
 | cons x xs ih=>
  intro acc
  cases hs:sv x.v
  ·simp only[List.filter_cons,hs,Bool.false_eq_true,if_false,List.map_cons,List.foldl_cons];rw[ih acc]
   congr 1
   simp[stepB,hs]
  ·simp only[List.filter_cons,hs,if_true,List.map_cons,List.foldl_cons];rw[ih]
   congr 1
   cases acc with
   | none=>simp[stepX,stepB,hs]
   | some u=>
    simp only[stepX,stepB,hs,Option.map_some,Bool.true_and]
    split <;> simp
theorem CA(sv:Vd->Bool) (xs:List Vx):(iw (xs.filter λx=>sv x.v)).map Vx.v=dG sv (xs.map Vx.v):=CB sv xs J
theorem CC(xs:List Vx):∀acc x,xs.foldl stepX acc=M x->x∈xs\/acc=M x:=by
 induction xs with
 | nil=>intro acc x h;exact Zk h
 | cons y ys ih=>
  intro acc x h
  rcases ih _ _ h with h1|h1
  ·exact Zl (List.mem_cons_of_mem _ h1)
  ·cases acc with
   | none=>simp[stepX] at h1;subst h1;exact Zl Y5
   | some u=>
    simp only[stepX] at h1
    split at h1
    ·obtain rfl:=Yd h1;exact Zl Y5
    ·exact Zk h1
theorem amG {u0 u1 u2 u3 u4 u5 u6 u7:Value} (h:w.heap[b]?=M (Ze #[u0,u1,u2,u3,u4,u5,u6,u7] T (0,0))):
  ((((((((w.setCell ⟨b,0,J⟩ v0).setCell ⟨b,1,J⟩ v1).setCell ⟨b,2,J⟩ v2).setCell ⟨b,3,J⟩ v3).setCell ⟨b,4,J⟩ v4).setCell ⟨b,5,J⟩ v5).setCell ⟨b,6,J⟩ v6).setCell ⟨b,7,J⟩ v7).heap[b]?=M (Ze #[v0,v1,v2,v3,v4,v5,v6,v7] T (0,0)):=by
 have h0:(w.setCell ⟨b,0,J⟩ v0).heap[b]?=M (Ze #[v0,u1,u2,u3,u4,u5,u6,u7] T (0,0)):=an h v0;have h1:((w.setCell ⟨b,0,J⟩ v0).setCell ⟨b,1,J⟩ v1).heap[b]?=M (Ze #[v0,v1,u2,u3,u4,u5,u6,u7] T (0,0)):=an h0 v1;have h2:(((w.setCell ⟨b,0,J⟩ v0).setCell ⟨b,1,J⟩ v1).setCell ⟨b,2,J⟩ v2).heap[b]?=M (Ze #[v0,v1,v2,u3,u4,u5,u6,u7] T (0,0)):=an h1 v2;have h3:((((w.setCell ⟨b,0,J⟩ v0).setCell ⟨b,1,J⟩ v1).setCell ⟨b,2,J⟩ v2).setCell ⟨b,3,J⟩ v3).heap[b]?=M (Ze #[v0,v1,v2,v3,u4,u5,u6,u7] T (0,0)):=an h2 v3;have h4:(((((w.setCell ⟨b,0,J⟩ v0).setCell ⟨b,1,J⟩ v1).setCell ⟨b,2,J⟩ v2).setCell ⟨b,3,J⟩ v3).setCell ⟨b,4,J⟩ v4).heap[b]?=M (Ze #[v0,v1,v2,v3,v4,u5,u6,u7] T (0,0)):=an h3 v4;have h5:((((((w.setCell ⟨b,0,J⟩ v0).setCell ⟨b,1,J⟩ v1).setCell ⟨b,2,J⟩ v2).setCell ⟨b,3,J⟩ v3).setCell ⟨b,4,J⟩ v4).setCell ⟨b,5,J⟩ v5).heap[b]?=M (Ze #[v0,v1,v2,v3,v4,v5,u6,u7] T (0,0)):=an h4 v5;have h6:(((((((w.setCell ⟨b,0,J⟩ v0).setCell ⟨b,1,J⟩ v1).setCell ⟨b,2,J⟩ v2).setCell ⟨b,3,J⟩ v3).setCell ⟨b,4,J⟩ v4).setCell ⟨b,5,J⟩ v5).setCell ⟨b,6,J⟩ v6).heap[b]?=M (Ze #[v0,v1,v2,v3,v4,v5,v6,u7] T (0,0)):=an h5 v6;have h7:((((((((w.setCell ⟨b,0,J⟩ v0).setCell ⟨b,1,J⟩ v1).setCell ⟨b,2,J⟩ v2).setCell ⟨b,3,J⟩ v3).setCell ⟨b,4,J⟩ v4).setCell ⟨b,5,J⟩ v5).setCell ⟨b,6,J⟩ v6).setCell ⟨b,7,J⟩ v7).heap[b]?=M (Ze #[v0,v1,v2,v3,v4,v5,v6,v7] T (0,0)):=an h6 v7;exact h7
def alv:Option Vx->Array Value
 | none=> #[I ⟨#[]⟩,V O 0,I ⟨#[]⟩,I ⟨#[]⟩,Zf Zg,I ⟨#[]⟩,Zf Zg,U J 0 0]
 | some x=> #[I x.v.n,V O x.v.c,I x.v.z,I x.v.k,Zf x.v.x,I x.v.m,Zf x.v.y,U x.a x.len x.cap]
def BI(w w5:World) (h:Nat) (pre:List Vx) (W:World):Prop:=
 (W.heap[h]?=M (Ze (alv (iw pre)) 37 (0,0))/\W.heap[h+1]?=M (Ze #[Zf (iw pre).isSome] 4 (0,0)))/\KpB h w5.heap.size w5 W/\Below w.heap.size w W
theorem BI.own(w w5:World) (h:Nat) (hh:h+1<w5.heap.size) (hw:w.heap.size<=w5.heap.size):OwnFrom w5.heap.size (BI w w5 h):=by
 intro s A B row hs hg hr;obtain⟨⟨h1,h2⟩,h3,h4⟩:=hs;have hk:∀k,k<w5.heap.size->B.heap[k]?=A.heap[k]?:=λk hk=>hg.block k (Yl hk h3.1) (λe=>by have:=(hr k e.symm).1;omega);exact⟨⟨(hk h af).trans h1,(hk (h+1) hh).trans h2⟩,⟨Yo h3.1 hg.size,λk q1 q2 q3=>(hk k q1).trans (h3.2 k q1 q2 q3)⟩,h4.trans ⟨hg.os,hg.tape,hg.output,hg.size,λk q=>hk k af⟩⟩
theorem BI.below {w5:World} {pre:List Vx} (hi:BI w w5 h pre W) (hh:h+1<w5.heap.size) (hw:w.heap.size<=w5.heap.size) (hb:Below W.heap.size W W'):BI w w5 h pre W':=
 BI.own w w5 h hh hw pre W W' J hi (cg hb) (λr e=>by cases e)
theorem vI(hb:Below W.heap.size W W'):KeepsFrom B W W':=(KeepsOthers.of_grownBy (cg hb) (λj o h=>by cases h)).from B
theorem BI.put {w5:World} {pre:List Vx} {x:Vx} (hi:BI w w5 h pre W) (hw:w.heap.size<=h) (hs:stepX (iw pre) x=M x):BI w w5 h (pre++[x]) (((((((((W.setCell ⟨h,0,J⟩ (I x.v.n)).setCell ⟨h,1,J⟩ (V O x.v.c)).setCell ⟨h,2,J⟩ (I x.v.z)).setCell ⟨h,3,J⟩ (I x.v.k)).setCell ⟨h,4,J⟩ (Zf x.v.x)).setCell ⟨h,5,J⟩ (I x.v.m)).setCell ⟨h,6,J⟩ (Zf x.v.y)).setCell ⟨h,7,J⟩ (U x.a x.len x.cap)).setCell ⟨h+1,0,J⟩ (Zf Zi)):=by
 obtain⟨⟨h1,h2⟩,h3,h4⟩:=hi;have e:iw (pre++[x])=M x:=by rw[oe];exact hs
 unfold BI;rw[e];have h1':∃u0 u1 u2 u3 u4 u5 u6 u7,W.heap[h]?=M (Ze #[u0,u1,u2,u3,u4,u5,u6,u7] 37 (0,0)):=by
  cases hb:iw pre with
  | none=>rw[hb] at h1;exact⟨_,_,_,_,_,_,_,_,h1⟩
  | some u=>rw[hb] at h1;exact⟨_,_,_,_,_,_,_,_,h1⟩
 obtain⟨u0,u1,u2,u3,u4,u5,u6,u7,h1'⟩:=h1';refine⟨⟨(Ya _ _ _ _ (show h≠h+1 by omega)).trans (amG h1'),?_⟩,⟨by simpa[YV] using h3.1,λk q1 q2 q3=>?_⟩,?_⟩
 ·have h2':((((((((W.setCell ⟨h,0,J⟩ (I x.v.n)).setCell ⟨h,1,J⟩ (V O x.v.c)).setCell ⟨h,2,J⟩ (I x.v.z)).setCell ⟨h,3,J⟩ (I x.v.k)).setCell ⟨h,4,J⟩ (Zf x.v.x)).setCell ⟨h,5,J⟩ (I x.v.m)).setCell ⟨h,6,J⟩ (Zf x.v.y)).setCell ⟨h,7,J⟩ (U x.a x.len x.cap)).heap[h+1]?=W.heap[h+1]?:=by
   rw[Ya _ _ _ _ (show h+1≠h by omega),Ya _ _ _ _ (show h+1≠h by omega),Ya _ _ _ _ (show h+1≠h by omega),Ya _ _ _ _ (show h+1≠h by omega),Ya _ _ _ _ (show h+1≠h by omega),Ya _ _ _ _ (show h+1≠h by omega),Ya _ _ _ _ (show h+1≠h by omega),Ya _ _ _ _ (show h+1≠h by omega)]
  exact an (h2'.trans h2) _
 ·rw[Ya _ _ _ _ (show k≠h+1 by omega),Ya _ _ _ _ (show k≠h by omega),Ya _ _ _ _ (show k≠h by omega),Ya _ _ _ _ (show k≠h by omega),Ya _ _ _ _ (show k≠h by omega),Ya _ _ _ _ (show k≠h by omega),Ya _ _ _ _ (show k≠h by omega),Ya _ _ _ _ (show k≠h by omega),Ya _ _ _ _ (show k≠h by omega)];exact h3.2 k q1 q2 q3
 ·exact ai af (ai hw (ai hw (ai hw (ai hw (ai hw (ai hw (ai hw (ai hw h4))))))))
theorem BI.kp {W:World} {h n₀:Nat} {x:Vx} :KpB h n₀ W (((((((((W.setCell ⟨h,0,J⟩ (I x.v.n)).setCell ⟨h,1,J⟩ (V O x.v.c)).setCell ⟨h,2,J⟩ (I x.v.z)).setCell ⟨h,3,J⟩ (I x.v.k)).setCell ⟨h,4,J⟩ (Zf x.v.x)).setCell ⟨h,5,J⟩ (I x.v.m)).setCell ⟨h,6,J⟩ (Zf x.v.y)).setCell ⟨h,7,J⟩ (U x.a x.len x.cap)).setCell ⟨h+1,0,J⟩ (Zf Zi)):=by
 refine⟨by simp[YV],λk q1 q2 q3=>?_⟩;rw[Ya _ _ _ _ (show k≠h+1 by omega),Ya _ _ _ _ (show k≠h by omega),Ya _ _ _ _ (show k≠h by omega),Ya _ _ _ _ (show k≠h by omega),Ya _ _ _ _ (show k≠h by omega),Ya _ _ _ _ (show k≠h by omega),Ya _ _ _ _ (show k≠h by omega),Ya _ _ _ _ (show k≠h by omega),Ya _ _ _ _ (show k≠h by omega)]
theorem BI.kf {x:Vx} :KeepsFrom B W (((((((((W.setCell ⟨h,0,J⟩ (I x.v.n)).setCell ⟨h,1,J⟩ (V O x.v.c)).setCell ⟨h,2,J⟩ (I x.v.z)).setCell ⟨h,3,J⟩ (I x.v.k)).setCell ⟨h,4,J⟩ (Zf x.v.x)).setCell ⟨h,5,J⟩ (I x.v.m)).setCell ⟨h,6,J⟩ (Zf x.v.y)).setCell ⟨h,7,J⟩ (U x.a x.len x.cap)).setCell ⟨h+1,0,J⟩ (Zf Zi)):=
 ((((((((((Y2 W ⟨h,0,J⟩ _).trans (Y2 _ ⟨h,1,J⟩ _)).trans (Y2 _ ⟨h,2,J⟩ _)).trans (Y2 _ ⟨h,3,J⟩ _)).trans (Y2 _ ⟨h,4,J⟩ _)).trans (Y2 _ ⟨h,5,J⟩ _)).trans (Y2 _ ⟨h,6,J⟩ _)).trans (Y2 _ ⟨h,7,J⟩ _)).trans (Y2 _ ⟨h+1,0,J⟩ _)).from B)
theorem fD(h:¬k=b):(((((((((w.setCell ⟨b,0,J⟩ v0).setCell ⟨b,1,J⟩ v1).setCell ⟨b,2,J⟩ v2).setCell ⟨b,3,J⟩ v3).setCell ⟨b,4,J⟩ v4).setCell ⟨b,5,J⟩ v5).setCell ⟨b,6,J⟩ v6).setCell ⟨b,7,J⟩ v7).setCell ⟨b,8,J⟩ v8).heap[k]?=w.heap[k]?:=by
 rw[Ya _ _ _ _ h,Ya _ _ _ _ h,Ya _ _ _ _ h,Ya _ _ _ _ h,Ya _ _ _ _ h,Ya _ _ _ _ h,Ya _ _ _ _ h,Ya _ _ _ _ h,Ya _ _ _ _ h]
theorem agS {X:World} {a:Option Addr} {p D:Nat} (h:Ap.cj zs w a l p X) (hK:X.heap[D]?=M (.deferred (M []))) (hD:w.heap.size<=D):Ap.cj zs w a l p (X.putObj D o):=by
 obtain⟨⟨h1,h2,h3,h4,h5⟩,h6,h7⟩:=h;have hb:Below w.heap.size w (X.putObj D o):=h7.trans (belowK_b (w:=w) (Ye _) X D _ _ hD hK rfl rfl);rcases h6 with h6|⟨g,cur,rfl,hg,hh⟩
 ·exact⟨⟨h1,h2,h3,h4,Zl h6⟩,Zl h6,hb⟩
 ·have ZE:g≠D:=λe=>by subst e;rw[hh] at hK;cases hK
  have hs:(X.putObj D o).heap[g]?=X.heap[g]?:=World.putObj_heap_other ZE;refine⟨⟨h1,h2,h3,h4,?_⟩,Zk ⟨g,cur,rfl,hg,hs.trans hh⟩,hb⟩;rcases h5 with h5|⟨g',q,e,hl,hc⟩
  ·exact Zl h5
  ·cases e;exact Zk ⟨g,0,rfl,by simpa using hl,λj x hx=>by have:=hc j x hx;simp only[YX,hs] at this ⊢;exact this⟩
theorem vR(a:Option Addr) (len cap:Nat) (vs:List Vd) (n':ByteArray) (c':Int) (k':ByteArray) (x':Bool) (v':ByteArray) (t:ByteArray) (w:World) (hn':n'.size<=9223372036854775807) (hk':k'.size<=9223372036854775807) (hv':v'.size<=9223372036854775807) (ht:t.size<=9223372036854775807) (hr:fY w a len cap vs) (hl:¬(400<vs.length\/8000<t.size)) (hR:lH vs n' c' k' v' t):
  Calls Tryz.prog 93 #[U a len cap,Zj #[I n',V O c',I k',Zf x',I v'],I t] w (eU vs n' c' k' x' v' t w):=by
 have HR:=G hr;have hvl:=hr.1;have hl4:¬400<len:=af
 have hl8:¬8000<t.size:=af
 have HRR:=G hR;have HL:=G hl;clear hr hR hl;refine (callsIn_wide (n:=6)).1 ?_;refine callsIn_of_wp_marks Tryz.func93 rfl trivial ?_ rfl;simp only[Tryz.ntmps93,List.size_toArray,Y4,List.length_nil,Nat.reduceAdd,Nat.reduceSub,Array.replicate_succ,Array.replicate_zero,List.push_toArray,List.append_toArray,List.nil_append,List.cons_append];refine wpIn_wide.2 ?_;go_wp2_with fail;refine (mg t _ hl8).mono ?_;have asw:=@G _ @ac6;exact qB
theorem Cq(a:Option Addr) (len cap:Nat) (vs:List Vd) (n':ByteArray) (c':Int) (k':ByteArray) (x':Bool) (v':ByteArray) (t:ByteArray) (w:World) (hn':n'.size<=9223372036854775807) (hk':k'.size<=9223372036854775807) (hv':v'.size<=9223372036854775807) (ht:t.size<=9223372036854775807) (hr:fY w a len cap vs):
  Calls Tryz.prog 93 #[U a len cap,Zj #[I n',V O c',I k',Zf x',I v'],I t] w (eU vs n' c' k' x' v' t w):=by
 by_cases h1:400<vs.length\/8000<t.size
 ·exact pE a len cap vs n' c' k' x' v' t w hn' hk' hv' ht hr (Zl h1)
 by_cases h2:lH vs n' c' k' v' t
 ·exact vR a len cap vs n' c' k' x' v' t w hn' hk' hv' ht hr h1 h2
 ·exact pE a len cap vs n' c' k' x' v' t w hn' hk' hv' ht hr (Zk h2)
namespace Rc
theorem Bh {v9 v10 v11:Value} (h:w.heap[b]?=M (Ze #[v0,v1,v2,v3,v4,v5,v6,v7,v8,v9,v10,v11] T (0,0))):w.cell? ⟨b,0,J⟩=M v0/\w.cell? ⟨b,1,J⟩=M v1/\w.cell? ⟨b,2,J⟩=M v2/\w.cell? ⟨b,3,J⟩=M v3/\w.cell? ⟨b,4,J⟩=M v4/\w.cell? ⟨b,5,J⟩=M v5/\w.cell? ⟨b,6,J⟩=M v6/\w.cell? ⟨b,7,J⟩=M v7/\w.cell? ⟨b,8,J⟩=M v8/\w.cell? ⟨b,9,J⟩=M v9/\w.cell? ⟨b,10,J⟩=M v10/\w.cell? ⟨b,11,J⟩=M v11:=⟨al h 0,al h 1,al h 2,al h 3,al h 4,al h 5,al h 6,al h 7,al h 8,al h 9,al h 10,al h 11⟩
theorem anE(h:w.heap[b]?=M (Ze #[v0,v1,v2,v3,v4,v5,v6,v7,v8] T (0,0))):w.cell? ⟨b,0,J⟩=M v0/\w.cell? ⟨b,1,J⟩=M v1/\w.cell? ⟨b,2,J⟩=M v2/\w.cell? ⟨b,3,J⟩=M v3/\w.cell? ⟨b,4,J⟩=M v4/\w.cell? ⟨b,5,J⟩=M v5/\w.cell? ⟨b,6,J⟩=M v6/\w.cell? ⟨b,7,J⟩=M v7/\w.cell? ⟨b,8,J⟩=M v8:=⟨al h 0,al h 1,al h 2,al h 3,al h 4,al h 5,al h 6,al h 7,al h 8⟩
def ErF(c:Cl) (x:Xd) (E:Nat->Addr):Fact:=λv _=>(∃i,i<9/\((i=3/\hit Vd.n c.vs (aC++x.n)=Zi)\/(i=4/\hit Vd.n c.vs (aC++x.n)=Zg/\¬c.vs.length<8))/\v=.iface 217 (Zm (M (E i))))\/(hit Vd.n c.vs (aC++x.n)=Zg/\c.vs.length<8/\v=.nilIface)
theorem ErF.mono(c:Cl) (x:Xd) (E:Nat->Addr):Fact.bT (ErF c x E):=λ_ _ _ h _=>h
theorem RA(d:Ad) (c:Cl) (x:Xd) (j:Nat) (k:Kd) (E:Nat->Addr) (w:World) (hr:aA w d c.raw) (hG:Ers w E) (hk:c.ks[j]?=M k) (Γ:k.n=x.k) (hri:aH Kd.n c.ks):
  Calls Tryz.prog 23 #[Zj (Zs d c.now),Zj #[I x.n,V O x.z,I x.k,Zf x.x,I x.v]] w λe w'=>Below w.heap.size w w'/\((¬x.v=⟨#[]⟩/\e=Zh (.iface 217 (Zm (M (E 6)))))\/(x.v=⟨#[]⟩/\k.x=Zi/\e=Zh (.iface 217 (Zm (M (E 7)))))\/(x.v=⟨#[]⟩/\k.x=Zg/\e=Zh .nilIface)):=by
 unfold Zs;have HR:=G hr;have HE:=G hG;have HK:=G (Yb hk Γ);have HRI:=G hri;have HB:=G (Yh w.heap.size w);clear hr hG hk Γ hri;by_cases hv:x.v=⟨#[]⟩;rotate_left
 ·have hq:=aU hv;have HV:=G hv;clear hv;have ev:=(HE.below (aM w (Ze (Zs d c.now) 29) (Ze (xov x) 47))).v6;go_enter Tryz.func23,Tryz.ntmps23;go_wp2;go_ret;exact⟨aM _ _ _,Zl ⟨HV.out,rfl⟩⟩
 have hq:=cw hv;have HV:=G hv;clear hv;go_enter Tryz.func23,Tryz.ntmps23;have asN:=@G _ @E5;exact sD
theorem x8(d:Ad) (c:Cl) (x:Xd) (t:ByteArray) (E:Nat->Addr) (w:World) (hr:aA w d c.raw) (hG:Ers w E) (hR:lH c.vs x.n x.z x.k x.v t) (h8:c.vs.length<=8) (ht:t.size<=20) (z0:x.n.size<=9223372036854775807) (z2:x.k.size<=9223372036854775807) (z4:x.v.size<=9223372036854775807):
  Calls Tryz.prog 47 #[Zj #[U d.a1 d.l1 d.c1,U d.a2 d.l2 d.c2,U d.a3 d.l3 d.c3,U d.a4 d.l4 d.c4,U d.a5 d.l5 d.c5,V O c.now,I x.n,V O x.z,I x.k,Zf x.x,I x.v,I t]] w λe w'=>Below w.heap.size w w'/\((dG (svV x.z x.k x.x t) c.vs=J/\e=Zh (Zn #[Zj #[I ⟨#[]⟩,V O 0,I ⟨#[]⟩,I ⟨#[]⟩,Zf Zg,I ⟨#[]⟩,Zf Zg,U J 0 0],.iface 217 (Zm (M (E 2)))]))\/(∃u va vl vc,dG (svV x.z x.k x.x t) c.vs=M u/\e=Zh (Zn #[Zj #[I u.n,V O u.c,I u.z,I u.k,Zf u.x,I u.m,Zf u.y,U va vl vc],.nilIface])/\bG w' va vl vc u.zs (λk=>w.heap.size<=k))):=by
 have HR:=G hr;have HE:=G hG;have HBR:=G hR;have HZ:=G (Yb z0 (Yb z2 z4));have HB:=G (Yh w.heap.size w);clear hr hG hR z0 z2 z4;go_enter Tryz.func47,Tryz.ntmps47;go_wp2_with fail;refine (Cq d.a3 d.l3 d.c3 c.vs x.n x.z x.k x.x x.v t _ HZ.1 HZ.2.1 HZ.2.2 af (ahu (HR.v.below (HB.trans ((aM _ _ _).mono HB.size))))).mono ?_;rintro e w1 ⟨u,p,va,vl,vc,rfl,hIs,hT,hO,hb⟩;have HT:Hid (bG w1 va vl vc u.zs (λk=>w.heap.size+1+1<=k)):=⟨hT,hO.imp id λ⟨g,cur,e1,e2,e3⟩=>⟨g,cur,e1,by simpa using e2,e3⟩⟩;clear hT hO;obtain⟨ZD,Ν,Zr⟩:=dK hb;have Bs:=G ZD;have Br:=G Ν;replace HB:=upB HB Zr;clear hb Zr ZD Ν;rcases hIs with ⟨h,-,-⟩|⟨-,h,-,-⟩|⟨-,-,hbv,rfl,rfl⟩|⟨-,-,hbv,rfl⟩
 ·omega
 ·exact absurd HBR.out h
 ·have HBV:=G hbv;clear hbv;have ev:=(HE.below HB.out).v2;have awK:=a_ ev;have evl:=a_ HE.v2;obtain⟨r0,r1,r2,r3,r4,r5,r6,r7⟩:=cs8 Br;have aoZ:=ae Br.out;obtain⟨ZR,ZS,ZT,ZU,ZV,ZY,Z1,Z2⟩:=dD;go_wp2;go_region;go_wp2;exact bodyPost_ret (v:=Zn #[Zj #[I ⟨#[]⟩,V O 0,I ⟨#[]⟩,I ⟨#[]⟩,Zf Zg,I ⟨#[]⟩,Zf Zg,U J 0 0],.iface 217 (Zm (M (E 2)))]) (by simp[results,Tryz.results47,go_sem, *]) rfl ⟨Below.gT (Below.alloc (sb1 (sb1 (sb1 (sb1 (sb1 (sb1 (sb1 (sb1 (HB.out))))))))) oZ _),Zl ⟨HBV.out,rfl⟩⟩
 have HBV:=G hbv;clear hbv;obtain⟨r0,r1,r2,r3,r4,r5,r6,r7⟩:=cs8 Br;have aoZ:=ae Br.out;obtain⟨ZR,ZS,ZT,ZU,ZV,ZY,Z1,Z2⟩:=dD;go_wp2;exact bodyPost_ret (v:=Zn #[Zj #[I u.n,V O u.c,I u.z,I u.k,Zf u.x,I u.m,Zf u.y,U va vl vc],.nilIface]) (by simp[results,Tryz.results47,go_sem, *]) rfl ⟨Below.alloc (sb1 (sb1 (sb1 (sb1 (sb1 (sb1 (sb1 (sb1 (HB.out))))))))) oZ _,Zk ⟨u,va,vl,vc,HBV.out,rfl,HT.ay (λk hk s=>by have s1:w.heap.size+1+1<=k:=s;exact (Yj _ _ _ (by simpa using hk)).trans (by rw[Ya _ _ _ _ (show k≠w.heap.size+1 by omega),Ya _ _ _ _ (show k≠w.heap.size+1 by omega),Ya _ _ _ _ (show k≠w.heap.size+1 by omega),Ya _ _ _ _ (show k≠w.heap.size+1 by omega),Ya _ _ _ _ (show k≠w.heap.size+1 by omega),Ya _ _ _ _ (show k≠w.heap.size+1 by omega),Ya _ _ _ _ (show k≠w.heap.size+1 by omega),Ya _ _ _ _ (show k≠w.heap.size+1 by omega)])) (λk _ s=>by have s1:w.heap.size+1+1<=k:=s;show w.heap.size<=k;omega)⟩⟩
theorem Cp(d:Ad) (c:Cl) (x:Xd) (t:ByteArray) (j:Nat) (k:Kd) (zo:ByteArray) (E:Nat->Addr) (w:World) (hr:aA w d c.raw) (hG:Ers w E) (hT:au c) (hx:iT x.n x.z x.k x.v) (hk:c.ks[j]?=M k) (Γ:k.n=x.k) (ht:t=⟨#[]⟩\/aN t) (hzo:zo=aT t k.z):
  Calls Tryz.prog 48 #[Zj #[U d.a1 d.l1 d.c1,U d.a2 d.l2 d.c2,U d.a3 d.l3 d.c3,U d.a4 d.l4 d.c4,U d.a5 d.l5 d.c5,V O c.now,I x.n,V O x.z,I x.k,Zf x.x,I x.v,I t]] w λe w'=>Below w.heap.size w w'/\((¬fG x k t/\e=Zh (Zn #[Zj #[I ⟨#[]⟩,V O 0,I ⟨#[]⟩,I ⟨#[]⟩,Zf Zg,I ⟨#[]⟩,Zf Zg,U J 0 0],.iface 217 (Zm (M (E 2)))]))\/(fG x k t/\((∃i,i<9/\((i=3/\hit Vd.n c.vs (aC++x.n)=Zi)\/(i=4/\hit Vd.n c.vs (aC++x.n)=Zg/\¬c.vs.length<8))/\e=Zh (Zn #[Zj #[I (aC++x.n),V O x.z,I zo,I x.k,Zf x.x,I x.n,Zf Zg,U J 0 0],.iface 217 (Zm (M (E i)))]))\/(hit Vd.n c.vs (aC++x.n)=Zg/\c.vs.length<8/\e=Zh (Zn #[Zj #[I (aC++x.n),V O x.z,I zo,I x.k,Zf x.x,I x.n,Zf Zg,U J 0 0],.nilIface]))))):=by
 have HR:=G hr;have HE:=G hG;have HT:=G hT;have HK:=G (Yb hk Γ);have hko:=hT.2.1.2.1.2.1 j k hk;have HKO:=G hko;have HXO:=G hx;have HTZ:=G ht;have HZO:=G hzo;have HB:=G (Yh w.heap.size w);clear hr hG hT hx hk Γ ht hzo hko;go_enter Tryz.func48,Tryz.ntmps48
 go_wp2_with fail;refine (oG d c.now c.ks x.k w _ HR.k (HB.trans ((aM _ _ _).mono HB.size))).mono ?_;rintro e w1 ⟨hb,hf⟩;obtain⟨ZD,Ν,Zr⟩:=dK hb
 have Bs:=G ZD;have Br:=G Ν;replace HB:=upB HB Zr;clear hb Zr ZD Ν;have asM:=bj HT.2.1.2.1.2.2 HK.1 HK.2;rcases hf with ⟨hh,n9,hx,hn9,rfl,zk0,zk3⟩|⟨hh,rfl⟩;rotate_left
 ·rw[asM.2] at hh;cases hh
 obtain⟨-,rfl⟩:=HT.2.1.2.1.2.2.inj HK.1 hx (HK.2.trans hn9.symm);have HZK:=G (Yb zk0 zk3);clear hx hn9 hh asM zk0 zk3;by_cases hte:t=⟨#[]⟩
 ·have hq:=cw hte;have hzk:zo=k.z:=by rw[HZO.out];unfold aT;rw[if_pos hte]
  clear hte;subst hzk;obtain⟨s0,s1,s2,s3,s4,s5,s6,s7,s8,s9,s10,s11⟩:=Bh Bs.out;have lts:=ae Bs.out;go_wp2_with fail;clear s0 s1 s2 s3 s4 s5 s6 s7 s8 s9 s10 s11 lts;have hxn:=HXO.1.2.1;have hxk:=HXO.2.2.1.2.1;have hxv:x.v.size<=9223372036854775807:=by
   rcases HXO.2.2.2 with h1|h1
   ·rw[h1];decide
   ·have h2:=h1.2.1;omega
  have axT:(k.z).size<=20:=by
   rcases HKO.2 with h1|h1
   ·rw[h1];decide
   ·have h2:=h1.2.1;omega
  have hzn:=λh9=>HKO.2.resolve_left h9;have HZN:=G hzn;clear hzn;refine (pB x.n x.z x.k x.x x.v k.n k.x k.y k.z k.z _ af af hxv HZK.1 HZK.2 af).mono ?_
  rintro e w2 ⟨n0,c0,z0,k0,x0,m0,p0,rfl,hIs,hb⟩;obtain⟨ZD,Zr⟩:=aY hb;replace Bs:=upK Bs Zr;replace Br:=upK Br Zr;replace HB:=upB HB Zr;clear hb Zr ZD
  have asy:fG x k t↔¬k.z=⟨#[]⟩/\kD x.n x.k x.v k.n k.z (k.z):=by unfold fG;rw[<-HZO.out]
  have HMY:=G asy;clear asy;rcases hIs with ⟨h,-,-⟩|⟨-,h,hz,rfl⟩|⟨-,-,h,hz,rfl⟩|⟨-,hR,hM,hz,rfl⟩
  ·omega
  ·exact akJ
  ·have HNM:Hid (¬fG x k t):=λh9=>h (HMY.1 h9).2;exact aiF
  have HMV:Hid (fG x k t):=HMY.2 ⟨λh9=>by have h1:=hR.2.2.1;rw[h9] at h1;exact absurd h1 ag,hM⟩;obtain⟨rfl,rfl,ZO,rfl,rfl,rfl⟩:=hz;replace ZO:=ZO.symm;subst ZO;clear hR hM;obtain⟨r0,r1,r2,r3,r4,r5,r6,r7⟩:=cs8 Br;have aog:=ae Br.out;obtain⟨s0,s1,s2,s3,s4,s5,s6,s7,s8,s9,s10,s11⟩:=Bh Bs.out;have lts:=ae Bs.out;go_wp2_with fail;clear s0 s1 s2 s3 s4 s5 s6 s7 s8 s9 s10 s11 lts;clear r0 r1 r2 r3 r4 r5 r6 r7 aog
  obtain⟨W,θ⟩:∃W,W=w2.alloc (Ze #[I (aC++x.n),V O x.z,I k.z,I x.k,Zf x.x,I x.n,Zf Zg,U J 0 0,V O 0] 39):=⟨_,rfl⟩;have BsW:=G ((Yj w2 (Ze #[I (aC++x.n),V O x.z,I k.z,I x.k,Zf x.x,I x.n,Zf Zg,U J 0 0,V O 0] 39) _ (ae Bs.out)).trans Bs.out);have BrW:=G ((Yj w2 (Ze #[I (aC++x.n),V O x.z,I k.z,I x.k,Zf x.x,I x.n,Zf Zg,U J 0 0,V O 0] 39) _ (ae Br.out)).trans Br.out);have BfW:=G (heap_alloc_new w2 (Ze #[I (aC++x.n),V O x.z,I k.z,I x.k,Zf x.x,I x.n,Zf Zg,U J 0 0,V O 0] 39));have ZH:=G (HB.trans ((aj w2 (Ze #[I (aC++x.n),V O x.z,I k.z,I x.k,Zf x.x,I x.n,Zf Zg,U J 0 0,V O 0] 39)).mono HB.size))
  rw[<-θ] at BsW BrW BfW ZH ⊢;have h28:c.vs.length<=9223372036854775807:=by have:=HT.sm.v;omega
  clear θ;rename_i K0 hK0;refine Gu.wi aW rfl rfl rfl aW ?_;refine' Gu.Grow.stepC _ rfl ?_ ?_;rotate_left 1
  ·exact PT
  refine' Gu.Grow.stepC _ rfl ?_ ?_;rotate_left 1
  ·exact akG
  refine' Gu.Grow.stepC _ rfl ?_ ?_;rotate_left 1
  ·exact akL
  refine' Gu.Grow.stepC _ rfl ?_ ?_;rotate_left 1
  ·exact akN
  refine' Gu.Grow.stepC _ rfl ?_ ?_;rotate_left 1
  ·exact akO
  refine' Gu.Grow.stepC _ rfl ?_ ?_;rotate_left 1
  ·exact PT
  refine' Gu.Grow.stepC _ rfl ?_ ?_;rotate_left 1
  ·exact akM
  refine' Gu.Grow.stepC _ rfl ?_ ?_;rotate_left 1
  ·exact akH
  refine Gu.Grow.step (ErF c x E) rfl (ErF.mono c x E) ?_ ?_
  ·exact amw
  refine Gu.Grow.done ?_;intro q wz hW hf;simp only[YL] at hf;obtain⟨h41,h40,h39,h38,h37,h36,h35,h34,h33,-⟩:=hf;obtain⟨v9,hv9⟩:∃v9,q 41=v9:=⟨_,rfl⟩;have awN:ErF c x E v9 wz:=by rw[<-hv9];exact h41
  have HER:=G awN;have HWZ:=G hW;have Br6:=upK BrW hW;clear h41 awN hW
  obtain⟨r0,r1,r2,r3,r4,r5,r6,r7⟩:=cs8 Br6;obtain⟨ZR,ZS,ZT,ZU,ZV,ZY,Z1,Z2⟩:=ahY;intro K hK;rw[if_pos cF]
  simp only[aL,YQ,Y0,Yr,Yx,Yy,h40,h39,h38,h37,h36,h35,h34,h33,hv9];go_simp;refine hK _ _ ?_
  clear hK K;intro K hK;rw[if_pos cF];go_simp;refine hK _ _ ?_;refine hK0 _ _ ?_;clear hK hK0 K K0;go_wp2;rcases HER.out with ⟨i,hi9,aoR,rfl⟩|⟨hh,h8,rfl⟩
  ·exact bodyPost_ret (v:=Zn #[Zj #[I (aC++x.n),V O x.z,I k.z,I x.k,Zf x.x,I x.n,Zf Zg,U J 0 0],.iface 217 (Zm (M (E i)))]) uQ rfl ⟨sb1 (sb1 (sb1 (sb1 (sb1 (sb1 (sb1 (sb1 (ZH.trans (HWZ.mono ZH.size))))))))),Zk ⟨HMV.out,Zl ⟨i,hi9,aoR,rfl⟩⟩⟩
  ·exact bodyPost_ret (v:=Zn #[Zj #[I (aC++x.n),V O x.z,I k.z,I x.k,Zf x.x,I x.n,Zf Zg,U J 0 0],.nilIface]) uQ rfl ⟨sb1 (sb1 (sb1 (sb1 (sb1 (sb1 (sb1 (sb1 (ZH.trans (HWZ.mono ZH.size))))))))),Zk ⟨HMV.out,Zk ⟨hh,h8,rfl⟩⟩⟩
 ·have hq:=aU hte;have hzk:t=zo:=by rw[HZO.out];unfold aT;rw[if_neg hte]
  clear hte;subst hzk;obtain⟨s0,s1,s2,s3,s4,s5,s6,s7,s8,s9,s10,s11⟩:=Bh Bs.out;have lts:=ae Bs.out;go_wp2_with fail;clear s0 s1 s2 s3 s4 s5 s6 s7 s8 s9 s10 s11 lts;have hxn:=HXO.1.2.1;have hxk:=HXO.2.2.1.2.1;have hxv:x.v.size<=9223372036854775807:=by
   rcases HXO.2.2.2 with h1|h1
   ·rw[h1];decide
   ·have h2:=h1.2.1;omega
  have axT:(t).size<=20:=by
   rcases HTZ.out with h1|h1
   ·rw[h1];decide
   ·have h2:=h1.2.1;omega
  have hzn:=λh9=>HTZ.resolve_left h9;have HZN:=G hzn;clear hzn;refine (pB x.n x.z x.k x.x x.v k.n k.x k.y k.z t _ af af hxv HZK.1 HZK.2 af).mono ?_
  rintro e w2 ⟨n0,c0,z0,k0,x0,m0,p0,rfl,hIs,hb⟩;obtain⟨ZD,Zr⟩:=aY hb;replace Bs:=upK Bs Zr;replace Br:=upK Br Zr;replace HB:=upB HB Zr;clear hb Zr ZD
  have asy:fG x k t↔¬t=⟨#[]⟩/\kD x.n x.k x.v k.n k.z (t):=by unfold fG;rw[<-HZO.out]
  have HMY:=G asy;clear asy;rcases hIs with ⟨h,-,-⟩|⟨-,h,hz,rfl⟩|⟨-,-,h,hz,rfl⟩|⟨-,hR,hM,hz,rfl⟩
  ·omega
  ·exact akJ
  ·have HNM:Hid (¬fG x k t):=λh9=>h (HMY.1 h9).2;exact aiF
  have HMV:Hid (fG x k t):=HMY.2 ⟨λh9=>by have h1:=hR.2.2.1;rw[h9] at h1;exact absurd h1 ag,hM⟩;obtain⟨rfl,rfl,ZO,rfl,rfl,rfl⟩:=hz;replace ZO:=ZO.symm;subst ZO;clear hR hM;obtain⟨r0,r1,r2,r3,r4,r5,r6,r7⟩:=cs8 Br;have aog:=ae Br.out;obtain⟨s0,s1,s2,s3,s4,s5,s6,s7,s8,s9,s10,s11⟩:=Bh Bs.out;have lts:=ae Bs.out;go_wp2_with fail;clear s0 s1 s2 s3 s4 s5 s6 s7 s8 s9 s10 s11 lts;clear r0 r1 r2 r3 r4 r5 r6 r7 aog
  obtain⟨W,θ⟩:∃W,W=w2.alloc (Ze #[I (aC++x.n),V O x.z,I t,I x.k,Zf x.x,I x.n,Zf Zg,U J 0 0,V O 0] 39):=⟨_,rfl⟩;have BsW:=G ((Yj w2 (Ze #[I (aC++x.n),V O x.z,I t,I x.k,Zf x.x,I x.n,Zf Zg,U J 0 0,V O 0] 39) _ (ae Bs.out)).trans Bs.out);have BrW:=G ((Yj w2 (Ze #[I (aC++x.n),V O x.z,I t,I x.k,Zf x.x,I x.n,Zf Zg,U J 0 0,V O 0] 39) _ (ae Br.out)).trans Br.out);have BfW:=G (heap_alloc_new w2 (Ze #[I (aC++x.n),V O x.z,I t,I x.k,Zf x.x,I x.n,Zf Zg,U J 0 0,V O 0] 39));have ZH:=G (HB.trans ((aj w2 (Ze #[I (aC++x.n),V O x.z,I t,I x.k,Zf x.x,I x.n,Zf Zg,U J 0 0,V O 0] 39)).mono HB.size))
  rw[<-θ] at BsW BrW BfW ZH ⊢;have h28:c.vs.length<=9223372036854775807:=by have:=HT.sm.v;omega
  clear θ;rename_i K0 hK0;refine Gu.wi aW rfl rfl rfl aW ?_;refine' Gu.Grow.stepC _ rfl ?_ ?_;rotate_left 1
  ·exact PT
  refine' Gu.Grow.stepC _ rfl ?_ ?_;rotate_left 1
  ·exact akG
  refine' Gu.Grow.stepC _ rfl ?_ ?_;rotate_left 1
  ·exact akL
  refine' Gu.Grow.stepC _ rfl ?_ ?_;rotate_left 1
  ·exact akN
  refine' Gu.Grow.stepC _ rfl ?_ ?_;rotate_left 1
  ·exact akO
  refine' Gu.Grow.stepC _ rfl ?_ ?_;rotate_left 1
  ·exact PT
  refine' Gu.Grow.stepC _ rfl ?_ ?_;rotate_left 1
  ·exact akM
  refine' Gu.Grow.stepC _ rfl ?_ ?_;rotate_left 1
  ·exact akH
  refine Gu.Grow.step (ErF c x E) rfl (ErF.mono c x E) ?_ ?_
  ·exact amw
  refine Gu.Grow.done ?_;intro q wz hW hf;simp only[YL] at hf;obtain⟨h41,h40,h39,h38,h37,h36,h35,h34,h33,-⟩:=hf;obtain⟨v9,hv9⟩:∃v9,q 41=v9:=⟨_,rfl⟩;have awN:ErF c x E v9 wz:=by rw[<-hv9];exact h41
  have HER:=G awN;have HWZ:=G hW;have Br6:=upK BrW hW;clear h41 awN hW
  obtain⟨r0,r1,r2,r3,r4,r5,r6,r7⟩:=cs8 Br6;obtain⟨ZR,ZS,ZT,ZU,ZV,ZY,Z1,Z2⟩:=ahY;intro K hK;rw[if_pos cF]
  simp only[aL,YQ,Y0,Yr,Yx,Yy,h40,h39,h38,h37,h36,h35,h34,h33,hv9];go_simp;refine hK _ _ ?_
  clear hK K;intro K hK;rw[if_pos cF];go_simp;refine hK _ _ ?_;refine hK0 _ _ ?_;clear hK hK0 K K0;go_wp2;rcases HER.out with ⟨i,hi9,aoR,rfl⟩|⟨hh,h8,rfl⟩
  ·exact bodyPost_ret (v:=Zn #[Zj #[I (aC++x.n),V O x.z,I t,I x.k,Zf x.x,I x.n,Zf Zg,U J 0 0],.iface 217 (Zm (M (E i)))]) uQ rfl ⟨sb1 (sb1 (sb1 (sb1 (sb1 (sb1 (sb1 (sb1 (ZH.trans (HWZ.mono ZH.size))))))))),Zk ⟨HMV.out,Zl ⟨i,hi9,aoR,rfl⟩⟩⟩
  ·exact bodyPost_ret (v:=Zn #[Zj #[I (aC++x.n),V O x.z,I t,I x.k,Zf x.x,I x.n,Zf Zg,U J 0 0],.nilIface]) uQ rfl ⟨sb1 (sb1 (sb1 (sb1 (sb1 (sb1 (sb1 (sb1 (ZH.trans (HWZ.mono ZH.size))))))))),Zk ⟨HMV.out,Zk ⟨hh,h8,rfl⟩⟩⟩
theorem C0 {p q r:Obj} (h:Below ((((w.alloc o).alloc p).alloc q).alloc r).heap.size ((((w.alloc o).alloc p).alloc q).alloc r) w'):w'.heap[w.heap.size]?=M o/\w'.heap[w.heap.size+1]?=M p/\w'.heap[w.heap.size+1+1]?=M q/\w'.heap[w.heap.size+1+1+1]?=M r/\Below w.heap.size w w':=by
 obtain⟨h1,h2⟩:=aY h;obtain⟨h3,h4,h5,h6⟩:=wD h2;exact⟨h3,h4,h5,by simpa using h1,h6⟩
def RoF(m:Nat) (T:TypeId) (rs:List (List Fv)) (S:Nat->Prop):Fact:=λv w=> ∃a l p,v=U a l p/\av w a l p m T rs S
theorem RoF.mono(m:Nat) (T:TypeId) (rs:List (List Fv)) (S:Nat->Prop):Fact.bT (RoF m T rs S):=by
 rintro v w w' ⟨a,l,p,h1,h2⟩ hb;exact⟨a,l,p,h1,h2.below hb⟩
theorem lB(d:Ad) (c:Cl) (x:Xd) (v:Vd) (va:Option Addr) (vl vc B:Nat) (w:World) (hr:aA w d c.raw) (hs:Sm c) (hv:bG w va vl vc v.zs (λk=>B<=k/\k<w.heap.size)) (hB:B<=w.heap.size) (z0:x.n.size<=9223372036854775807) (z2:x.k.size<=9223372036854775807) (y0:v.n.size<=9223372036854775807) (y2:v.z.size<=9223372036854775807) (y3:v.k.size<=9223372036854775807):
  Calls Tryz.prog 49 #[Zj (Zs d c.now),Zj #[I x.n,V O x.z,I x.k,Zf x.x,I x.v],Zj #[I v.n,V O v.c,I v.z,I v.k,Zf v.x,I v.m,Zf v.y,U va vl vc]] w λe w'=> ∃d',e=Zh (Zj #[U d'.a1 d'.l1 d'.c1,U d'.a2 d'.l2 d'.c2,U d'.a3 d'.l3 d'.c3,U d'.a4 d'.l4 d'.c4,U d'.a5 d'.l5 d'.c5,V O c.now])/\eL w' d' (kg c (bdX x v.n) (bdV v x.n)).raw (λk=>B<=k)/\Below w.heap.size w w':=by
 unfold Zs;have HR:=G hr;have HS:=G hs;have HV:=G hv;have HZ:=G (Yb z0 (Yb z2 (Yb y0 (Yb y2 y3))));have HB:=G (Yh w.heap.size w);clear hr hs hv z0 z2 y0 y2 y3;go_enter Tryz.func49,Tryz.ntmps49;go_wp2_with fail;refine (Cj d c _ (HR.below (jt _ _ _ _ _)) HS.out).mono ?_;rintro e w1 ⟨d',rfl,ho,hb⟩;have ν:=G hb.size;simp only[cW] at ν ho;obtain⟨ZD,Ν,HA2,HA3,Zr⟩:=C0 hb;have Bx:=G Ν;have Bv:=G HA2;have Br:=G HA3;replace HB:=upB HB Zr;clear hb Zr ZD Ν HA2 HA3;obtain⟨P,hP⟩:=ho;have HP:=G hP;have Τ:=ν.out;clear hP;obtain⟨W,θ⟩:∃W,W=w1.alloc (Ze (Zs d' c.now) 29):=⟨_,rfl⟩;have hWs:W.heap.size=w1.heap.size+1:=by rw[θ];simp
 have ZN:Below w1.heap.size w1 W:=by rw[θ];exact aj _ _
 have ZW:=G ZN;have BxW:=upK Bx ZN;have BvW:=upK Bv ZN;have BrW:=upK Br ZN;have BoW:Hid (W.heap[w1.heap.size]?=M (Ze (Zs d' c.now) 29 (0,0))):=by rw[θ];exact heap_alloc_new w1 (Ze (Zs d' c.now) 29)
 have ZH:=upB HB ZN;have hlx:d'.l4<=8:=by have h6:=HP.x.1;have h7:(c.xs.map xdF).length=d'.l4:=h6;rw[Yq] at h7;have:=HS.x;omega
 have hlv:d'.l3<=8:=by have h6:=HP.v.1;have h7:(c.vs.map vdF).length=d'.l3:=h6;rw[Yq] at h7;have:=HS.v;omega
 clear ZN;obtain⟨x0,x1,x2,x3,x4⟩:=cs5 Bx;obtain⟨v0,v1,v2,v3,v4,v5,v6,v7⟩:=cs8 Bv;go_wp2_with fail;clear x0 x1 x2 x3 x4 v0 v1 v2 v3 v4 v5 v6 v7;rw[<-θ];clear θ;have aqd:=@G _ @JP;exact nk
end Rc
def gS(J0 J1 J2:Act->World->Prop) (Q:Exit->Act->World->Prop):Exit->Act->World->Prop
 | .goto l,a,w=>(l=0/\J0 a w)\/(l=1/\J1 a w)\/(l=2/\J2 a w)
 | e,a,w=>Q e a w
theorem kZ {a:Act} (h:Q .ret a w):gS J0 J1 J2 Q .ret a w:=h
theorem ag2 {a:Act} (h:J0 a w):gS J0 J1 J2 Q (.goto 0) a w:=Zl ⟨rfl,h⟩
theorem ag1 {a:Act} (h:J1 a w):gS J0 J1 J2 Q (.goto 1) a w:=Zk (Zl ⟨rfl,h⟩)
theorem ag0 {a:Act} (h:J2 a w):gS J0 J1 J2 Q (.goto 2) a w:=Zk (Zk ⟨rfl,h⟩)
theorem kH {a:Act} (h:Q (.goto l) a w):Exit.then K Q (.goto l) a w:=h
def never:Act->World->Prop:=λ_ _=>False
def at1(P:Program) (Q:Exit->Act->World->Prop) (r1:Code):Act->World->Prop:=λa w=>r1.wp P (gS never never never Q) a w
def at0(P:Program) (Q:Exit->Act->World->Prop) (r0 r1:Code):Act->World->Prop:=λa w=>r0.wp P (gS never (at1 P Q r1) never Q) a w
def at2(P:Program) (Q:Exit->Act->World->Prop) (r0 r1 r2:Code):Act->World->Prop:=λa w=>r2.wp P (gS (at0 P Q r0 r1) never never Q) a w
theorem mu {a:Act} {c r0 r1 r2:Code} (h0:findLabel c 0=M r0) (h1:findLabel c 1=M r1) (h2:findLabel c 2=M r2)
  (first:c.wp P (gS never (at1 P Q r1) (at2 P Q r0 r1 r2) Q) a w):(Code.scope c).wp P Q a w:=by
 intro b k cs;have g0:gotoIn 0 (.inScope c ::k)=M (.code r0 ::.inScope c ::k):=by simp[gotoIn,h0]
 have g1:gotoIn 1 (.inScope c ::k)=M (.code r1 ::.inScope c ::k):=by simp[gotoIn,h1]
 have g2:gotoIn 2 (.inScope c ::k)=M (.code r2 ::.inScope c ::k):=by simp[gotoIn,h2]
 have awU:∀a w,at1 P Q r1 a w->∃e a' w',Q e a' w'/\Arrives P (lone (b.at a (.code r1 ::.inScope c ::k)) cs w) b k cs e a' w':=by
  intro a w hJ;obtain⟨e,a₁,w₁,hq,Ε⟩:=hJ b (.inScope c ::k) cs;cases e with
  | normal=>exact⟨.normal,a₁,w₁,hq,Steps.trans Ε (.one step_inScope)⟩
  | exit id=>exact⟨.exit id,a₁,w₁,hq,λk' hk=>Ε k' (by simp[exitTo,hk])⟩
  | goto l'=>
   rcases hq with ⟨e0,h⟩|⟨e1,h⟩|⟨e2,h⟩
   ·exact h.elim
   ·exact h.elim
   ·exact h.elim
  | ret=>exact⟨_,a₁,w₁,hq,Ε⟩
  | panic ch=>exact⟨_,a₁,w₁,hq,Ε⟩
  | outgrown=>exact⟨_,a₁,w₁,hq,Ε⟩
 have ax2:∀a w,at0 P Q r0 r1 a w->∃e a' w',Q e a' w'/\Arrives P (lone (b.at a (.code r0 ::.inScope c ::k)) cs w) b k cs e a' w':=by
  intro a w hJ;obtain⟨e,a₁,w₁,hq,Ε⟩:=hJ b (.inScope c ::k) cs;cases e with
  | normal=>exact⟨.normal,a₁,w₁,hq,Steps.trans Ε (.one step_inScope)⟩
  | exit id=>exact⟨.exit id,a₁,w₁,hq,λk' hk=>Ε k' (by simp[exitTo,hk])⟩
  | goto l'=>
   rcases hq with ⟨e0,h⟩|⟨e1,h⟩|⟨e2,h⟩
   ·exact h.elim
   ·subst e1;obtain⟨e₂,a₂,w₂,hq₂,apa⟩:=awU a₁ w₁ h;exact⟨e₂,a₂,w₂,hq₂,.of_steps (Ε _ g1) apa⟩
   ·exact h.elim
  | ret=>exact⟨_,a₁,w₁,hq,Ε⟩
  | panic ch=>exact⟨_,a₁,w₁,hq,Ε⟩
  | outgrown=>exact⟨_,a₁,w₁,hq,Ε⟩
 have ax3:∀a w,at2 P Q r0 r1 r2 a w->∃e a' w',Q e a' w'/\Arrives P (lone (b.at a (.code r2 ::.inScope c ::k)) cs w) b k cs e a' w':=by
  intro a w hJ;obtain⟨e,a₁,w₁,hq,Ε⟩:=hJ b (.inScope c ::k) cs;cases e with
  | normal=>exact⟨.normal,a₁,w₁,hq,Steps.trans Ε (.one step_inScope)⟩
  | exit id=>exact⟨.exit id,a₁,w₁,hq,λk' hk=>Ε k' (by simp[exitTo,hk])⟩
  | goto l'=>
   rcases hq with ⟨e0,h⟩|⟨e1,h⟩|⟨e2,h⟩
   ·subst e0;obtain⟨e₂,a₂,w₂,hq₂,apa⟩:=ax2 a₁ w₁ h;exact⟨e₂,a₂,w₂,hq₂,.of_steps (Ε _ g0) apa⟩
   ·exact h.elim
   ·exact h.elim
  | ret=>exact⟨_,a₁,w₁,hq,Ε⟩
  | panic ch=>exact⟨_,a₁,w₁,hq,Ε⟩
  | outgrown=>exact⟨_,a₁,w₁,hq,Ε⟩
 obtain⟨e,a₁,w₁,hq,Ε⟩:=first b (.inScope c ::k) cs
 cases e with
 | normal=>exact⟨.normal,a₁,w₁,hq,.head step_scope (Steps.trans Ε (.one step_inScope))⟩
 | exit id=>exact⟨.exit id,a₁,w₁,hq,λk' hk=>.head step_scope (Ε k' (by simp[exitTo,hk]))⟩
 | goto l'=>
  rcases hq with ⟨_,h⟩|⟨rfl,h⟩|⟨rfl,h⟩
  ·exact h.elim
  ·obtain⟨e₂,a₂,w₂,hq₂,apa⟩:=awU a₁ w₁ h;exact⟨e₂,a₂,w₂,hq₂,.of_steps (.head step_scope (Ε _ g1)) apa⟩
  ·obtain⟨e₂,a₂,w₂,hq₂,apa⟩:=ax3 a₁ w₁ h;exact⟨e₂,a₂,w₂,hq₂,.of_steps (.head step_scope (Ε _ g2)) apa⟩
 | ret=>exact⟨_,a₁,w₁,hq,.of_steps (.one step_scope) Ε⟩
 | panic ch=>exact⟨_,a₁,w₁,hq,.of_steps (.one step_scope) Ε⟩
 | outgrown=>exact⟨_,a₁,w₁,hq,.of_steps (.one step_scope) Ε⟩
theorem pP {a:Act} {c r0 r1 r2:Code} (h0:findLabel c 0=M r0) (h1:findLabel c 1=M r1) (h2:findLabel c 2=M r2)
  (first:∀J1 J2:Act->World->Prop,(∀a w,r1.wp P (gS never never never Q) a w->J1 a w)->(∀a w,(∀J0:Act->World->Prop,(∀a w,r0.wp P (gS never J1 never Q) a w->J0 a w)->r2.wp P (gS J0 never never Q) a w)->J2 a w)->c.wp P (gS never J1 J2 Q) a w):(Code.scope c).wp P Q a w:=
 mu h0 h1 h2 (first _ _ (λ_ _ h=>h) (λ_ _ h=>h (at0 P Q r0 r1) (λ_ _ h=>h)))
namespace Rc
theorem SD {c0 c1 c2 c3 c4 c5 c6 c7:Value} (h:w.heap[g]?=M (Ze #[c0,c1,c2,c3,c4,c5,c6,c7] T (0,0))) (v0 v1 v2 v3 v4 v5 v6 v7:Value):
  ((((((((w.setCell ⟨g,0,J⟩ v0).setCell ⟨g,1,J⟩ v1).setCell ⟨g,2,J⟩ v2).setCell ⟨g,3,J⟩ v3).setCell ⟨g,4,J⟩ v4).setCell ⟨g,5,J⟩ v5).setCell ⟨g,6,J⟩ v6).setCell ⟨g,7,J⟩ v7).heap[g]?=M (Ze #[v0,v1,v2,v3,v4,v5,v6,v7] T (0,0)):=by
 rw[an (i:=7) (an (i:=6) (an (i:=5) (an (i:=4) (an (i:=3) (an (i:=2) (an (i:=1) (an (i:=0) h v0) v1) v2) v3) v4) v5) v6) v7];simp only[Yr,Yx,Yy]
theorem RX(w:World) (o p q r s:Obj):Below w.heap.size w (((((w.alloc o).alloc p).alloc q).alloc r).alloc s):=(jt w o p q r).alloc (by simp;omega) s
theorem aiX {p q r s:Obj} (h:Below (((((w.alloc o).alloc p).alloc q).alloc r).alloc s).heap.size (((((w.alloc o).alloc p).alloc q).alloc r).alloc s) w'):w'.heap[w.heap.size]?=M o/\w'.heap[w.heap.size+1]?=M p/\w'.heap[w.heap.size+1+1]?=M q/\w'.heap[w.heap.size+1+1+1]?=M r/\w'.heap[w.heap.size+1+1+1+1]?=M s/\Below w.heap.size w w':=by
 obtain⟨h1,h2⟩:=aY h;obtain⟨h3,h4,h5,h6,h7⟩:=C0 h2;exact⟨h3,h4,h5,h6,by simpa using h1,h7⟩
def PrF(B:Nat) (c:Cl):Fact:=λv w=> ∃d,v=Zj #[U d.a1 d.l1 d.c1,U d.a2 d.l2 d.c2,U d.a3 d.l3 d.c3,U d.a4 d.l4 d.c4,U d.a5 d.l5 d.c5,V O c.now]/\eL w d c.raw (λk=>B<=k)
theorem PrF.mono(B:Nat) (c:Cl):Fact.bT (PrF B c):=by
 rintro v w w' ⟨d,h1,h2⟩ hb;exact⟨d,h1,h2.below hb⟩
def PrO(B:Nat) (c:Cl) (n:ByteArray):Fact:=λv w=> ∃d,v=Zj #[U d.a1 d.l1 d.c1,U d.a2 d.l2 d.c2,U d.a3 d.l3 d.c3,U d.a4 d.l4 d.c4,U d.a5 d.l5 d.c5,V O c.now,I n,V O 0]/\eL w d c.raw (λk=>B<=k)
theorem PrO.mono(B:Nat) (c:Cl) (n:ByteArray):Fact.bT (PrO B c n):=by
 rintro v w w' ⟨d,h1,h2⟩ hb;exact⟨d,h1,h2.below hb⟩
theorem vQ(d:Ad) (c:Cl) (x:Xd) (t:ByteArray) (i j:Nat) (k:Kd) (E:Nat->Addr) (w:World) (hr:aA w d c.raw) (hG:Ers w E) (hT:au c) (hx:c.xs[i]?=M x) (hxv:x.v=⟨#[]⟩) (hk:c.ks[j]?=M k) (Γ:k.n=x.k) (ht:t=⟨#[]⟩\/aN t):
  Calls Tryz.prog 24 #[Zj (Zs d c.now),Zj #[I x.n,V O x.z,I x.k,Zf x.x,I x.v],I t] w (am6 (eM c i x k t) w):=by
 unfold Zs;have HR:=G hr;have HE:=G hG;have HT:=G hT;have HX:=G (Yb hx hxv);have HK:=G (Yb hk Γ);have HTZ:=G ht;have HXO:=G (hT.2.1.2.2.2.1.2.1 i x hx);have HB:=G (Yh w.heap.size w);clear hr hG hT hx hxv hk Γ ht;go_enter Tryz.func24,Tryz.ntmps24;go_wp2_with fail;refine pP rfl rfl rfl (λJ1 J2 hJ1 hJ2=>?_);have HJ1:=G hJ1;have HJ2:=G hJ2;clear hJ1 hJ2;go_wp2;go_step3;go_wp2_with fail;have h8:=HT.sm.v;have hbr:lH c.vs x.n x.z x.k x.v t:=⟨HXO.out,HTZ.out,h8,λq u hu=>HT.2.1.2.2.1.2.1 q u hu⟩;have awM:t.size<=20:=by
  rcases HTZ.out with h1|h1
  ·rw[h1];decide
  ·exact h1.2.1
 have ZO:=HXO.1.2.1;have ZP:=HXO.2.2.1.2.1;have hz4:x.v.size<=9223372036854775807:=by rw[HX.2];decide
 refine (x8 d c x t E _ (HR.below (RX _ _ _ _ _ _)) (HE.below (RX _ _ _ _ _ _)) hbr h8 awM af af hz4).mono ?_;rintro e w1 ⟨hb,hf⟩;have HQ:=G hb.size;simp only[cW] at HQ hf;obtain⟨ZD,Ν,HA2,HA3,HA4,Zr⟩:=aiX hb;have Bk:=G ZD;have Bx:=G Ν;have Br:=G HA2;have Bv:=G HA3;have Bs:=G HA4;replace HB:=upB HB Zr;clear hb Zr ZD Ν HA2 HA3 HA4;clear hbr hz4;rcases hf with ⟨hbn,rfl⟩|⟨u,va,vl,vc,hbs,rfl,hto⟩;rotate_left
 ·obtain⟨j9,hu9⟩:=wb hbs;have HU:=G hu9;have huo:=HT.2.1.2.2.1.2.1 j9 u hu9;have hu0:=huo.1.2.1;have hu2:=huo.2.2.1.2.1;have hu3:=huo.2.2.2.1.2.1;have HBS:=G hbs;have HTO:=G hto;clear hbs hto hu9 huo;have asO:=@G _ @Er;exact sx
 have HBN:=G hbn;clear hbn;obtain⟨v0,v1,v2,v3,v4,v5,v6,v7⟩:=cs8 Bv;obtain⟨fv0,fv1,fv2,fv3,fv4,fv5,fv6,fv7⟩:=OV;go_wp2;go_step3;refine kH (ag0 (HJ2.out _ _ (λJ0 hJ0=>?_)));have HJ0:=G hJ0;clear hJ0;clear v0 fv0 v1 fv1 v2 fv2 v3 fv3 v4 fv4 v5 fv5 v6 fv6 v7 fv7;obtain⟨W5,hW5⟩:∃W,W=((((((((w1.setCell ⟨w.heap.size+1+1+1,0,J⟩ (I ⟨#[]⟩)).setCell ⟨w.heap.size+1+1+1,1,J⟩ (V O 0)).setCell ⟨w.heap.size+1+1+1,2,J⟩ (I ⟨#[]⟩)).setCell ⟨w.heap.size+1+1+1,3,J⟩ (I ⟨#[]⟩)).setCell ⟨w.heap.size+1+1+1,4,J⟩ (Zf Zg)).setCell ⟨w.heap.size+1+1+1,5,J⟩ (I ⟨#[]⟩)).setCell ⟨w.heap.size+1+1+1,6,J⟩ (Zf Zg)).setCell ⟨w.heap.size+1+1+1,7,J⟩ (U J 0 0)):=⟨_,rfl⟩;obtain⟨aqT,Zp,Dk,Dx,Dr,Ds⟩:=ahV;have Dv:Hid (W5.heap[w.heap.size+1+1+1]?=M (Ze #[I ⟨#[]⟩,V O 0,I ⟨#[]⟩,I ⟨#[]⟩,Zf Zg,I ⟨#[]⟩,Zf Zg,U J 0 0] 37 (0,0))):=by rw[hW5];exact SD Bv.out _ _ _ _ _ _ _ _
 have apR:Hid (Below w.heap.size w W5):=by rw[hW5];exact sb3 (sb3 (sb3 (sb3 (sb3 (sb3 (sb3 (sb3 (HB.out))))))))
 have HKP:=G Zp;clear Zp;rw[<-hW5];clear hW5;obtain⟨s0,s1,s2,s3,s4,s5,s6,s7,s8,s9,s10,s11⟩:=Bh Ds.out;go_wp2;go_step3;refine kH (ag2 (HJ0.out _ _ ?_));go_wp2_with fail;clear s0 s1 s2 s3 s4 s5 s6 s7 s8 s9 s10 s11;refine (Cp d c x t j k (aT t k.z) E _ (HR.below apR.out) (HE.below apR.out) HT.out HXO.out HK.1 HK.2 HTZ.out rfl).mono ?_;rintro e w2 ⟨hb,hf⟩;have Τ:w.heap.size+1+1+1+1+1<=w2.heap.size:=by have h1:=hb.size;have h2:w.heap.size+1+1+1+1+1<=w1.heap.size:=HQ.out;omega
 replace Bk:=G ((hb.block _ (ae Dk.out)).trans Dk.out);replace Bx:=G ((hb.block _ (ae Dx.out)).trans Dx.out);replace Br:=G ((hb.block _ (ae Dr.out)).trans Dr.out);replace Bv:=G ((hb.block _ (ae Dv.out)).trans Dv.out);replace Bs:=G ((hb.block _ (ae Ds.out)).trans Ds.out);replace HB:=upB apR hb;clear hb aqT;rcases hf with ⟨hm,rfl⟩|⟨hm,hf⟩
 ·have HV:Hid (eM c i x k t (co0 (aZ 2))):=Zk ⟨HBN.out,Zl ⟨hm,rfl⟩⟩;obtain⟨cc,hcc⟩:∃cc,cc=aZ 2:=⟨_,rfl⟩;have aqp:=@G _ @Nk;exact nB
 rcases hf with ⟨i9,hi9,aoR,rfl⟩|⟨hh,h8',rfl⟩
 ·rcases aoR with ⟨rfl,hh⟩|⟨rfl,hh,hf8⟩
  ·have HV:Hid (eM c i x k t (co0 (aZ 3))):=Zk ⟨HBN.out,Zk ⟨hm,Zl ⟨hh,rfl⟩⟩⟩;obtain⟨cc,hcc⟩:∃cc,cc=aZ 3:=⟨_,rfl⟩;have aqp:=@G _ @Ni;exact nB
  have HV:Hid (eM c i x k t (co0 (aZ 4))):=Zk ⟨HBN.out,Zk ⟨hm,Zk ⟨hh,Zl ⟨hf8,rfl⟩⟩⟩⟩;obtain⟨cc,hcc⟩:∃cc,cc=aZ 4:=⟨_,rfl⟩;have aqp:=@G _ @Nj;exact nB
 have HMY:=G (Yb hm (Yb hh h8'));have asO:=@G _ @Es;exact sx
theorem pD(d:Ad) (c:Cl) (t:ByteArray) (E:Nat->Addr) (w:World) (hr:aA w d c.raw) (hG:Ers w E):
  Calls Tryz.prog 5 #[Zj (Zs d c.now),I t] w (am6 (bH c t) w):=by
 unfold Zs;obtain⟨HR,HE,HB⟩:=nP;clear hr hG;go_enter Tryz.func5,Tryz.ntmps5;have asG:=@G _ @MQ;exact uv
end Rc
end Go.Proofs.YtcnmlpiffcldkaaGreatDoor

import Derived.Test.YtpejepeekdjfoaaGreatDoorM6
import Derived.WalkMore
/-
 A pod that is tried on a node, as the program does it.
-/
set_option maxRecDepth 100000
set_option maxHeartbeats 12800000
open And renaming intro→Fo
open Array renaming getElem?_push_size→FD
open Go.Act renaming put→GO, eval→Iu
open Go.Addr renaming add_lit→FT
open Go.Instr renaming typeAssert→GY
open Go.Op renaming bytesLess→FB
open Go.RowKit.Below renaming heap_setCell→Fp, refl→Fw, heap_alloc→Fy
open Go.Value renaming oneCell'→GH, ownBlock→G9
open List renaming getElem?_eq_some_iff→Fm, lookup→Fs, getElem?_eq_getElem→Fu, setIfInBounds_toArray→Fz, getElem?_map→FC, set_cons_zero→FH, forall_mem_cons→FI, set_cons_succ→FM, length_map→FU, foldr→Gd, append_nil→GF, drop_eq_nil_of_le→GM, getLast→G3, map_set→H8, take_length→Iw
open Nat renaming le_refl→Ft, le_trans→FA, lt_of_lt_of_le→FE, zero_add→FX
open Option.some renaming inj→Fq
namespace Go.Proofs.YtpejepeekdjfoaaGreatDoor
theorem sd {p:Prop} (h:p:=by simp[results,Tryz.results105,go_sem]):p:=h
end Go.Proofs.YtpejepeekdjfoaaGreatDoor
namespace Go.Proofs.YtpejepeekdjfoaaGreatDoor
theorem yL {p:Prop} (h:p:=by
 refine Obl.plain rfl ?_;intro ac wg K hsz hW hf hK;clear hsz;have e93:=hf 93 aj;simp[ai,Fs] at e93;have e95:=hf 95 aj;simp[ai,Fs] at e95;clear hf;go_simp;refine (ik ⟨a1,l1,y1,some ⟨gk,0,none⟩,l2,y2,a3,l3,y3,some ⟨gx,0,none⟩,l4,y4,a5,l5,y5⟩ c.now c.vs (aD++x.n) _ (HO.v.row.below (HBW.trans (hW.mono HBW.size))) (fun j9 v9 h9 e9=>by have h7:=(cN HT.2.1.2.2.1.2.2 h9 e9).2;rw[HH.out] at h7;cases h7)).mono ?_;rintro e w6 ⟨rfl,hb6⟩;exact hK _ _ hb6 rfl):p:=h
theorem C0 {p:Prop} (h:p:=by
 intro K hK;rw[if_pos bF];go_simp;refine hK _ _ ?_;clear hK K;refine hK0 _ _ ?_;clear hK0 K0;go_wp2;rw[Exit.noGoto_ret];exact bodyPost_ret (v:=.tuple #[.agg #[.slice none 0 0,.slice none 0 0,.slice none 0 0,.slice none 0 0,.slice none 0 0,.int .i64 0,.string ⟨#[]⟩,.int .i64 0,.string ⟨#[]⟩,.slice none 0 0,.string ⟨#[]⟩,.int .i64 0,.string ⟨#[]⟩,.string ⟨#[]⟩,.int .i64 0,.int .i64 0,.int .i64 0,.bool false,.slice none 0 0],.iface 266 (.pointer (some (E 8)))]) (results_cell_tmp rfl _ _ (w.heap.size+1) _ _ _ _ _ rfl rfl (setRow_heap _ (w.heap.size+1) _ #[.slice none 0 0,.slice none 0 0,.slice none 0 0,.slice none 0 0,.slice none 0 0,.int .i64 0,.string ⟨#[]⟩,.int .i64 0,.string ⟨#[]⟩,.slice none 0 0,.string ⟨#[]⟩,.int .i64 0,.string ⟨#[]⟩,.string ⟨#[]⟩,.int .i64 0,.int .i64 0,.int .i64 0,.bool false,.slice none 0 0] _ _ Br6.out) Tryz.underlying66 rfl aQ) rfl ⟨below_setRow HWZ.out af _,.inl ⟨8,by decide,⟨HL.out,HT.out,x,HX.out,HXN.out,H0.out⟩,rfl⟩⟩):p:=h
theorem vO {p:Prop} (h:p:=by
 go_wp2;exact bodyPost_ret (v:=.tuple #[.string ⟨#[]⟩,.int .i64 6]) sd rfl (.inr ⟨HNO.out,.inl ⟨6,by decide,.inl ⟨HNM.out,rfl⟩,rfl,HB5.alloc HB5.size _⟩⟩)):p:=h
theorem Eb {p:Prop} (h:p:=by
 refine Obl.plain rfl ?_;intro ac wg K hsz hW hf hK;clear hsz;have e93:=hf 93 aj;simp[ai,Fs] at e93;have e95:=hf 95 aj;simp[ai,Fs] at e95;clear hf;go_simp;refine (jC ⟨a1,l1,y1,some ⟨gk,0,none⟩,l2,y2,a3,l3,y3,some ⟨gx,0,none⟩,l4,y4,a5,l5,y5⟩ c.now c.vs (aD++x.n) _ (HO.v.row.below (HBW.trans (hW.mono HBW.size))) HT.2.1.2.2.1.2.2 HU.1 HU.2).mono ?_;rintro e w6 ⟨rfl,hb6⟩;exact hK _ _ hb6 rfl):p:=h
theorem CI {p:Prop} (h:p:=by
 have hxn:=hZ1;have hxk:=hZ2;rcases q with _|_|_|_|_|_|_|_|q <;> simp[vdF,mkV] at hf <;> subst hf
 ·exact⟨_,rfl,rfl,hZ0⟩
 ·exact⟨_,rfl,rfl⟩
 ·exact⟨_,rfl,rfl,hZ3⟩
 ·exact⟨_,rfl,rfl,hxk⟩
 ·exact⟨_,rfl,rfl⟩
 ·exact⟨_,rfl,rfl,hxn⟩
 ·exact⟨_,rfl,rfl⟩
 ·exact⟨_,rfl,none,0,0,rfl,rfl,Ft _,by decide,fun j x hx=>by simp at hx,.inl rfl⟩):p:=h
theorem CC {p:Prop} (h:p:=by
 refine hK _ _ ?_;clear hK K;intro K hK;rw[if_pos bF];go_simp;refine hK _ _ ?_;clear hK K;refine hK0 _ _ ?_;clear hK0 K0;go_wp2;exact⟨⟨k+1,d1,c1,by omega,by go_num,HSK.out,below_setRow HWZ.out (Ft _) _,setRow_heap _ _ _ _ _ _ Bt6.out,(setRow_other _ _ _ _ af).trans Br6.out,H3.out⟩,by simp[intOf];omega⟩):p:=h
theorem Cs {p:Prop} (h:p:=by
 refine Obl.plain rfl ?_;intro ac wg K hsz hW hf hK;clear hsz;have e1:=hf 1 aj;simp[ai,Fs] at e1;clear hf;refine wp_load_row _ _ rfl w.heap.size (by simpa[Iu,GO] using e1) _ _ _ _ ((hW.block _ (ae Bt3.out)).trans Bt3.out) Tryz.underlying66 rfl aQ ?_;exact hK _ _ (Fw _ _) rfl):p:=h
theorem Du {p:Prop} (h:p:=by
 refine Obl.plain rfl ?_;intro ac wg K hsz hW hf hK;clear hsz;have e97:=hf 97 aj;simp[ai,Fs] at e97;have e102:=hf 102 aj;simp[ai,Fs] at e102;clear hf;go_simp;refine (pB l3 8 af _).mono ?_;rintro e w6 ⟨rfl,hb6⟩;exact hK _ _ hb6 rfl):p:=h
theorem yT {p:Prop} (h:p:=by
 refine Obl.plain rfl ?_;intro ac wg K hsz hW hf hK;clear hsz;have e97:=hf 97 aj;simp[ai,Fs] at e97;have e102:=hf 102 aj;simp[ai,Fs] at e102;clear hf;go_simp;refine (uK l3 8 h8 _).mono ?_;rintro e w6 ⟨rfl,hb6⟩;exact hK _ _ hb6 rfl):p:=h
theorem Dt {p:Prop} (h:p:=by
 refine Obl.plain rfl ?_;intro ac wg K hsz hW hf hK;clear hsz;have e97:=hf 97 aj;simp[ai,Fs] at e97;have e102:=hf 102 aj;simp[ai,Fs] at e102;clear hf;go_simp;refine (nd l3 8 _).mono ?_;rintro e w6 ⟨rfl,hb6⟩;exact hK _ _ hb6 rfl):p:=h
theorem qo {p:Prop} (h:p:=by
 go_enter Tryz.func136,Tryz.ntmps136;go_wp2;go_ret;exact⟨rfl,Fw _ _⟩):p:=h
theorem Dq {p:Prop} (h:p:=by
 rw[HZO.out];exact⟨f1,f2,f3,by show az _ _ _ _ _ _ ((c.xs.set i (bdX x (aD++x.n))).map xdF) _;rw[H8];exact hX9,f5⟩):p:=h
theorem yg {p:Prop} (h:p:=by
 obtain⟨b,e,h3⟩:=HC.out j u hj;exact⟨b,e,FE (bg h3) HB.size,(ak HB.out (bg h3)).trans h3⟩):p:=h
theorem xS {p:Prop} (h:p:=by
 refine Obl.plain rfl ?_;intro ac wg K hsz hW hf hK;clear hsz hf;refine Et rfl ?_;exact hK _ _ (Fw _ _) rfl):p:=h
theorem xF {p:Prop} (h:p:=by
 have hx8:(wx.setCell ⟨b,2,none⟩ (.slice q3 m3 z3)).heap[gx]?=some (.cells curx 105 (0,0)):=(Fp _ _ _ _ (show gx≠b from hgb)).trans ((HWX.block _ (ae HXB.out)).trans HXB.out);have hK8:aC (fun k=>S k\/k=b) w (wx.setCell ⟨b,2,none⟩ (.slice q3 m3 z3)):=(aC.bZ HWX.out).set (.inr rfl);obtain⟨W8,hW8⟩:∃W8,W8=wx.setCell ⟨b,2,none⟩ (.slice q3 m3 z3):=⟨_,rfl⟩;rw[<-hW8] at f1 f2 f3 f4 f5 hB8 hv8 hx8 hK8 ⊢;have HF8:=aa (Fo f1 (Fo f2 (Fo f3 (Fo f4 f5))));have Bc8:=aa hB8;have Bv8:=aa hv8;have HX8:=aa hx8;have HK8:=aa hK8;clear hW8 f1 f2 f3 f4 f5 hB8 hv8 hx8 hK8 kp HO7 Bc7 Bv7 Bc6 Bv6 hnb;go_wp2_with fail;rename_i K0 hK0;refine Gt.aR aq rfl rfl aq ?_;refine' au.an _ rfl ?_ ?_;rotate_left 1
 ·exact ew
 refine' au.an _ rfl ?_ ?_;rotate_left 1
 ·refine Obl.plain rfl ?_;intro ac wg K hsz hW hf hK;clear hsz;have e116:=hf 116 aj;simp[ai,Fs] at e116;clear hf;exact aU
 refine' au.an _ rfl ?_ ?_;rotate_left 1
 ·refine Obl.plain rfl ?_;intro ac wg K hsz hW hf hK;clear hsz;have e117:=hf 117 aj;simp[ai,Fs] at e117;clear hf;exact aU
 refine' au.an _ rfl ?_ ?_;rotate_left 1
 ·refine Obl.plain rfl ?_;intro ac wg K hsz hW hf hK;clear hsz;have e118:=hf 118 aj;simp[ai,Fs] at e118;clear hf;obtain⟨k0,k1,k2,k3,k4,k5⟩:=cs6 ((hW.block _ (ae Bc8.out)).trans Bc8.out);exact aU
 refine' au.an _ rfl ?_ ?_;rotate_left 1
 ·exact we
 refine' au.an _ rfl ?_ ?_;rotate_left 1
 ·exact lW
 refine' au.an _ rfl ?_ ?_;rotate_left 1
 ·refine Obl.plain rfl ?_;intro ac wg K hsz hW hf hK;clear hsz;have e121:=hf 121 aj;simp[ai,Fs] at e121;clear hf;obtain⟨v0,v1,v2,v3,v4,v5,v6,v7⟩:=cs8 ((hW.block _ (ae Bv8.out)).trans Bv8.out);exact aU
 refine' au.an _ rfl ?_ ?_;rotate_left 1
 ·refine Obl.plain rfl ?_;intro ac wg K hsz hW hf hK;clear hsz;have e119:=hf 119 aj;simp[ai,Fs] at e119;have e120:=hf 120 aj;simp[ai,Fs] at e120;clear hf;exact aU
 refine' au.an _ rfl ?_ ?_;rotate_left 1
 ·refine Obl.plain rfl ?_;intro ac wg K hsz hW hf hK;clear hsz;have e123:=hf 123 aj;simp[ai,Fs] at e123;clear hf;exact aU
 refine au.done ?_;intro q wu hW hf;simp only[FI] at hf;obtain⟨h124,h123,h122,h121,h120,h119,h118,h117,h116,-⟩:=hf;have HWU:=aa hW;have Bc9:=upK Bc8 hW;have Bv9:=upK Bv8 hW;obtain⟨⟨v9,hcz⟩,hfz⟩:=az.E8 HF8.2.2.2.1 hW HIR.out (i:=4) rfl;clear hW;intro K hK;rw[if_pos bF];simp only[aE,Gd,GO,Fz,FH,FM,h124,h123,h122,h121,h120,h119,h118,h117,h116];simp only[G3];go_simp;refine hK _ _ ?_;refine hK0 _ _ ?_;clear hK hK0 K K0;clear hcz hfz;have hX9:=az.Dd HF8.2.2.2.1 HWU.out HIR.out (i:=4) rfl (aD++x.n) hZ0;have f1:=az.gR (i:=i*5+4) (v:=.string (aD++x.n)) HF8.1 HWU.out HX8.out aj aj;have f2:=az.gR (i:=i*5+4) (v:=.string (aD++x.n)) HF8.2.1 HWU.out HX8.out aj aj;have f3:=az.gR (i:=i*5+4) (v:=.string (aD++x.n)) HF8.2.2.1 HWU.out HX8.out aj aj;have f5:=az.gR (i:=i*5+4) (v:=.string (aD++x.n)) HF8.2.2.2.2 HWU.out HX8.out aj aj;have hK9:aC (fun k=>S k\/k=b) w (wu.setCell ⟨gx,i*5+4,none⟩ (.string (aD++x.n))):=(HK8.below HWU.out).set (.inl HGS.out);have hB9:(wu.setCell ⟨gx,i*5+4,none⟩ (.string (aD++x.n))).heap[b]?=_:=(Fp _ _ _ _ (show b≠gx from fun e=>hgb e.symm)).trans Bc9.out;have hv9b:(wu.setCell ⟨gx,i*5+4,none⟩ (.string (aD++x.n))).heap[w5.heap.size]?=_:=(Fp _ _ _ _ (show w5.heap.size≠gx by omega)).trans Bv9.out;obtain⟨W9,hW9⟩:∃W9,W9=(wu.setCell ⟨gx,i*5+4,none⟩ (.string (aD++x.n))):=⟨_,rfl⟩;rw[<-hW9] at hX9 f1 f2 f3 f5 hK9 hB9 hv9b ⊢;have HA9:Hid (ey W9 ⟨a1,l1,y1,some ⟨gk,0,none⟩,l2,y2,q3,m3,z3,some ⟨gx,0,none⟩,l4,y4,a5,l5,y5⟩ (da c i x (aW t kc.z)).raw (fun k=>S k\/w.heap.size<=k)):=by
  exact Dq
 have HK9:=aa hK9;have HB9:=aa hB9;clear hW9 hX9 f1 f2 f3 f5 hK9 hB9;obtain⟨v0,v1,v2,v3,v4,v5,v6,v7⟩:=cs8 hv9b;have hvl9:=ae hv9b;clear hv9b;go_wp2;exact bodyPost_ret (v:=.tuple #[.string (aD++x.n),.int .i64 0]) sd rfl (.inr ⟨HNO.out,.inr ⟨HMV.out,HH.out,by omega,rfl,q3,m3,z3,HB9.out,HA9.out,HK9.out⟩⟩)):p:=h
theorem iB {p:Prop} (h:p:=by
 exact ew):p:=h
theorem l_ {p:Prop} (h:p:=by
 refine Obl.plain rfl ?_;intro ac wg K hsz hW hf hK;clear hsz;have e9:=hf 9 aj;simp[ai,Fs] at e9;clear hf;exact aU):p:=h
theorem qe {p:Prop} (h:p:=by
 refine Obl.plain rfl ?_;intro ac wg K hsz hW hf hK;clear hsz;have e8:=hf 8 aj;simp[ai,Fs] at e8;clear hf;exact aU):p:=h
theorem pZ {p:Prop} (h:p:=by
 clear hf;obtain⟨k0,k1,k2,k3,k4,k5⟩:=cs6 ((hW.block _ (ae Bc2.out)).trans Bc2.out);exact aU):p:=h
theorem xf {p:Prop} (h:p:=by
 refine Obl.plain rfl ?_;intro ac wg K hsz hW hf hK;clear hsz;have e37:=hf 37 aj;simp[ai,Fs] at e37;clear hf;exact aU):p:=h
theorem wR {p:Prop} (h:p:=by
 clear hf;obtain⟨k0,k1,k2,k3,k4,k5⟩:=cs6 ((hW.block _ (ae Bc5.out)).trans Bc5.out);exact aU):p:=h
theorem wP {p:Prop} (h:p:=by
 clear hf;obtain⟨x0,x1,x2,x3,x4⟩:=cs5 ((hW.block _ (ae Bx2.out)).trans Bx2.out);exact aU):p:=h
theorem wK {p:Prop} (h:p:=by
 obtain⟨u9,hu9,hun9⟩:=dq hh;have HU:=aa (Fo hu9 hun9);have HH:=aa hh;obtain⟨j9,hj9⟩:∃j9,j9=pl Vd.n c.vs (aD++x.n):=⟨_,rfl⟩;rw[<-hj9] at HU;clear hu9 hun9 hh hj9;rename_i K0 hK0;refine bo (back:=none) aq (GF _).symm aq ?_;refine' au.an _ rfl ?_ ?_;rotate_left 1
 ·exact jP
 refine' au.an _ rfl ?_ ?_;rotate_left 1
 ·exact pQ
 refine' au.an _ rfl ?_ ?_;rotate_left 1
 ·exact vT
 refine' au.an _ rfl ?_ ?_;rotate_left 1
 ·exact pR
 refine' au.an _ rfl ?_ ?_;rotate_left 1
 ·exact pV
 refine au.step (fun v _=>v=.int .i64 (j9:Nat)) rfl (Fact.cw _) ?_ ?_
 ·exact Eb
 refine' au.an (.bool true) rfl ?_ ?_
 ·exact pP
 refine' au.an _ rfl ?_ ?_;rotate_left 1
 ·exact jP
 refine' au.an _ rfl ?_ ?_;rotate_left 1
 ·exact pN
 refine' au.an _ rfl ?_ ?_;rotate_left 1
 ·exact pO
 refine' au.an _ rfl ?_ ?_;rotate_left 1
 ·exact vU
 refine' au.an (.int .i64 l3) rfl ?_ ?_
 ·exact pT
 refine au.step (fun v _=>v=.int .i64 7) rfl (Fact.cw _) ?_ ?_
 ·exact Dt
 refine' au.an _ rfl ?_ ?_;rotate_left 1
 ·exact pS
 refine au.done ?_;intro q wy hW hf;simp only[FI] at hf;obtain⟨h13,h103,h102,h101,h100,h99,h98,h97,h96,h95,h94,h93,h92,h91,-⟩:=hf;have HWY:=aa hW;clear hW;refine hK0 _ _ ?_;simp only[aE,Gd,GO,Fz,FH,FM,h13,h103,h102,h101,h100,h99,h98,h97,h96,h95,h94,h93,h92,h91];clear hK0;go_wp2;exact bodyPost_ret (v:=.tuple #[.string ⟨#[]⟩,.int .i64 7]) sd rfl (.inr ⟨HNO.out,.inl ⟨7,by decide,.inr (.inl ⟨HMV.out,HH.out,rfl⟩),rfl,HBW.trans (HWY.mono HBW.size)⟩⟩)):p:=h
theorem wJ {p:Prop} (h:p:=by
 rename_i K0 hK0;refine bo (back:=none) aq (GF _).symm aq ?_;refine' au.an _ rfl ?_ ?_;rotate_left 1
 ·exact jP
 refine' au.an _ rfl ?_ ?_;rotate_left 1
 ·exact pQ
 refine' au.an _ rfl ?_ ?_;rotate_left 1
 ·exact vT
 refine' au.an _ rfl ?_ ?_;rotate_left 1
 ·exact pR
 refine' au.an _ rfl ?_ ?_;rotate_left 1
 ·exact pV
 refine au.step (fun v _=>v=.int .i64 (-1)) rfl (Fact.cw _) ?_ ?_
 ·exact yL
 refine' au.an (.bool false) rfl ?_ ?_
 ·exact pP
 refine' au.an _ rfl ?_ ?_;rotate_left 1
 ·exact jP
 refine' au.an _ rfl ?_ ?_;rotate_left 1
 ·exact pN
 refine' au.an _ rfl ?_ ?_;rotate_left 1
 ·exact pO
 refine' au.an _ rfl ?_ ?_;rotate_left 1
 ·exact vU
 refine' au.an (.int .i64 l3) rfl ?_ ?_
 ·exact pT
 refine au.step (fun v _=>v=.int .i64 9) rfl (Fact.cw _) ?_ ?_
 ·exact Du
 refine' au.an _ rfl ?_ ?_;rotate_left 1
 ·exact pS
 refine au.done ?_;intro q wy hW hf;simp only[FI] at hf;obtain⟨h13,h103,h102,h101,h100,h99,h98,h97,h96,h95,h94,h93,h92,h91,-⟩:=hf;have HWY:=aa hW;clear hW;refine hK0 _ _ ?_;simp only[aE,Gd,GO,Fz,FH,FM,h13,h103,h102,h101,h100,h99,h98,h97,h96,h95,h94,h93,h92,h91];clear hK0;go_wp2;exact bodyPost_ret (v:=.tuple #[.string ⟨#[]⟩,.int .i64 9]) sd rfl (.inr ⟨HNO.out,.inl ⟨9,by decide,.inr (.inr ⟨HMV.out,HH.out,by omega,rfl⟩),rfl,HBW.trans (HWY.mono HBW.size)⟩⟩)):p:=h
theorem ew {p:Prop} (h:p:=by
 exact jP):p:=h
theorem pW {p:Prop} (h:p:=by
 exact pU):p:=h
theorem wI {p:Prop} (h:p:=by
 exact pV):p:=h
theorem lW {p:Prop} (h:p:=by
 exact pR):p:=h
theorem wH {p:Prop} (h:p:=by
 exact pT):p:=h
theorem wG {p:Prop} (h:p:=by
 exact pS):p:=h
theorem wF {p:Prop} (h:p:=by
 exact pQ):p:=h
theorem wE {p:Prop} (h:p:=by
 exact pP):p:=h
theorem wD {p:Prop} (h:p:=by
 exact pO):p:=h
theorem wC {p:Prop} (h:p:=by
 exact pN):p:=h
theorem wB {p:Prop} (h:p:=by
 rintro e w7 ⟨q3,z3,rfl,ho7,hb7⟩;have hs7:=HB6.size;have hs8:=hW.size;exact hK _ _ hb7 ⟨q3,_,z3,rfl,ho7.bA (fun k _ s=>by rcases s with (s|s)|s;exact .inl s;exact s.elim;exact .inr (by have s1:wg.heap.size<=k:=s;omega))⟩):p:=h
theorem wv {p:Prop} (h:p:=by
 refine Obl.plain rfl ?_;intro ac wg K hsz hW hf hK;clear hsz;have e11:=hf 11 aj;simp[ai,Fs] at e11;clear hf;obtain⟨v0,v1,v2,v3,v4,v5,v6,v7⟩:=cs8 ((hW.block _ (ae Bv6.out)).trans Bv6.out);exact aU):p:=h
theorem wq {p:Prop} (h:p:=by
 refine Obl.plain rfl ?_;intro ac wg K hsz hW hf hK;clear hsz;have e110:=hf 110 aj;simp[ai,Fs] at e110;clear hf;obtain⟨k0,k1,k2,k3,k4,k5⟩:=cs6 ((hW.block _ (ae Bc6.out)).trans Bc6.out);exact aU):p:=h
theorem wm {p:Prop} (h:p:=by
 rintro e w5 ⟨rfl,hb⟩;have HNM:Hid (¬ee x kc t):=fun h=>hm (by have h1:=h.2;rw[HZO.out] at h1;exact h1);have HB5:=upB HB3 hb;clear hb hm;exact vO):p:=h
theorem wk {p:Prop} (h:p:=by
 refine Obl.plain rfl ?_;intro ac wg K hsz hW hf hK;clear hsz;have e107:=hf 107 aj;simp[ai,Fs] at e107;clear hf;exact aU):p:=h
theorem wj {p:Prop} (h:p:=by
 refine Obl.plain rfl ?_;intro ac wg K hsz hW hf hK;clear hsz;have e108:=hf 108 aj;simp[ai,Fs] at e108;clear hf;exact aU):p:=h
theorem wi {p:Prop} (h:p:=by
 refine Obl.plain rfl ?_;intro ac wg K hsz hW hf hK;clear hsz;have e114:=hf 114 aj;simp[ai,Fs] at e114;clear hf;exact aU):p:=h
theorem wh {p:Prop} (h:p:=by
 refine Obl.plain rfl ?_;intro ac wg K hsz hW hf hK;clear hsz;have e109:=hf 109 aj;simp[ai,Fs] at e109;clear hf;exact aU):p:=h
theorem jP {p:Prop} (h:p:=by
 refine Obl.plain rfl ?_;intro ac wg K hsz hW hf hK;clear hsz;have e0:=hf 0 aj;simp[ai,Fs] at e0;clear hf;exact aU):p:=h
theorem pV {p:Prop} (h:p:=by
 refine Obl.plain rfl ?_;intro ac wg K hsz hW hf hK;clear hsz;have e94:=hf 94 aj;simp[ai,Fs] at e94;exact vS):p:=h
theorem pU {p:Prop} (h:p:=by
 clear hf;obtain⟨k0,k1,k2,k3,k4,k5⟩:=cs6 ((hW.block _ (ae BcW.out)).trans BcW.out);exact aU):p:=h
theorem pT {p:Prop} (h:p:=by
 refine Obl.plain rfl ?_;intro ac wg K hsz hW hf hK;clear hsz;have e101:=hf 101 aj;simp[ai,Fs] at e101;clear hf;exact aU):p:=h
theorem pS {p:Prop} (h:p:=by
 refine Obl.plain rfl ?_;intro ac wg K hsz hW hf hK;clear hsz;have e103:=hf 103 aj;simp[ai,Fs] at e103;clear hf;exact aU):p:=h
theorem pR {p:Prop} (h:p:=by
 refine Obl.plain rfl ?_;intro ac wg K hsz hW hf hK;clear hsz;have e11:=hf 11 aj;simp[ai,Fs] at e11;clear hf;exact aU):p:=h
theorem pQ {p:Prop} (h:p:=by
 refine Obl.plain rfl ?_;intro ac wg K hsz hW hf hK;clear hsz;have e91:=hf 91 aj;simp[ai,Fs] at e91;clear hf;exact aU):p:=h
theorem pP {p:Prop} (h:p:=by
 refine Obl.plain rfl ?_;intro ac wg K hsz hW hf hK;clear hsz;have e96:=hf 96 aj;simp[ai,Fs] at e96;clear hf;exact aU):p:=h
theorem pO {p:Prop} (h:p:=by
 refine Obl.plain rfl ?_;intro ac wg K hsz hW hf hK;clear hsz;have e99:=hf 99 aj;simp[ai,Fs] at e99;clear hf;exact aU):p:=h
theorem pN {p:Prop} (h:p:=by
 refine Obl.plain rfl ?_;intro ac wg K hsz hW hf hK;clear hsz;have e98:=hf 98 aj;simp[ai,Fs] at e98;clear hf;exact aU):p:=h
theorem vW {p:Prop} (h:p:=by
 refine Obl.plain rfl ?_;intro ac wg K hsz hW hf hK;clear hsz;have e100:=hf 100 aj;simp[ai,Fs] at e100;exact pW):p:=h
theorem vV {p:Prop} (h:p:=by
 refine Obl.plain rfl ?_;intro ac wg K hsz hW hf hK;clear hsz;have e92:=hf 92 aj;simp[ai,Fs] at e92;exact pW):p:=h
theorem vU {p:Prop} (h:p:=by
 refine Obl.plain rfl ?_;intro ac wg K hsz hW hf hK;clear hsz;have e100:=hf 100 aj;simp[ai,Fs] at e100;exact pU):p:=h
theorem vT {p:Prop} (h:p:=by
 refine Obl.plain rfl ?_;intro ac wg K hsz hW hf hK;clear hsz;have e92:=hf 92 aj;simp[ai,Fs] at e92;exact pU):p:=h
theorem D9 {p:Prop} (h:p:=by
 have hszv2:(w1.alloc (.cells #[.string v.n,.int .i64 v.c,.string v.z,.string v.k,.bool true,.string v.m,.bool v.y,.slice (some ⟨bz,oz,none⟩) 1 vc] 99)).heap.size=w1.heap.size+1:=aS
 have Gg:Hid ((w1.alloc (.cells #[.string v.n,.int .i64 v.c,.string v.z,.string v.k,.bool true,.string v.m,.bool v.y,.slice (some ⟨bz,oz,none⟩) 1 vc] 99)).heap[b]?=some (.cells (c6 a1 l1 y1 a2 l2 y2 (some ⟨bv,ov,none⟩) l3 y3 a4 l4 y4 a5 l5 y5 c.now) 36 (0,0))):=(Fy _ _ _ (ae Bg.out)).trans (Bg.out);have Gn:Hid ((w1.alloc (.cells #[.string v.n,.int .i64 v.c,.string v.z,.string v.k,.bool true,.string v.m,.bool v.y,.slice (some ⟨bz,oz,none⟩) 1 vc] 99)).heap[w.heap.size]?=some (.cells (nov n na nl nc) 57 (0,0))):=(Fy _ _ _ (ae Bn.out)).trans (Bn.out);have Gv:Hid ((w1.alloc (.cells #[.string v.n,.int .i64 v.c,.string v.z,.string v.k,.bool true,.string v.m,.bool v.y,.slice (some ⟨bz,oz,none⟩) 1 vc] 99)).heap[w1.heap.size]?=some (.cells #[.string v.n,.int .i64 v.c,.string v.z,.string v.k,.bool true,.string v.m,.bool v.y,.slice (some ⟨bz,oz,none⟩) 1 vc] 99 (0,0))):=FD;have HW:Hid (Below w.heap.size w (w1.alloc (.cells #[.string v.n,.int .i64 v.c,.string v.z,.string v.k,.bool true,.string v.m,.bool v.y,.slice (some ⟨bz,oz,none⟩) 1 vc] 99))):=(HB.trans ((al _ _).mono HB.size));exact Fo hszv2 (Fo Gg (Fo Gn (Fo Gv HW)))):p:=h
theorem Ci {p:Prop} (h:p:=by
 have HWZ:=upB HBP hW;have Br6:=upK BrP hW;have ltr:=ae Br6.out;have HA19:Hid ((#[.slice none 0 0,.slice none 0 0,.slice none 0 0,.slice none 0 0,.slice none 0 0,.int .i64 0,.string ⟨#[]⟩,.int .i64 0,.string ⟨#[]⟩,.slice none 0 0,.string ⟨#[]⟩,.int .i64 0,.string ⟨#[]⟩,.string ⟨#[]⟩,.int .i64 0,.int .i64 0,.int .i64 0,.bool false,.slice none 0 0]:Array Value).all (·.oneCell')=true):=by show _=true;simp[GH]
 have ev:=(HEP.below hW).v8;have HE8:Hid ((wz.setRow (w.heap.size+1) #[.slice none 0 0,.slice none 0 0,.slice none 0 0,.slice none 0 0,.slice none 0 0,.int .i64 0,.string ⟨#[]⟩,.int .i64 0,.string ⟨#[]⟩,.slice none 0 0,.string ⟨#[]⟩,.int .i64 0,.string ⟨#[]⟩,.string ⟨#[]⟩,.int .i64 0,.int .i64 0,.int .i64 0,.bool false,.slice none 0 0]).cell? _=_):=(cell_setRow_other _ _ _ _ (by have:=bg HE.v8;simp;try omega)).trans ev;exact Fo HWZ (Fo Br6 (Fo ltr (Fo HA19 (Fo ev HE8))))):p:=h
theorem Ch {p:Prop} (h:p:=by
 have zc:∀q:Wd (w1.alloc (.cells #[.string v.n,.int .i64 v.c,.string v.z,.string v.k,.bool true,.string v.m,.bool v.y,.slice (some ⟨bz,oz,none⟩) 1 vc] 99)),q.w.cell? ⟨bz,oz,none⟩=some (.string z):=fun q=>(q.cell bG).trans (((al _ _).cell hbz).trans hcz);have hne0:=Wd.ne (w1.alloc (.cells #[.string v.n,.int .i64 v.c,.string v.z,.string v.k,.bool true,.string v.m,.bool v.y,.slice (some ⟨bz,oz,none⟩) 1 vc] 99));have HC0:=aa (fun q:Wd (w1.alloc (.cells #[.string v.n,.int .i64 v.c,.string v.z,.string v.k,.bool true,.string v.m,.bool v.y,.slice (some ⟨bz,oz,none⟩) 1 vc] 99))=>(iv ⟨a1,l1,y1,a2,l2,y2,(some ⟨bv,ov,none⟩),l3,y3,a4,l4,y4,a5,l5,y5⟩ c t n.n q.w (HR.below (HW.trans (q.b.mono HW.size)))).mono (fun _ _ h=>ar.no h HEL.out));exact Fo zc (Fo hne0 HC0)):p:=h
theorem Cf {p:Prop} (h:p:=by
 have kp:∀{a l cp m T rs},az w a l cp m T rs S->az (wx.setCell ⟨b,2,none⟩ (.slice q3 m3 z3)) a l cp m T rs (fun k=>S k\/w.heap.size<=k):=fun h=>h.aM (fun k hk s=>(Fp _ _ _ _ (hnb k (.inl s))).trans (HWX.block k hk)) (fun _ _ s=>.inl s);have f1:=kp HO.n;have f2:=kp HO.k;have f4:=kp HO.x;have f5:=kp HO.p;have f3:=HO7.aM (w':=wx.setCell ⟨b,2,none⟩ (.slice q3 m3 z3)) (fun k hk s=>Fp _ _ _ _ (hnb k s)) (fun _ _ s=>s);have hB8:(wx.setCell ⟨b,2,none⟩ (.slice q3 m3 z3)).heap[b]?=some (.cells (c6 a1 l1 y1 (some ⟨gk,0,none⟩) l2 y2 q3 m3 z3 (some ⟨gx,0,none⟩) l4 y4 a5 l5 y5 c.now) 36 (0,0)):=aA Bc7.out _;exact Fo @kp (Fo f1 (Fo f2 (Fo f4 (Fo f5 (Fo f3 hB8)))))):p:=h
theorem B_ {p:Prop} (h:p:=by
 have ltr:=ae Br.out;have HA19:Hid ((#[.slice none 0 0,.slice none 0 0,.slice none 0 0,.slice none 0 0,.slice none 0 0,.int .i64 0,.string ⟨#[]⟩,.int .i64 0,.string ⟨#[]⟩,.slice none 0 0,.string ⟨#[]⟩,.int .i64 0,.string ⟨#[]⟩,.string ⟨#[]⟩,.int .i64 0,.int .i64 0,.int .i64 0,.bool false,.slice none 0 0]:Array Value).all (·.oneCell')=true):=by show _=true;simp[GH]
 exact Fo ltr HA19):p:=h
theorem B8 {p:Prop} (h:p:=by
 have xk:=fun q:Wd w2=>(q.cell hbl).trans c2;have kx:=fun q:Wd w2=>(q.cell hbk).trans d1;have hne0:=Wd.ne w2;have HC0:=aa (fun q:Wd w2=>dY ⟨a1,l1,y1,(some ⟨bk,ok,none⟩),l2,y2,a3,l3,y3,(some ⟨bx,ox,none⟩),l4,y4,a5,l5,y5⟩ c.now c.ks x.k q.w (HR.k.below (HW.trans (q.b.mono HW.size))) HT.2.1.2.1.2.2 HK.1 HK.2);exact Fo xk (Fo kx (Fo hne0 HC0))):p:=h
theorem BX {p:Prop} (h:p:=by
 have hxo:=HT.2.1.2.2.2.1.2.1 i x HX.out;have hZ1:x.n.size<=9223372036854775807:=HZX.1;have hZ2:x.k.size<=9223372036854775807:=HZX.2.1;have hZ0:(aD++x.n).size<=9223372036854775807:=by have h1:=hxo.1.2.1;rw[ByteArray.size_append];have h2:aD.size<=10:=aj;omega
 exact Fo hxo (Fo hZ1 (Fo hZ2 hZ0))):p:=h
theorem BQ {p:Prop} (h:p:=by
 have HOW:Hid ((q2.w.alloc (.cells #[] 99)).ownsRow q2.w.heap.size 99 8 (.slice (some ⟨q2.w.heap.size,0,none⟩) 0 0) 0 []):=World.ownsRow_made q2.w #[] 0 (Ft _) (Nat.zero_le _) aS;have hik:(k:Int)<=n:=af
 have hkn:k<=n:=af
 exact Fo HOW (Fo hik hkn)):p:=h
theorem nD {p:Prop} (h:p:=by
 have HB2:=upB HW q1.b;have Cg:=upK Gg q1.b;have Cn:=upK Gn q1.b;have Cv:=upK Gv q1.b;exact Fo HB2 (Fo Cg (Fo Cn Cv))):p:=h
theorem BD {p:Prop} (h:p:=by
 have HWZ:=upB HB hW;have Bt6:=upK Bt hW;have Br6:=upK Br hW;have HSK:=aa (zW.next HS1.out HS2.out HX.out hn1 hv2);have H3:=aa (hown.set (b':=w.heap.size) (cs:=(trv d1 c1 p n (some ⟨b2,o2,none⟩) pl pc na nl nc)) af);exact Fo HWZ (Fo Bt6 (Fo Br6 (Fo HSK H3)))):p:=h
theorem vz {p:Prop} (h:p:=by
 have Gx:Hid (wr.heap[w.heap.size]?=some (.cells (vov x va vl vc) 99 (0,0))):=Bx.out;have HW:=HB;have x0:=fun q:Wd wr=>q.slot (o:=0) Gx.out rfl;have yn:=fun q:Wd wr=>(q.cell hbw).trans hc0;have hne0:=Wd.ne wr;exact Fo Gx (Fo HW (Fo x0 (Fo yn hne0)))):p:=h
end Go.Proofs.YtpejepeekdjfoaaGreatDoor
namespace Go.Proofs.YtpejepeekdjfoaaGreatDoor
open Go.RowKit
namespace Rc
open Mk

theorem fL.nil {hv:Value} {e:Int} (h:fL hv e) (h0:e=0):hv=.nilIface:=by
 rcases h with ⟨h,_⟩|⟨h,_⟩
 ·exact h
 ·exact absurd h0 h
theorem fL.some {hv:Value} {e:Int} (h:fL hv e) (h0:¬e=0):∃T v,hv=.iface T v:=by
 rcases h with ⟨_,h⟩|⟨_,⟨v,h,_⟩|⟨v,h,_⟩|⟨v,h,_⟩|⟨v,h,_⟩|⟨v,h,_⟩|⟨v,h,_⟩|h|⟨v,h,_⟩⟩
 ·exact absurd h h0
 all_goals exact⟨_,_,h⟩
def je (c:Cl) (p:Pd) (n:Nd) (e:Int):Prop:=(fY c n/\e=11)\/(¬fY c n/\((jc p n/\e=8)\/(¬jc p n/\((kM c p n/\e=9)\/(¬kM c p n/\e=0)))))
def Alo (hv:Value):Prop:=∃v,hv=.iface 116 v
def zW (c:Cl) (p:Pd) (n:Nd) (k:Nat) (hv:Value) (ck:Cl):Prop:=(hv=.nilIface/\je c p n 0/\cv c n p.zs k ck)\/(∃T v e0,hv=.iface T v/\fL hv e0/\¬e0=0/\((je c p n e0/\¬Alo hv)\/(je c p n 0/\o8 c n p.zs ck e0)))
def ku (d:Ad) (c:Cl) (b:Nat) (w:World) (dk:Ad) (ck:Cl):Prop:=(dk=d/\ck=c)\/bQ w dk ck.raw (fun k=>b<=k)

theorem ku.row {d:Ad} {c:Cl} {b:Nat} {w wr:World} {dk:Ad} {ck:Cl} (h:ku d c b wr dk ck) (hr:aJ w d c.raw) (hb:Below w.heap.size w wr):aJ wr dk ck.raw:=by
 rcases h with ⟨rfl,rfl⟩|h
 ·exact hr.below hb
 ·exact h.row
theorem ku.below {d:Ad} {c:Cl} {b:Nat} {w w':World} {dk:Ad} {ck:Cl} (h:ku d c b w dk ck) (hb:Below w.heap.size w w'):ku d c b w' dk ck:=h.imp id (fun h=>h.below hb)
theorem ku.set {d:Ad} {c:Cl} {b b':Nat} {cs:Array Value} {w:World} {dk:Ad} {ck:Cl} (h:ku d c b w dk ck) (hb:b'<b):ku d c b (w.setRow b' cs) dk ck:=h.imp id (fun h=>h.kept dO (fun k s e=>by have s2:b<=k:=s;omega))
theorem zW.next {c:Cl} {p:Pd} {n:Nd} {k:Nat} {ck c1:Cl} {tt:ByteArray} {e1:Int} {hv:Value} (h1:je c p n 0) (h2:cv c n p.zs k ck) (hx:p.zs[k]?=some tt) (h3:cJ ck n tt c1 e1) (h4:fL hv e1):zW c p n (k+1) hv c1:=by
 by_cases e:e1=0
 ·subst e;exact .inl ⟨h4.nil rfl,h1,ck,tt,h2,hx,h3⟩
 ·obtain⟨T,v,rfl⟩:=h4.some e;exact .inr ⟨T,v,e1,rfl,h4,e,.inr ⟨h1,.inr ⟨k,ck,tt,h2,hx,h3,e⟩⟩⟩
def Ey (_d:Ad) (c:Cl) (p:Pd) (n:Nd) (pa:Option Addr) (pl pc:Nat) (na:Option Addr) (nl nc:Nat) (i:Nat) (w:World) (e:Ending) (w':World):Prop:=∃(d':Ad) (c' c3:Cl) (p':Pd) (e0:Int) (hv:Value),e=.returned (.tuple #[.agg #[.slice d'.a1 d'.l1 d'.c1,.slice d'.a2 d'.l2 d'.c2,.slice d'.a3 d'.l3 d'.c3,.slice d'.a4 d'.l4 d'.c4,.slice d'.a5 d'.l5 d'.c5,.int .i64 c3.now,.string p'.n,.int .i64 p'.c,.string p'.z,.slice pa pl pc,.string p'.d,.int .i64 p'.p,.string n.n,.string n.z,.int .i64 n.c,.int .i64 n.s,.int .i64 n.u,.bool n.d,.slice na nl nc],hv])/\dx c i p n c' e0/\fL hv e0/\(Alo hv->je c p n 0)/\(e0=0->c3=c'/\bQ w' d' c'.raw (fun k=>w.heap.size<=k))/\Below w.heap.size w w'
theorem dx.DC {c c':Cl} {i:Nat} {p:Pd} {n:Nd} {e:Int} (h:je c p n e) (h0:¬e=0):dx c i p n c' e:=by
 rcases h with ⟨a,b⟩|⟨a,⟨b,d⟩|⟨b,⟨d,f⟩|⟨_,f⟩⟩⟩
 ·exact .inl ⟨a,b⟩
 ·exact .inr ⟨a,.inl ⟨b,d⟩⟩
 ·exact .inr ⟨a,.inr ⟨b,.inl ⟨d,f⟩⟩⟩
 ·exact absurd f h0
theorem dx.yX {c c1 c':Cl} {i:Nat} {p:Pd} {n:Nd} {e1 e:Int} (h:je c p n 0) (ha:o8 c n p.zs c1 e1) (hz:(¬e1=0/\e=e1)\/(e1=0/\((gw c1 i p n/\e=9)\/(¬gw c1 i p n/\e=0/\c'=plC c1 i p n.n)))):dx c i p n c' e:=by
 rcases h with ⟨a,b⟩|⟨a,⟨b,d⟩|⟨b,⟨d,f⟩|⟨d,_⟩⟩⟩
 ·exact absurd b aj
 ·exact absurd d aj
 ·exact absurd f aj
 ·exact .inr ⟨a,.inr ⟨b,.inr ⟨d,c1,e1,ha,hz⟩⟩⟩
theorem oC {x:ByteArray} (h:aO x):x.size<=9223372036854775807:=by
 have:=h.2.1;omega
def HsG (cs:Array Value):Fact:=fun v w=> ∃b,v=.slice (some ⟨b,0,none⟩) 1 1/\w.heap[b]?=some (.cells cs 112 (0,0))
theorem HsG.mono (cs:Array Value):Fact.bB (HsG cs):=by
 rintro v w w' ⟨b,h1,h2⟩ hb;exact⟨b,h1,(hb.block _ (ae h2)).trans h2⟩
def SsF (P:Prop):Fact:=fun r _=> ∃e0,fL r e0/\((P/\e0=9)\/(¬P/\e0=0))
theorem SsF.mono (P:Prop):Fact.bB (SsF P):=fun _ _ _ h _=>h
def TuF (d:Ad) (c:Cl) (_dk:Ad) (ck:Cl) (p:Pd) (n:Nd) (pa:Option Addr) (pl pc:Nat) (na:Option Addr) (nl nc:Nat) (t:ByteArray) (b:Nat):Fact:=fun v w=> ∃(d':Ad) (c':Cl) (e0:Int) (hv:Value),v=.tuple #[.agg #[.slice d'.a1 d'.l1 d'.c1,.slice d'.a2 d'.l2 d'.c2,.slice d'.a3 d'.l3 d'.c3,.slice d'.a4 d'.l4 d'.c4,.slice d'.a5 d'.l5 d'.c5,.int .i64 c'.now,.string p.n,.int .i64 p.c,.string p.z,.slice pa pl pc,.string p.d,.int .i64 p.p,.string n.n,.string n.z,.int .i64 n.c,.int .i64 n.s,.int .i64 n.u,.bool n.d,.slice na nl nc],hv]/\cJ ck n t c' e0/\fL hv e0/\ku d c b w d' c'
theorem TuF.mono (d:Ad) (c:Cl) (dk:Ad) (ck:Cl) (p:Pd) (n:Nd) (pa:Option Addr) (pl pc:Nat) (na:Option Addr) (nl nc:Nat) (t:ByteArray) (b:Nat):Fact.bB (TuF d c dk ck p n pa pl pc na nl nc t b):=by
 rintro v w w' ⟨d',c',e0,hv,h1,h2,h3,h4⟩ hb;exact⟨d',c',e0,hv,h1,h2,h3,h4.below hb⟩
def TrF (d:Ad) (c:Cl) (ck:Cl) (p:Pd) (n:Nd) (pa:Option Addr) (pl pc:Nat) (na:Option Addr) (nl nc:Nat) (t:ByteArray) (b:Nat):Fact:=fun v w=> ∃(d':Ad) (c':Cl) (e0:Int),v=.agg #[.slice d'.a1 d'.l1 d'.c1,.slice d'.a2 d'.l2 d'.c2,.slice d'.a3 d'.l3 d'.c3,.slice d'.a4 d'.l4 d'.c4,.slice d'.a5 d'.l5 d'.c5,.int .i64 c'.now,.string p.n,.int .i64 p.c,.string p.z,.slice pa pl pc,.string p.d,.int .i64 p.p,.string n.n,.string n.z,.int .i64 n.c,.int .i64 n.s,.int .i64 n.u,.bool n.d,.slice na nl nc]/\cJ ck n t c' e0/\ku d c b w d' c'
theorem TrF.mono (d:Ad) (c:Cl) (ck:Cl) (p:Pd) (n:Nd) (pa:Option Addr) (pl pc:Nat) (na:Option Addr) (nl nc:Nat) (t:ByteArray) (b:Nat):Fact.bB (TrF d c ck p n pa pl pc na nl nc t b):=by
 rintro v w w' ⟨d',c',e0,h1,h2,h4⟩ hb;exact⟨d',c',e0,h1,h2,h4.below hb⟩
def HvF (ck:Cl) (n:Nd) (t:ByteArray):Fact:=fun v _=> ∃(c':Cl) (e0:Int),fL v e0/\cJ ck n t c' e0
theorem HvF.mono (ck:Cl) (n:Nd) (t:ByteArray):Fact.bB (HvF ck n t):=fun _ _ _ h _=>h

theorem zl (d:Ad) (c:Cl) (p:Pd) (n:Nd) (pa:Option Addr) (pl pc:Nat) (na:Option Addr) (nl nc:Nat) (i:Nat) (w:World) (hr:aJ w d c.raw) (hT:aB c) (hp:c.ps[i]?=some p) (hpz:ay w pa pl pc p.zs) (E:Nat->Addr) (hG:Ers w E) (hn:oA n):
  Calls Tryz.prog 60 #[.agg #[.slice d.a1 d.l1 d.c1,.slice d.a2 d.l2 d.c2,.slice d.a3 d.l3 d.c3,.slice d.a4 d.l4 d.c4,.slice d.a5 d.l5 d.c5,.int .i64 c.now,.string p.n,.int .i64 p.c,.string p.z,.slice pa pl pc,.string p.d,.int .i64 p.p,.string n.n,.string n.z,.int .i64 n.c,.int .i64 n.s,.int .i64 n.u,.bool n.d,.slice na nl nc]] w fun e w'=>Ey d c p n pa pl pc na nl nc i w e w':=by
 have HR:=aa hr;have HT:=aa hT;have HP:=aa hp;have HPZ:=aa hpz;have HE:=aa hG;have HN:=aa hn;have HB:=aa (Fw w.heap.size w);clear hr hT hp hpz hG hn;go_enter Tryz.func60,Tryz.ntmps60;have BT2:Hid (((w.alloc (.cells (trv d c p n pa pl pc na nl nc) 66)).alloc (.cells #[.slice none 0 0,.slice none 0 0,.slice none 0 0,.slice none 0 0,.slice none 0 0,.int .i64 0,.string ⟨#[]⟩,.int .i64 0,.string ⟨#[]⟩,.slice none 0 0,.string ⟨#[]⟩,.int .i64 0,.string ⟨#[]⟩,.string ⟨#[]⟩,.int .i64 0,.int .i64 0,.int .i64 0,.bool false,.slice none 0 0] 66)).heap[w.heap.size]?=some (.cells (trv d c p n pa pl pc na nl nc) 66 (0,0))):=cU _ _ _;go_wp2_with (refine wpList_load_row (o:=⟨some 6,.load 66 (.tmp 1),_,_,_,none⟩) rfl _ _ rfl w.heap.size rfl _ _ _ _ BT2.out Tryz.underlying66 rfl aQ ?_);clear BT2;refine (ju _ _ _ _ _ _ _ _ _ _ _ _ _ _ _ _ _ _ _ (w.heap.size+1+1) 3 3 [(147,.agg #[],fY c n),(148,.agg #[],jc p n),(149,.agg #[],kM c p n)] _ rfl af aS (fun j T v P hj=>by
  rcases j with _|_|_|j
  ·cases hj
   exact⟨aw (cS _ _ _ _) 0,AZ d c p n pa pl pc na nl nc _⟩
  ·cases hj
   exact⟨aw (cS _ _ _ _) 1,AW d c p n pa pl pc na nl nc _⟩
  ·cases hj
   exact⟨aw (cS _ _ _ _) 2,DR d c p n pa pl pc na nl nc _ (HR.below (bI _ _ _ _)) HT.out HN.2.2.1⟩
  ·simp at hj)).mono ?_
 rintro e w1 ⟨⟨h1,rfl,hi⟩,hb⟩;have HF:Hid (zW c p n 0 h1 c):=by
  rcases hi with ⟨j,T,v,P,hj,hp,rfl,hlt⟩|⟨rfl,hno⟩
  ·rcases j with _|_|_|j
   ·cases hj;exact .inr ⟨_,_,11,rfl,.inr ⟨by decide,.inl ⟨_,rfl,rfl⟩⟩,by decide,.inl ⟨.inl ⟨hp,rfl⟩,fun ⟨_,h⟩=>absurd (Value.iface.inj h).1 aj⟩⟩
   ·cases hj;exact .inr ⟨_,_,8,rfl,.inr ⟨by decide,.inr (.inl ⟨_,rfl,rfl⟩)⟩,by decide,.inl ⟨.inr ⟨hlt 0 _ _ _ af rfl,.inl ⟨hp,rfl⟩⟩,fun ⟨_,h⟩=>absurd (Value.iface.inj h).1 aj⟩⟩
   ·cases hj;exact .inr ⟨_,_,9,rfl,.inr ⟨by decide,.inr (.inr (.inl ⟨_,rfl,rfl⟩))⟩,by decide,.inl ⟨.inr ⟨hlt 0 _ _ _ af rfl,.inr ⟨hlt 1 _ _ _ af rfl,.inl ⟨hp,rfl⟩⟩⟩,fun ⟨_,h⟩=>absurd (Value.iface.inj h).1 aj⟩⟩
   ·simp at hj
  ·exact .inl ⟨rfl,.inr ⟨hno 0 _ _ _ rfl,.inr ⟨hno 1 _ _ _ rfl,.inr ⟨hno 2 _ _ _ rfl,rfl⟩⟩⟩,rfl⟩
 clear hi;obtain⟨HA0,HA1,HA2,hbx⟩:=lS hb;have Bt:=aa HA0;have Br:=aa HA1;have Bs:=aa HA2;replace HB:=upB HB hbx;clear hb hbx HA0 HA1 HA2;have hpl:p.zs.length=pl:=HPZ.1;have hpm:pl<=9223372036854775807:=FA HPZ.2.1 HPZ.2.2.1;go_wp2;go_loopw [4,5] (fun h i wr=> ∃(k:Nat) (dk:Ad) (ck:Cl),k<=pl/\i=.int .i64 k/\Hid (zW c p n k h ck)/\Hid (Below w.heap.size w wr)/\Hid (wr.heap[w.heap.size]?=some (.cells (trv dk ck p n pa pl pc na nl nc) 66 (0,0)))/\Hid (wr.heap[w.heap.size+1]?=some (.cells #[.slice none 0 0,.slice none 0 0,.slice none 0 0,.slice none 0 0,.slice none 0 0,.int .i64 0,.string ⟨#[]⟩,.int .i64 0,.string ⟨#[]⟩,.slice none 0 0,.string ⟨#[]⟩,.int .i64 0,.string ⟨#[]⟩,.string ⟨#[]⟩,.int .i64 0,.int .i64 0,.int .i64 0,.bool false,.slice none 0 0] 66 (0,0)))/\Hid (ku d c (w.heap.size+2) wr dk ck)) (fun _ i _=>pl - (intOf i).toNat);case atStart=>exact⟨0,d,c,by omega,rfl,HF,HB,Bt,Br,.inl ⟨rfl,rfl⟩⟩
 case round=>
  clear HF HB Bt Br Bs;obtain⟨k,dk,ck,hk,rfl,HS,HB,Bt,Br,HOK⟩:=hrel;have ltt:=ae Bt.out;have ltr:=ae Br.out;have t9:wr.cell? ⟨w.heap.size,9,none⟩=some (.slice pa pl pc):=aw Bt.out 9;rcases HS.out with ⟨rfl,hs1,hs2⟩|⟨T,v,e0,rfl,hs1,hs2,hs3⟩
  ·have HS1:=aa hs1;have HS2:=aa hs2;clear hs1 hs2 HS;by_cases hlt:k<pl
   ·have hlt2:(k:Int)<(pl:Int):=af
    obtain⟨b2,o2,tt,rfl,hb2,hx,hc,-⟩:=(HPZ.below HB.out).at hlt;have HX:=aa hx;have hRR:=cv.right HT.out HN.2.1 k ck HS2.out;have HTk:=aa hRR.1;have HHk:=aa (hRR.2.2.2.2.2 tt ((HT.2.2.2.1.1 _ _ HP.out).1 k tt hx));have HRk:=aa (HOK.row HR.out HB.out);clear hx hRR;go_wp2_with fail;rename_i K0 hK0;refine Gv.o_ aq rfl rfl rfl rfl aq ?_;refine' Gv.au.an (.agg #[.slice dk.a1 dk.l1 dk.c1,.slice dk.a2 dk.l2 dk.c2,.slice dk.a3 dk.l3 dk.c3,.slice dk.a4 dk.l4 dk.c4,.slice dk.a5 dk.l5 dk.c5,.int .i64 ck.now,.string p.n,.int .i64 p.c,.string p.z,.slice (some ⟨b2,o2,none⟩) pl pc,.string p.d,.int .i64 p.p,.string n.n,.string n.z,.int .i64 n.c,.int .i64 n.s,.int .i64 n.u,.bool n.d,.slice na nl nc]) rfl ?_ ?_
    ·refine Obl.plain rfl ?_;intro ac wg K hsz hW hf hK;clear hsz;have e1:=hf 1 aj;simp[ai,Fs] at e1;clear hf;refine wp_load_row _ _ rfl w.heap.size (by simpa[Iu] using e1) _ _ _ _ ((hW.block _ (ae Bt.out)).trans Bt.out) Tryz.underlying66 rfl aQ ?_;exact hK _ _ (Fw _ _) rfl
    refine' Gv.au.an _ rfl ?_ ?_;rotate_left 1
    ·exact gd
    refine' Gv.au.an _ rfl ?_ ?_;rotate_left 1
    ·refine Obl.plain rfl ?_;intro ac wg K hsz hW hf hK;clear hsz;have e29:=hf 29 aj;simp[ai,Fs] at e29;clear hf;exact aU
    refine' Gv.au.an _ rfl ?_ ?_;rotate_left 1
    ·refine Obl.plain rfl ?_;intro ac wg K hsz hW hf hK;clear hsz;have e30:=hf 30 aj;simp[ai,Fs] at e30;clear hf;have c9:wg.cell? ⟨w.heap.size,9,none⟩=some (.slice (some ⟨b2,o2,none⟩) pl pc):=(hW.cell ltt).trans t9;have l9:=FE ltt hW.size;exact aU
    refine' Gv.au.an _ rfl ?_ ?_;rotate_left 1
    ·exact l8
    refine' Gv.au.an _ rfl ?_ ?_;rotate_left 1
    ·refine Obl.plain rfl ?_;intro ac wg K hsz hW hf hK;clear hsz;have e31:=hf 31 aj;simp[ai,Fs] at e31;have e32:=hf 32 aj;simp[ai,Fs] at e32;clear hf;exact aU
    refine' Gv.au.an _ rfl ?_ ?_;rotate_left 1
    ·refine Obl.plain rfl ?_;intro ac wg K hsz hW hf hK;clear hsz;have e33:=hf 33 aj;simp[ai,Fs] at e33;clear hf;have c0:wg.cell? ⟨b2,o2+k,none⟩=some (.string tt):=(hW.cell hb2).trans hc;have l0:=FE hb2 hW.size;exact aU
    refine Gv.au.step (TuF d c dk ck p n (some ⟨b2,o2,none⟩) pl pc na nl nc tt (w.heap.size+2)) rfl (TuF.mono _ _ _ _ _ _ _ _ _ _ _ _ _ _) ?_ ?_
    ·refine Obl.plain rfl ?_;intro ac wg K hsz hW hf hK;clear hsz;have e28:=hf 28 aj;simp[ai,Fs] at e28;have e34:=hf 34 aj;simp[ai,Fs] at e34;clear hf;go_simp;refine (zk dk ck p n (some ⟨b2,o2,none⟩) pl pc na nl nc tt wg (HRk.below hW) HTk.out HHk.out E (HE.below (HB.trans (hW.mono HB.size))) HN.2.1).mono ?_;rintro e w6 ⟨d',c',e0,hv,rfl,h1,h2,h3,h4,hb6⟩;refine hK _ _ hb6 ⟨d',c',e0,hv,rfl,h1,h2,?_⟩;rcases h4 with ⟨rfl,rfl⟩|h4
     ·exact (HOK.below hW).below hb6
     ·exact .inr (h4.bA (fun j _ s=>by have s2:wg.heap.size<=j:=s;have s3:=hW.size;show w.heap.size+2<=j;omega))
    refine Gv.au.step (TuF d c dk ck p n (some ⟨b2,o2,none⟩) pl pc na nl nc tt (w.heap.size+2)) rfl (TuF.mono _ _ _ _ _ _ _ _ _ _ _ _ _ _) ?_ ?_
    ·refine Obl.plain rfl ?_;intro ac wg K hsz hW hf hK;clear hsz;have e35:=hf 35 aj;simp[ai,Fs] at e35;clear hf;obtain⟨d',c',e0,hv,e35,h1,h2,h3⟩:=e35;go_simp;exact hK _ _ (Fw _ _) ⟨d',c',e0,hv,rfl,h1,h2,h3⟩
    refine Gv.au.step (TrF d c ck p n (some ⟨b2,o2,none⟩) pl pc na nl nc tt (w.heap.size+2)) rfl (TrF.mono _ _ _ _ _ _ _ _ _ _ _ _ _) ?_ ?_
    ·refine Obl.plain rfl ?_;intro ac wg K hsz hW hf hK;clear hsz;have e27:=hf 27 aj;simp[ai,Fs] at e27;clear hf;obtain⟨d',c',e0,hv,e27,h1,h2,h3⟩:=e27;go_simp;exact hK _ _ (Fw _ _) ⟨d',c',e0,rfl,h1,h3⟩
    refine Gv.au.late (HvF ck n tt) rfl (HvF.mono _ _ _) ?_ ?_ ?_
    ·refine Obl.plain rfl ?_;intro ac wg K hsz hW hf hK;clear hsz;have e27:=hf 27 aj;simp[ai,Fs] at e27;clear hf;obtain⟨d',c',e0,hv,e27,h1,h2,h3⟩:=e27;go_simp;exact hK _ _ (Fw _ _) ⟨c',e0,h2,h1⟩
    ·intro q wz hW hf;simp only[FI] at hf;obtain⟨⟨c2,e2,hv2,hn2⟩,⟨d1,c1,e1,h36,hn1,hown⟩,-,-,h34,h33,h32,h31,h30,h29,h28,-⟩:=hf;obtain⟨rfl,rfl⟩:=hn1.same HTk.out hn2;obtain⟨HWZ,Bt6,Br6,HSK,H3⟩:=BD;clear hW hv2 hn1 hn2 hown;have HA19:Hid ((#[.slice d1.a1 d1.l1 d1.c1,.slice d1.a2 d1.l2 d1.c2,.slice d1.a3 d1.l3 d1.c3,.slice d1.a4 d1.l4 d1.c4,.slice d1.a5 d1.l5 d1.c5,.int .i64 c1.now,.string p.n,.int .i64 p.c,.string p.z,.slice (some ⟨b2,o2,none⟩) pl pc,.string p.d,.int .i64 p.p,.string n.n,.string n.z,.int .i64 n.c,.int .i64 n.s,.int .i64 n.u,.bool n.d,.slice na nl nc]:Array Value).all (·.oneCell')=true):=by show _=true;simp[GH]
     intro K hK;rw[if_pos bF];simp only[aE,Gd,GO,Fz,FH,FM,h36,h34,h33,h32,h31,h30,h29,h28];refine wp_store_row _ _ _ rfl w.heap.size (trv d1 c1 p n (some ⟨b2,o2,none⟩) pl pc na nl nc) rfl rfl _ _ Bt6.out aQ rfl HA19.out ?_;exact CC
    ·intro q wz hW hf;simp only[FI] at hf;obtain⟨⟨d1,c1,e1,h36,hn1,hown⟩,⟨d2,c2,e2,hvv,h27,hn2,hv2,-⟩,-,h34,h33,h32,h31,h30,h29,h28,-⟩:=hf;obtain⟨rfl,rfl⟩:=hn1.same HTk.out hn2;obtain⟨HWZ,Bt6,Br6,HSK,H3⟩:=BD;clear hW hv2 hn1 hn2 hown;have HA19:Hid ((#[.slice d1.a1 d1.l1 d1.c1,.slice d1.a2 d1.l2 d1.c2,.slice d1.a3 d1.l3 d1.c3,.slice d1.a4 d1.l4 d1.c4,.slice d1.a5 d1.l5 d1.c5,.int .i64 c1.now,.string p.n,.int .i64 p.c,.string p.z,.slice (some ⟨b2,o2,none⟩) pl pc,.string p.d,.int .i64 p.p,.string n.n,.string n.z,.int .i64 n.c,.int .i64 n.s,.int .i64 n.u,.bool n.d,.slice na nl nc]:Array Value).all (·.oneCell')=true):=by show _=true;simp[GH]
     intro K hK;rw[if_pos bF];simp only[aE,Gd,GO,Fz,FH,FM,h36,h27,h34,h33,h32,h31,h30,h29,h28];refine wp_store_row _ _ _ rfl w.heap.size (trv d1 c1 p n (some ⟨b2,o2,none⟩) pl pc na nl nc) rfl rfl _ _ Bt6.out aQ rfl HA19.out ?_;refine hK _ _ ?_;clear hK K;intro K hK;rw[if_pos bF];go_simp;exact CC
   ·obtain rfl:pl=k:=af
    have HAll:Hid (o8 c n p.zs ck 0):=.inl ⟨by rw[hpl];exact HS2.out,rfl⟩;have hRR:=cv.right HT.out HN.2.1 pl ck HS2.out;have HTk:=aa hRR.1;have HPk:Hid (ck.ps[i]?=some p):=by rw[hRR.2.2.2.1];exact HP.out
    have HRk:=aa (HOK.row HR.out HB.out);have HNO:Hid (c.now=ck.now):=hRR.2.2.2.2.1.symm;clear hRR t9;have t0:wr.cell? ⟨w.heap.size,0,none⟩=some (.slice dk.a1 dk.l1 dk.c1):=aw Bt.out 0;have t1:wr.cell? ⟨w.heap.size,1,none⟩=some (.slice dk.a2 dk.l2 dk.c2):=aw Bt.out 1;have t2:wr.cell? ⟨w.heap.size,2,none⟩=some (.slice dk.a3 dk.l3 dk.c3):=aw Bt.out 2;have t3:wr.cell? ⟨w.heap.size,3,none⟩=some (.slice dk.a4 dk.l4 dk.c4):=aw Bt.out 3;have t4:wr.cell? ⟨w.heap.size,4,none⟩=some (.slice dk.a5 dk.l5 dk.c5):=aw Bt.out 4;have t5:wr.cell? ⟨w.heap.size,5,none⟩=some (.int .i64 ck.now):=aw Bt.out 5;have t6:wr.cell? ⟨w.heap.size,6,none⟩=some (.string p.n):=aw Bt.out 6;have t7:wr.cell? ⟨w.heap.size,7,none⟩=some (.int .i64 p.c):=aw Bt.out 7;have t8:wr.cell? ⟨w.heap.size,8,none⟩=some (.string p.z):=aw Bt.out 8;have t9:wr.cell? ⟨w.heap.size,9,none⟩=some (.slice pa pl pc):=aw Bt.out 9;have t10:wr.cell? ⟨w.heap.size,10,none⟩=some (.string p.d):=aw Bt.out 10;have t11:wr.cell? ⟨w.heap.size,11,none⟩=some (.int .i64 p.p):=aw Bt.out 11;have t12:wr.cell? ⟨w.heap.size,12,none⟩=some (.string n.n):=aw Bt.out 12;have f10:=av Bt.out 10;have f11:=av Bt.out 11;go_wp2_with fail;have e9:(wr.setCell ⟨w.heap.size,10,none⟩ (.string n.n)).setCell ⟨w.heap.size,11,none⟩ (.int .i64 1)=wr.setRow w.heap.size #[.slice dk.a1 dk.l1 dk.c1,.slice dk.a2 dk.l2 dk.c2,.slice dk.a3 dk.l3 dk.c3,.slice dk.a4 dk.l4 dk.c4,.slice dk.a5 dk.l5 dk.c5,.int .i64 ck.now,.string p.n,.int .i64 p.c,.string p.z,.slice pa pl pc,.string n.n,.int .i64 1,.string n.n,.string n.z,.int .i64 n.c,.int .i64 n.s,.int .i64 n.u,.bool n.d,.slice na nl nc]:=by
     rw[setCell_eq_setRow _ _ _ _ _ _ _ Bt.out,setCell_eq_setRow _ _ _ _ _ _ _ (setRow_heap _ _ _ _ _ _ Bt.out),setRow_setRow];rfl
    obtain⟨W,hW0⟩:∃W,W=wr.setRow w.heap.size #[.slice dk.a1 dk.l1 dk.c1,.slice dk.a2 dk.l2 dk.c2,.slice dk.a3 dk.l3 dk.c3,.slice dk.a4 dk.l4 dk.c4,.slice dk.a5 dk.l5 dk.c5,.int .i64 ck.now,.string p.n,.int .i64 p.c,.string p.z,.slice pa pl pc,.string n.n,.int .i64 1,.string n.n,.string n.z,.int .i64 n.c,.int .i64 n.s,.int .i64 n.u,.bool n.d,.slice na nl nc]:=⟨_,rfl⟩;have BtW:=aa (setRow_heap wr w.heap.size _ #[.slice dk.a1 dk.l1 dk.c1,.slice dk.a2 dk.l2 dk.c2,.slice dk.a3 dk.l3 dk.c3,.slice dk.a4 dk.l4 dk.c4,.slice dk.a5 dk.l5 dk.c5,.int .i64 ck.now,.string p.n,.int .i64 p.c,.string p.z,.slice pa pl pc,.string n.n,.int .i64 1,.string n.n,.string n.z,.int .i64 n.c,.int .i64 n.s,.int .i64 n.u,.bool n.d,.slice na nl nc] _ _ Bt.out);have BrW:=aa ((setRow_other wr w.heap.size (w.heap.size+1) #[.slice dk.a1 dk.l1 dk.c1,.slice dk.a2 dk.l2 dk.c2,.slice dk.a3 dk.l3 dk.c3,.slice dk.a4 dk.l4 dk.c4,.slice dk.a5 dk.l5 dk.c5,.int .i64 ck.now,.string p.n,.int .i64 p.c,.string p.z,.slice pa pl pc,.string n.n,.int .i64 1,.string n.n,.string n.z,.int .i64 n.c,.int .i64 n.s,.int .i64 n.u,.bool n.d,.slice na nl nc] af).trans Br.out);have HBX:=aa (below_setRow HB.out (Ft _) #[.slice dk.a1 dk.l1 dk.c1,.slice dk.a2 dk.l2 dk.c2,.slice dk.a3 dk.l3 dk.c3,.slice dk.a4 dk.l4 dk.c4,.slice dk.a5 dk.l5 dk.c5,.int .i64 ck.now,.string p.n,.int .i64 p.c,.string p.z,.slice pa pl pc,.string n.n,.int .i64 1,.string n.n,.string n.z,.int .i64 n.c,.int .i64 n.s,.int .i64 n.u,.bool n.d,.slice na nl nc]);have HOW:=aa (HOK.set (b':=w.heap.size) (cs:=#[.slice dk.a1 dk.l1 dk.c1,.slice dk.a2 dk.l2 dk.c2,.slice dk.a3 dk.l3 dk.c3,.slice dk.a4 dk.l4 dk.c4,.slice dk.a5 dk.l5 dk.c5,.int .i64 ck.now,.string p.n,.int .i64 p.c,.string p.z,.slice pa pl pc,.string n.n,.int .i64 1,.string n.n,.string n.z,.int .i64 n.c,.int .i64 n.s,.int .i64 n.u,.bool n.d,.slice na nl nc]) af);rw[e9,<-hW0];rw[<-hW0] at BtW BrW HBX HOW;have HRW:=aa (HOW.row HR.out HBX.out);clear e9 hW0 Bt Br HB HOK HRk f10 f11 ltt ltr t0 t1 t2 t3 t4 t5 t6 t7 t8 t9 t10 t11 t12;have hpo:=HT.2.1.2.2.2.2.2.1 i p HP.out;have hp8:pl<=8001:=by have h9:=hpo.2.2.2.1.1;omega
    have hil:i<d.l5:=by
     have h8:(c.ps.map pdF).length=d.l5:=HR.p.1;rw[FU] at h8;have h9:=(Fm.1 HP.out).1;omega
    obtain⟨b3,o3,p3,-,-,hp3,hat3⟩:=bY HR.p hil;rw[HP.out] at hp3;cases hp3;obtain⟨_,_,_,-,z0,z2,z4,-⟩:=aT hat3;have zn:n.n.size<=9223372036854775807:=oC HN.1;refine (rm dk ck (onP p n.n) pa pl pc W HRW.out HTk.sm (HPZ.below HBX.out) hp8 z0 z2 zn).mono ?_;clear hpo hp8 hat3 z0 z2 z4 zn hil;rintro e w2 ⟨d2,rfl,ho,hb⟩;have HO2:=aa (ho.bA (S':=fun k=>w.heap.size+2<=k) (fun k _ s=>by have s2:W.heap.size<=k:=s;have s3:=ae BrW.out;show w.heap.size+2<=k;omega));have Bt2:=upK BtW hb;have Br2:=upK BrW hb;have HB2:=upB HBX hb;clear ho hb BtW BrW HBX HOW HRW;have HA6:Hid ((#[.slice d2.a1 d2.l1 d2.c1,.slice d2.a2 d2.l2 d2.c2,.slice d2.a3 d2.l3 d2.c3,.slice d2.a4 d2.l4 d2.c4,.slice d2.a5 d2.l5 d2.c5,.int .i64 ck.now]:Array Value).all (·.oneCell')=true):=by show _=true;simp[GH]
    go_wp2_with (refine eh (op:=⟨none,.store 36 (.tmp 54) (.tmp 53),_,_,_,none⟩) rfl _ _ _ rfl w.heap.size 0 #[.slice d2.a1 d2.l1 d2.c1,.slice d2.a2 d2.l2 d2.c2,.slice d2.a3 d2.l3 d2.c3,.slice d2.a4 d2.l4 d2.c4,.slice d2.a5 d2.l5 d2.c5,.int .i64 ck.now] #[.slice d2.a1 d2.l1 d2.c1,.slice d2.a2 d2.l2 d2.c2,.slice d2.a3 d2.l3 d2.c3,.slice d2.a4 d2.l4 d2.c4,.slice d2.a5 d2.l5 d2.c5,.int .i64 ck.now,.string p.n,.int .i64 p.c,.string p.z,.slice pa pl pc,.string n.n,.int .i64 1,.string n.n,.string n.z,.int .i64 n.c,.int .i64 n.s,.int .i64 n.u,.bool n.d,.slice na nl nc] rfl rfl _ _ Bt2.out sI (Nat.le_of_ble_eq_true rfl) HA6.out rfl ?_);obtain⟨W3,hW3⟩:∃W,W=w2.setRow w.heap.size #[.slice d2.a1 d2.l1 d2.c1,.slice d2.a2 d2.l2 d2.c2,.slice d2.a3 d2.l3 d2.c3,.slice d2.a4 d2.l4 d2.c4,.slice d2.a5 d2.l5 d2.c5,.int .i64 ck.now,.string p.n,.int .i64 p.c,.string p.z,.slice pa pl pc,.string n.n,.int .i64 1,.string n.n,.string n.z,.int .i64 n.c,.int .i64 n.s,.int .i64 n.u,.bool n.d,.slice na nl nc]:=⟨_,rfl⟩;have Bt3:=aa (setRow_heap w2 w.heap.size _ #[.slice d2.a1 d2.l1 d2.c1,.slice d2.a2 d2.l2 d2.c2,.slice d2.a3 d2.l3 d2.c3,.slice d2.a4 d2.l4 d2.c4,.slice d2.a5 d2.l5 d2.c5,.int .i64 ck.now,.string p.n,.int .i64 p.c,.string p.z,.slice pa pl pc,.string n.n,.int .i64 1,.string n.n,.string n.z,.int .i64 n.c,.int .i64 n.s,.int .i64 n.u,.bool n.d,.slice na nl nc] _ _ Bt2.out);have Br3:=aa ((setRow_other w2 w.heap.size (w.heap.size+1) #[.slice d2.a1 d2.l1 d2.c1,.slice d2.a2 d2.l2 d2.c2,.slice d2.a3 d2.l3 d2.c3,.slice d2.a4 d2.l4 d2.c4,.slice d2.a5 d2.l5 d2.c5,.int .i64 ck.now,.string p.n,.int .i64 p.c,.string p.z,.slice pa pl pc,.string n.n,.int .i64 1,.string n.n,.string n.z,.int .i64 n.c,.int .i64 n.s,.int .i64 n.u,.bool n.d,.slice na nl nc] af).trans Br2.out);have HB3:=aa (below_setRow HB2.out (Ft _) #[.slice d2.a1 d2.l1 d2.c1,.slice d2.a2 d2.l2 d2.c2,.slice d2.a3 d2.l3 d2.c3,.slice d2.a4 d2.l4 d2.c4,.slice d2.a5 d2.l5 d2.c5,.int .i64 ck.now,.string p.n,.int .i64 p.c,.string p.z,.slice pa pl pc,.string n.n,.int .i64 1,.string n.n,.string n.z,.int .i64 n.c,.int .i64 n.s,.int .i64 n.u,.bool n.d,.slice na nl nc]);have HO3:=aa (HO2.kept (dO (b:=w.heap.size) (cs:=#[.slice d2.a1 d2.l1 d2.c1,.slice d2.a2 d2.l2 d2.c2,.slice d2.a3 d2.l3 d2.c3,.slice d2.a4 d2.l4 d2.c4,.slice d2.a5 d2.l5 d2.c5,.int .i64 ck.now,.string p.n,.int .i64 p.c,.string p.z,.slice pa pl pc,.string n.n,.int .i64 1,.string n.n,.string n.z,.int .i64 n.c,.int .i64 n.s,.int .i64 n.u,.bool n.d,.slice na nl nc])) (fun k s e=>by have s2:w.heap.size+2<=k:=s;omega));rw[<-hW3] at Bt3 Br3 HB3 HO3 ⊢;clear hW3 Bt2 Br2 HB2 HO2;have HPL:Hid (mi ck (onP p n.n)=plC ck i p n.n):=Ax n.n HTk.2.1.2.2.2.2.2.2 HPk.out;rename_i K0 hK0;refine Gu.pe aq rfl rfl rfl aq ?_;refine' Gu.au.an (.agg #[.slice d2.a1 d2.l1 d2.c1,.slice d2.a2 d2.l2 d2.c2,.slice d2.a3 d2.l3 d2.c3,.slice d2.a4 d2.l4 d2.c4,.slice d2.a5 d2.l5 d2.c5,.int .i64 ck.now,.string p.n,.int .i64 p.c,.string p.z,.slice pa pl pc,.string n.n,.int .i64 1,.string n.n,.string n.z,.int .i64 n.c,.int .i64 n.s,.int .i64 n.u,.bool n.d,.slice na nl nc]) rfl ?_ ?_
    ·exact Cs
    refine' Gu.au.an (.agg #[.slice d2.a1 d2.l1 d2.c1,.slice d2.a2 d2.l2 d2.c2,.slice d2.a3 d2.l3 d2.c3,.slice d2.a4 d2.l4 d2.c4,.slice d2.a5 d2.l5 d2.c5,.int .i64 ck.now,.string p.n,.int .i64 p.c,.string p.z,.slice pa pl pc,.string n.n,.int .i64 1,.string n.n,.string n.z,.int .i64 n.c,.int .i64 n.s,.int .i64 n.u,.bool n.d,.slice na nl nc]) rfl ?_ ?_
    ·exact Cs
    refine' Gu.au.an _ rfl ?_ ?_;rotate_left 1
    ·refine Obl.plain rfl ?_;intro ac wg K hsz hW hf hK;clear hsz;clear hf;exact aU
    refine' Gu.au.an _ rfl ?_ ?_;rotate_left 1
    ·refine Obl.plain rfl ?_;intro ac wg K hsz hW hf hK;clear hsz;have e57:=hf 57 aj;simp[ai,Fs] at e57;clear hf;exact aU
    refine Gu.au.step (HsG #[.iface 152 (.agg #[])]) rfl (HsG.mono _) ?_ ?_
    ·refine Obl.plain rfl ?_;intro ac wg K hsz hW hf hK;clear hsz;have e58:=hf 58 aj;simp[ai,Fs] at e58;clear hf;go_simp;exact hK _ _ (al _ _) ⟨wg.heap.size,rfl,heap_alloc_new wg _⟩
    refine Gu.au.step (SsF (gw ck i p n)) rfl (SsF.mono _) ?_ ?_
    ·refine Obl.plain rfl ?_;intro ac wg K hsz hW hf hK;clear hsz;have e56:=hf 56 aj;simp[ai,Fs] at e56;have e59:=hf 59 aj;simp[ai,Fs] at e59;clear hf;obtain⟨b,e59,hb59⟩:=e59;go_simp;have hv8:(mi ck (onP p n.n)).vs.length<=8:=HTk.sm.v;refine (ju _ _ _ _ _ _ _ _ _ _ _ _ _ _ _ _ _ _ _ b 1 1 [(152,.agg #[],n.s<((dJ (mi ck (onP p n.n)) n.n (mi ck (onP p n.n)).vs).length:Int))] wg rfl af (ae hb59) (fun j T u P hj=>by
      rcases j with _|j
      ·cases hj
       exact⟨aw hb59 0,AX d2 (mi ck (onP p n.n)) (onP p n.n) n pa pl pc na nl nc _ (HO3.row.below hW) hv8⟩
      ·simp at hj)).mono ?_
     rintro e w6 ⟨⟨rr,rfl,hi⟩,hb6⟩;refine hK _ _ hb6 ?_;rw[HPL.out] at hi;rcases hi with ⟨j,T,u,P,hj,hp,rfl,hlt⟩|⟨rfl,hno⟩
     ·rcases j with _|j
      ·cases hj;exact⟨9,.inr ⟨by decide,.inr (.inr (.inr (.inr (.inr (.inr (.inr ⟨_,rfl,rfl⟩))))))⟩,.inl ⟨hp,rfl⟩⟩
      ·simp at hj
     ·exact⟨0,.inl ⟨rfl,rfl⟩,.inr ⟨hno 0 _ _ _ rfl,rfl⟩⟩
    refine Gu.au.done ?_;intro q wz hW hf;simp only[FI] at hf;obtain⟨⟨e0,he1,he2⟩,⟨b,h59,-⟩,h58,h57,h56,h55,-⟩:=hf;have HWZ:=upB HB3 hW;have Br6:=upK Br3 hW;have HO6:=aa ((HO3.below hW).kept (dO (b:=w.heap.size+1) (cs:=#[.slice d2.a1 d2.l1 d2.c1,.slice d2.a2 d2.l2 d2.c2,.slice d2.a3 d2.l3 d2.c3,.slice d2.a4 d2.l4 d2.c4,.slice d2.a5 d2.l5 d2.c5,.int .i64 ck.now,.string p.n,.int .i64 p.c,.string p.z,.slice pa pl pc,.string n.n,.int .i64 1,.string n.n,.string n.z,.int .i64 n.c,.int .i64 n.s,.int .i64 n.u,.bool n.d,.slice na nl nc])) (fun k s e=>by have s2:w.heap.size+2<=k:=s;omega));have H1:=aa he1;have H2:=aa he2;clear hW he1 he2;have HA19:Hid ((#[.slice d2.a1 d2.l1 d2.c1,.slice d2.a2 d2.l2 d2.c2,.slice d2.a3 d2.l3 d2.c3,.slice d2.a4 d2.l4 d2.c4,.slice d2.a5 d2.l5 d2.c5,.int .i64 ck.now,.string p.n,.int .i64 p.c,.string p.z,.slice pa pl pc,.string n.n,.int .i64 1,.string n.n,.string n.z,.int .i64 n.c,.int .i64 n.s,.int .i64 n.u,.bool n.d,.slice na nl nc]:Array Value).all (·.oneCell')=true):=by show _=true;simp[GH]
    intro K hK;rw[if_pos bF];simp only[aE,Gd,GO,Fz,FH,FM,h59,h58,h57,h56,h55];refine wp_store_row _ _ _ rfl (w.heap.size+1) #[.slice d2.a1 d2.l1 d2.c1,.slice d2.a2 d2.l2 d2.c2,.slice d2.a3 d2.l3 d2.c3,.slice d2.a4 d2.l4 d2.c4,.slice d2.a5 d2.l5 d2.c5,.int .i64 ck.now,.string p.n,.int .i64 p.c,.string p.z,.slice pa pl pc,.string n.n,.int .i64 1,.string n.n,.string n.z,.int .i64 n.c,.int .i64 n.s,.int .i64 n.u,.bool n.d,.slice na nl nc] rfl rfl _ _ Br6.out aQ rfl HA19.out ?_;refine hK _ _ ?_;clear hK K;intro K hK;rw[if_pos bF];go_simp;refine hK _ _ ?_;refine hK0 _ _ ?_;clear hK hK0 K K0;go_wp2;rw[HPL.out] at HO6;exact bodyPost_ret (v:=.tuple #[.agg #[.slice d2.a1 d2.l1 d2.c1,.slice d2.a2 d2.l2 d2.c2,.slice d2.a3 d2.l3 d2.c3,.slice d2.a4 d2.l4 d2.c4,.slice d2.a5 d2.l5 d2.c5,.int .i64 ck.now,.string p.n,.int .i64 p.c,.string p.z,.slice pa pl pc,.string n.n,.int .i64 1,.string n.n,.string n.z,.int .i64 n.c,.int .i64 n.s,.int .i64 n.u,.bool n.d,.slice na nl nc],q 60]) (results_cell_tmp rfl _ _ (w.heap.size+1) _ _ _ _ _ rfl rfl (setRow_heap _ (w.heap.size+1) _ #[.slice d2.a1 d2.l1 d2.c1,.slice d2.a2 d2.l2 d2.c2,.slice d2.a3 d2.l3 d2.c3,.slice d2.a4 d2.l4 d2.c4,.slice d2.a5 d2.l5 d2.c5,.int .i64 ck.now,.string p.n,.int .i64 p.c,.string p.z,.slice pa pl pc,.string n.n,.int .i64 1,.string n.n,.string n.z,.int .i64 n.c,.int .i64 n.s,.int .i64 n.u,.bool n.d,.slice na nl nc] _ _ Br6.out) Tryz.underlying66 rfl aQ) rfl ⟨d2,plC ck i p n.n,plC ck i p n.n,onP p n.n,e0,q 60,rfl,dx.yX HS1.out HAll.out (.inr ⟨rfl,H2.elim (fun h=>.inl h) (fun h=>.inr ⟨h.1,h.2,rfl⟩)⟩),H1.out,fun _=>HS1.out,fun _=>⟨rfl,HO6.bA (fun k _ s=>by have s2:w.heap.size+2<=k:=s;show w.heap.size<=k;omega)⟩,below_setRow HWZ.out af _⟩
  ·have HS1:=aa hs1;have HS3:=aa hs3;have HNE:=aa hs2;clear hs1 hs2 hs3 HS;have HA19:Hid ((#[.slice dk.a1 dk.l1 dk.c1,.slice dk.a2 dk.l2 dk.c2,.slice dk.a3 dk.l3 dk.c3,.slice dk.a4 dk.l4 dk.c4,.slice dk.a5 dk.l5 dk.c5,.int .i64 ck.now,.string p.n,.int .i64 p.c,.string p.z,.slice pa pl pc,.string p.d,.int .i64 p.p,.string n.n,.string n.z,.int .i64 n.c,.int .i64 n.s,.int .i64 n.u,.bool n.d,.slice na nl nc]:Array Value).all (·.oneCell')=true):=by show _=true;simp[GH]
   go_wp2_with (first
    | refine wpList_load_row (o:=⟨some 40,.load 66 (.tmp 1),_,_,_,none⟩) rfl _ _ rfl w.heap.size rfl _ _ _ _ Bt.out Tryz.underlying66 rfl aQ ?_
    | refine wpList_store_row (o:=⟨none,.store 66 (.tmp 2) (.tmp 40),_,_,_,none⟩) rfl _ _ _ rfl (w.heap.size+1) (trv dk ck p n pa pl pc na nl nc) rfl rfl _ _ Br.out aQ rfl HA19.out ?_)
   exact bodyPost_ret (v:=.tuple #[.agg #[.slice dk.a1 dk.l1 dk.c1,.slice dk.a2 dk.l2 dk.c2,.slice dk.a3 dk.l3 dk.c3,.slice dk.a4 dk.l4 dk.c4,.slice dk.a5 dk.l5 dk.c5,.int .i64 ck.now,.string p.n,.int .i64 p.c,.string p.z,.slice pa pl pc,.string p.d,.int .i64 p.p,.string n.n,.string n.z,.int .i64 n.c,.int .i64 n.s,.int .i64 n.u,.bool n.d,.slice na nl nc],.iface T v]) (results_cell_tmp rfl _ _ (w.heap.size+1) _ _ _ _ _ rfl rfl (setRow_heap _ (w.heap.size+1) _ (trv dk ck p n pa pl pc na nl nc) _ _ Br.out) Tryz.underlying66 rfl aQ) rfl ⟨dk,ck,ck,p,e0,_,rfl,HS3.elim (fun h=>dx.DC h.1 HNE.out) (fun h=>dx.yX h.1 h.2 (.inl ⟨HNE.out,rfl⟩)),HS1.out,fun a=>HS3.elim (fun h=>absurd a h.2) (fun h=>h.1),fun h=>absurd h HNE.out,below_setRow HB.out af _⟩

end Rc
end Go.Proofs.YtpejepeekdjfoaaGreatDoor

namespace Go.Proofs.YtpejepeekdjfoaaGreatDoor
open Go.RowKit
namespace Rc

theorem kF (v:Value) (w:World):(GY (.iface 147 v) 112 116 true).run Tryz.prog w=.ok (.tuple #[.agg #[.string ⟨#[]⟩,.bool false,.bool false,.string ⟨#[]⟩],.bool false]) w:=by kernel_rfl
theorem pt (v:Value) (w:World):(GY (.iface 116 v) 112 116 true).run Tryz.prog w=.ok (.tuple #[v,.bool true]) w:=by kernel_rfl
theorem kC (v:Value) (w:World):(GY (.iface 148 v) 112 116 true).run Tryz.prog w=.ok (.tuple #[.agg #[.string ⟨#[]⟩,.bool false,.bool false,.string ⟨#[]⟩],.bool false]) w:=by kernel_rfl
theorem jB (v:Value) (w:World):(GY (.iface 173 v) 112 116 true).run Tryz.prog w=.ok (.tuple #[.agg #[.string ⟨#[]⟩,.bool false,.bool false,.string ⟨#[]⟩],.bool false]) w:=by kernel_rfl
theorem lP (v:Value) (w:World):(GY (.iface 149 v) 112 116 true).run Tryz.prog w=.ok (.tuple #[.agg #[.string ⟨#[]⟩,.bool false,.bool false,.string ⟨#[]⟩],.bool false]) w:=by kernel_rfl
theorem kD (v:Value) (w:World):(GY (.iface 152 v) 112 116 true).run Tryz.prog w=.ok (.tuple #[.agg #[.string ⟨#[]⟩,.bool false,.bool false,.string ⟨#[]⟩],.bool false]) w:=by kernel_rfl
theorem kE (v:Value) (w:World):(GY (.iface 179 v) 112 116 true).run Tryz.prog w=.ok (.tuple #[.agg #[.string ⟨#[]⟩,.bool false,.bool false,.string ⟨#[]⟩],.bool false]) w:=by kernel_rfl
theorem jA (v:Value) (w:World):(GY (.iface 174 v) 112 116 true).run Tryz.prog w=.ok (.tuple #[.agg #[.string ⟨#[]⟩,.bool false,.bool false,.string ⟨#[]⟩],.bool false]) w:=by kernel_rfl
end Rc
end Go.Proofs.YtpejepeekdjfoaaGreatDoor

namespace Go.Proofs.YtpejepeekdjfoaaGreatDoor
open Go.RowKit
namespace Rc
open Mk

def BtI (c:Cl) (t:ByteArray) (E:Nat->Addr) (w:World) (e:Ending) (w':World):Prop:=Below w.heap.size w w'/\((∃i,i<9/\kB c t i/\e=.returned (.tuple #[.agg #[.slice none 0 0,.slice none 0 0,.slice none 0 0,.slice none 0 0,.slice none 0 0,.int .i64 0,.string ⟨#[]⟩,.int .i64 0,.string ⟨#[]⟩,.slice none 0 0,.string ⟨#[]⟩,.int .i64 0,.string ⟨#[]⟩,.string ⟨#[]⟩,.int .i64 0,.int .i64 0,.int .i64 0,.bool false,.slice none 0 0],.iface 266 (.pointer (some (E i)))]))\/
 (¬8000<t.size/\aB c/\∃(x p':Pd) (b:Nat) (n:Nd) (c':Cl) (d':Ad) (va:Option Addr) (vl vc:Nat) (na:Option Addr) (nl nc:Nat),c.ps[pl Pd.n c.ps t]?=some x/\x.n=t/\x.p=0/\kO c (pl Pd.n c.ps t) x b n/\dx c (pl Pd.n c.ps t) x n c' 0/\e=.returned (.tuple #[.agg #[.slice d'.a1 d'.l1 d'.c1,.slice d'.a2 d'.l2 d'.c2,.slice d'.a3 d'.l3 d'.c3,.slice d'.a4 d'.l4 d'.c4,.slice d'.a5 d'.l5 d'.c5,.int .i64 c'.now,.string p'.n,.int .i64 p'.c,.string p'.z,.slice va vl vc,.string p'.d,.int .i64 p'.p,.string n.n,.string n.z,.int .i64 n.c,.int .i64 n.s,.int .i64 n.u,.bool n.d,.slice na nl nc],.nilIface])/\bQ w' d' c'.raw (fun k=>w.heap.size<=k)))
def mJ (u:Value):Fact:=fun v _=>v=u
theorem mJ.mono (u:Value):Fact.bB (mJ u):=fun _ _ _ h _=>h
theorem zI {W a:World} {g:Nat} {cs old:Array Value} {T:TypeId} (hg:W.heap.size<=g) (ho:a.heap[g]?=some (.cells old T (0,0))) (hs:old.size=cs.size):Gs.Form W a (a.setRow g cs):=by
 refine⟨below_setRow (Fw _ _) hg _,fun k c0 T0 hk=>?_⟩;by_cases e:k=g
 ·subst e;rw[ho] at hk;cases hk;exact⟨cs,hs.symm,setRow_heap _ _ _ _ _ _ ho⟩
 ·exact⟨c0,rfl,(setRow_other _ _ _ _ e).trans hk⟩
def PsT (W:World):Fact:=fun v w=> ∃g,v=.pointer (some ⟨g,0,none⟩)/\W.heap.size<=g/\w.heap[g]?=some (.cells #[.slice none 0 0,.slice none 0 0,.slice none 0 0,.slice none 0 0,.slice none 0 0,.int .i64 0,.string ⟨#[]⟩,.int .i64 0,.string ⟨#[]⟩,.slice none 0 0,.string ⟨#[]⟩,.int .i64 0,.string ⟨#[]⟩,.string ⟨#[]⟩,.int .i64 0,.int .i64 0,.int .i64 0,.bool false,.slice none 0 0] 66 (0,0))
theorem PsT.mono (W:World):(PsT W).bB:=by
 rintro v a b ⟨g,h1,h2,h4⟩ hb;exact⟨g,h1,h2,(hb.block g (ae h4)).trans h4⟩
theorem Db {c:Cl} {ms ls:List Nv} {k:Nat} {u:Nv} (hm:ms.map Nv.n=c.ns) (hs:eg (frV c) ltN ms ls ms.length) (hu:ls[k]?=some u):∃j:Nat,c.ns[j]?=some u.n:=by
 obtain⟨P,rfl,_,h2,_⟩:=hs;rw[List.drop_length,GF] at hu;rw[Iw] at h2;obtain⟨j,hj⟩:=List.getElem?_of_mem (h2.mem_iff.1 (List.mem_of_getElem? hu));exact⟨j,by rw[<-hm,FC,hj];rfl⟩
theorem oV:(Tryz.prog.built 66 []).isSome=true:=by kernel_rfl
theorem lE:(Tryz.prog.built 66 []).getD #[]=#[.slice none 0 0,.slice none 0 0,.slice none 0 0,.slice none 0 0,.slice none 0 0,.int .i64 0,.string ⟨#[]⟩,.int .i64 0,.string ⟨#[]⟩,.slice none 0 0,.string ⟨#[]⟩,.int .i64 0,.string ⟨#[]⟩,.string ⟨#[]⟩,.int .i64 0,.int .i64 0,.int .i64 0,.bool false,.slice none 0 0]:=by kernel_rfl

theorem fL.sw {hv:Value} {e:Int} (h:fL hv e) (hne:¬e=0):∃(T:TypeId) (v x:Value) (b:Bool),hv=.iface T v/\(∀w,(GY (.iface T v) 112 116 true).run Tryz.prog w=.ok (.tuple #[x,.bool b]) w)/\(b=true->Alo hv/\e=11):=by
 rcases h with ⟨_,h⟩|⟨_,⟨v,rfl,_⟩|⟨v,rfl,_⟩|⟨v,rfl,_⟩|⟨v,rfl,_⟩|⟨v,rfl,_⟩|⟨v,rfl,h⟩|rfl|⟨v,rfl,_⟩⟩
 ·exact absurd h hne
 ·exact⟨_,v,_,false,rfl,kF v,fun h=>by cases h⟩
 ·exact⟨_,v,_,false,rfl,kC v,fun h=>by cases h⟩
 ·exact⟨_,v,_,false,rfl,lP v,fun h=>by cases h⟩
 ·exact⟨_,v,_,false,rfl,jB v,fun h=>by cases h⟩
 ·exact⟨_,v,_,false,rfl,jA v,fun h=>by cases h⟩
 ·exact⟨_,v,_,true,rfl,pt v,fun _=>⟨⟨v,rfl⟩,h⟩⟩
 ·exact⟨_,_,_,false,rfl,kE _,fun h=>by cases h⟩
 ·exact⟨_,v,_,false,rfl,kD v,fun h=>by cases h⟩
theorem yY {c:Cl} {p:Pd} {n:Nd} (h:je c p n 0):¬fY c n:=by
 rcases h with ⟨_,h⟩|⟨h,_⟩
 ·exact absurd h aj
 ·exact h
theorem AO (a:Act):((#[]:Array (Nat×Operand)).map fun (i,x)=>(i,a.eval x)).toList=[]:=by simp
theorem E7 {ops:Array Oper} {rest:List Oper} {o:Oper} {a:Act} {w:World} {Q:Exit->Act->World->Prop} (hg:o.guard=none) (ho:o.op=.build 66 #[]) (h:wpList Tryz.prog ops Q rest (a.put o.dst (.agg #[.slice none 0 0,.slice none 0 0,.slice none 0 0,.slice none 0 0,.slice none 0 0,.int .i64 0,.string ⟨#[]⟩,.int .i64 0,.string ⟨#[]⟩,.slice none 0 0,.string ⟨#[]⟩,.int .i64 0,.string ⟨#[]⟩,.string ⟨#[]⟩,.int .i64 0,.int .i64 0,.int .i64 0,.bool false,.slice none 0 0])) w):wpList Tryz.prog ops Q (o ::rest) a w:=by
 refine wpList_build hg _ _ ho ?_ ?_
 ·rw[AO];exact oV
 ·rw[AO,lE];exact h
theorem Et {o:Oper} {a:Act} {w:World} {K:Act->World->Prop} {Q:Exit->Act->World->Prop} (ho:o.op=.build 66 #[]) (h:K (a.put o.dst (.agg #[.slice none 0 0,.slice none 0 0,.slice none 0 0,.slice none 0 0,.slice none 0 0,.int .i64 0,.string ⟨#[]⟩,.int .i64 0,.string ⟨#[]⟩,.slice none 0 0,.string ⟨#[]⟩,.int .i64 0,.string ⟨#[]⟩,.string ⟨#[]⟩,.int .i64 0,.int .i64 0,.int .i64 0,.bool false,.slice none 0 0])) w):o.wp Tryz.prog a w K Q:=by
 refine wp_build _ _ ho ?_ ?_
 ·rw[AO];exact oV
 ·rw[AO,lE];exact h

theorem AV (d:Ad) (c:Cl) (t:ByteArray) (E:Nat->Addr) (w:World) (hr:aJ w d c.raw) (hG:Ers w E):
  Calls Tryz.prog 29 #[.agg #[.slice d.a1 d.l1 d.c1,.slice d.a2 d.l2 d.c2,.slice d.a3 d.l3 d.c3,.slice d.a4 d.l4 d.c4,.slice d.a5 d.l5 d.c5,.int .i64 c.now],.string t] w (BtI c t E w):=by
 obtain⟨HR,HE,HB⟩:=k_;clear hr hG;go_enter Tryz.func29,Tryz.ntmps29;go_wp2_with fail;refine wp_scope_straight ?_;go_wp2_with fail;refine (tP d c t E _ (HR.below (HB.trans ((aF _ _ _).mono HB.size))) (HE.below (HB.trans ((aF _ _ _).mono HB.size)))).mono ?_;rintro e w1 ⟨hb,hf⟩;have HBW:=aa hb;obtain⟨HA0,HA1,hbx⟩:=cH hb;have Bk:=aa HA0;have Br:=aa HA1;replace HB:=upB HB hbx;clear hb hbx HA0 HA1;rcases hf with ⟨i,hi8,hwhy,rfl⟩|⟨hl,hT,x,va,vl,vc,hx,hn,rfl,hvr⟩
 ·have HW:Hid (kB c t i):=by
   rcases i with _|_|_|i
   ·exact hwhy
   ·exact hwhy
   ·exact hwhy
   ·exact hwhy.elim
  clear hwhy;obtain⟨ltr,HA19⟩:=B_;have HG9:Hid ((w1.alloc (.cells #[.string ⟨#[]⟩,.int .i64 0,.string ⟨#[]⟩,.slice none 0 0,.string ⟨#[]⟩,.int .i64 0] 64)).heap[w.heap.size+1]?=some (.cells #[.slice none 0 0,.slice none 0 0,.slice none 0 0,.slice none 0 0,.slice none 0 0,.int .i64 0,.string ⟨#[]⟩,.int .i64 0,.string ⟨#[]⟩,.slice none 0 0,.string ⟨#[]⟩,.int .i64 0,.string ⟨#[]⟩,.string ⟨#[]⟩,.int .i64 0,.int .i64 0,.int .i64 0,.bool false,.slice none 0 0] 66 (0,0))):=(Fy _ _ _ ltr).trans Br.out;go_wp2_with (first|refine E7 (o:=⟨some 21,.build 66 #[],_,_,_,none⟩) rfl rfl ?_|refine wpList_store_row (o:=⟨none,.store 66 (.tmp 4) (.tmp 21),_,_,_,none⟩) rfl _ _ _ rfl (w.heap.size+1) #[.slice none 0 0,.slice none 0 0,.slice none 0 0,.slice none 0 0,.slice none 0 0,.int .i64 0,.string ⟨#[]⟩,.int .i64 0,.string ⟨#[]⟩,.slice none 0 0,.string ⟨#[]⟩,.int .i64 0,.string ⟨#[]⟩,.string ⟨#[]⟩,.int .i64 0,.int .i64 0,.int .i64 0,.bool false,.slice none 0 0] rfl rfl _ _ HG9.out aQ rfl HA19.out ?_);rw[Exit.noGoto_ret];exact bodyPost_ret (v:=.tuple #[.agg #[.slice none 0 0,.slice none 0 0,.slice none 0 0,.slice none 0 0,.slice none 0 0,.int .i64 0,.string ⟨#[]⟩,.int .i64 0,.string ⟨#[]⟩,.slice none 0 0,.string ⟨#[]⟩,.int .i64 0,.string ⟨#[]⟩,.string ⟨#[]⟩,.int .i64 0,.int .i64 0,.int .i64 0,.bool false,.slice none 0 0],.iface 266 (.pointer (some (E i)))]) (results_cell_tmp rfl _ _ (w.heap.size+1) _ _ _ _ _ rfl rfl (setRow_heap _ (w.heap.size+1) _ #[.slice none 0 0,.slice none 0 0,.slice none 0 0,.slice none 0 0,.slice none 0 0,.int .i64 0,.string ⟨#[]⟩,.int .i64 0,.string ⟨#[]⟩,.slice none 0 0,.string ⟨#[]⟩,.int .i64 0,.string ⟨#[]⟩,.string ⟨#[]⟩,.int .i64 0,.int .i64 0,.int .i64 0,.bool false,.slice none 0 0] _ _ HG9.out) Tryz.underlying66 rfl aQ) rfl ⟨below_setRow (HB.trans ((al _ _).mono HB.size)) af _,.inl ⟨i,hi8,HW.out,rfl⟩⟩
 have HT:=aa hT;have HX:=aa hx;have HXN:=aa hn;have HL:=aa hl;have HVR:=aa (hvr.below HBW.out);clear hx hn hl hT hvr;by_cases h0:x.p=0;rotate_left
 ·have hq:(x.p==0)=false:=by simpa using h0
  have H0:=aa h0;clear h0;have ev:=(HE.below (HB.trans ((al w1 (.cells (pov x va vl vc) 64)).mono HB.size))).v8;obtain⟨k0,k1,k2,k3,k4,k5⟩:=cs6 Bk;have ltk_1:=ae Bk.out;go_wp2_with fail;clear k0 k1 k2 k3 k4 k5 ltk_1;have HBP:=aa (HB.trans ((al w1 (.cells (pov x va vl vc) 64)).mono HB.size));have HEP:=aa (HE.below HBP.out);have BrP:Hid ((w1.alloc (.cells (pov x va vl vc) 64)).heap[w.heap.size+1]?=some (.cells #[.slice none 0 0,.slice none 0 0,.slice none 0 0,.slice none 0 0,.slice none 0 0,.int .i64 0,.string ⟨#[]⟩,.int .i64 0,.string ⟨#[]⟩,.slice none 0 0,.string ⟨#[]⟩,.int .i64 0,.string ⟨#[]⟩,.string ⟨#[]⟩,.int .i64 0,.int .i64 0,.int .i64 0,.bool false,.slice none 0 0] 66 (0,0))):=(Fy _ _ _ (ae Br.out)).trans Br.out;clear ev;rename_i K0 hK0;refine Gv.o_ aq rfl rfl rfl rfl aq ?_;refine' Gv.au.an (.agg #[.slice none 0 0,.slice none 0 0,.slice none 0 0,.slice none 0 0,.slice none 0 0,.int .i64 0,.string ⟨#[]⟩,.int .i64 0,.string ⟨#[]⟩,.slice none 0 0,.string ⟨#[]⟩,.int .i64 0,.string ⟨#[]⟩,.string ⟨#[]⟩,.int .i64 0,.int .i64 0,.int .i64 0,.bool false,.slice none 0 0]) rfl ?_ ?_
  ·exact xS
  refine Gv.au.late (mJ (.iface 266 (.pointer (some (E 8))))) rfl (mJ.mono _) ?_ ?_ ?_
  ·refine Obl.plain rfl ?_;intro ac wg K hsz hW hf hK;clear hsz hf;have ev:=(HEP.below hW).v8;have evl:=bg ev;go_simp;exact hK _ _ (Fw _ _) rfl
  ·intro q wz hW hf;simp only[FI] at hf;obtain⟨h27,h26,-⟩:=hf;replace h27:q 27=.iface 266 (.pointer (some (E 8))):=h27;obtain⟨HWZ,Br6,ltr,HA19,ev,HE8⟩:=Ci;clear hW;intro K hK;rw[if_pos bF];simp only[aE,Gd,GO,Fz,FH,FM,h27,h26];refine wp_store_row _ _ _ rfl (w.heap.size+1) #[.slice none 0 0,.slice none 0 0,.slice none 0 0,.slice none 0 0,.slice none 0 0,.int .i64 0,.string ⟨#[]⟩,.int .i64 0,.string ⟨#[]⟩,.slice none 0 0,.string ⟨#[]⟩,.int .i64 0,.string ⟨#[]⟩,.string ⟨#[]⟩,.int .i64 0,.int .i64 0,.int .i64 0,.bool false,.slice none 0 0] rfl rfl _ _ Br6.out aQ rfl HA19.out ?_;refine hK _ _ ?_;clear hK K ev;exact C0
  ·intro q wz hW hf;simp only[FI] at hf;obtain⟨h26,-⟩:=hf;obtain⟨HWZ,Br6,ltr,HA19,ev,HE8⟩:=Ci;clear hW;intro K hK;rw[if_pos bF];simp only[aE,Gd,GO,Fz,FH,FM,h26];refine wp_store_row _ _ _ rfl (w.heap.size+1) #[.slice none 0 0,.slice none 0 0,.slice none 0 0,.slice none 0 0,.slice none 0 0,.int .i64 0,.string ⟨#[]⟩,.int .i64 0,.string ⟨#[]⟩,.slice none 0 0,.string ⟨#[]⟩,.int .i64 0,.string ⟨#[]⟩,.string ⟨#[]⟩,.int .i64 0,.int .i64 0,.int .i64 0,.bool false,.slice none 0 0] rfl rfl _ _ Br6.out aQ rfl HA19.out ?_;refine hK _ _ ?_;clear hK K ev;have ev8:=HE8.out;have ev9:=bg ev8;intro K hK;rw[if_pos bF];go_simp;refine hK _ _ ?_;clear hK K;exact C0
 have hq:(x.p==0)=true:=by simpa using h0
 have H0:=aa h0;clear h0;have ev:=(HE.below (HB.trans ((al w1 (.cells (pov x va vl vc) 64)).mono HB.size))).v7;have ev2:=(HE.below (HB.trans ((aF w1 (.cells (pov x va vl vc) 64) (.cells #[.slice none 0 0,.slice none 0 0,.slice none 0 0,.slice none 0 0,.slice none 0 0,.int .i64 0,.string ⟨#[]⟩,.int .i64 0,.string ⟨#[]⟩,.slice none 0 0,.string ⟨#[]⟩,.int .i64 0,.string ⟨#[]⟩,.string ⟨#[]⟩,.int .i64 0,.int .i64 0,.int .i64 0,.bool false,.slice none 0 0] 66)).mono HB.size))).v7;have evl:=bg (HE.below HB.out).v7;obtain⟨k0,k1,k2,k3,k4,k5⟩:=cs6 Bk;have ltk_1:=ae Bk.out;go_wp2_with fail;clear k0 k1 k2 k3 k4 k5 ltk_1;clear ev ev2 evl;have HBP:=aa (HB.trans ((al w1 (.cells (pov x va vl vc) 64)).mono HB.size));have HEP:=aa (HE.below HBP.out);have HRB:Hid (w.heap.size+1<w1.heap.size):=ae Br.out;have BrP:Hid ((w1.alloc (.cells (pov x va vl vc) 64)).heap[w.heap.size+1]?=some (.cells #[.slice none 0 0,.slice none 0 0,.slice none 0 0,.slice none 0 0,.slice none 0 0,.int .i64 0,.string ⟨#[]⟩,.int .i64 0,.string ⟨#[]⟩,.slice none 0 0,.string ⟨#[]⟩,.int .i64 0,.string ⟨#[]⟩,.string ⟨#[]⟩,.int .i64 0,.int .i64 0,.int .i64 0,.bool false,.slice none 0 0] 66 (0,0))):=(Fy _ _ _ (ae Br.out)).trans Br.out;have BkP:Hid ((w1.alloc (.cells (pov x va vl vc) 64)).heap[w.heap.size]?=some (.cells (clv d c.now) 36 (0,0))):=(Fy _ _ _ (ae Bk.out)).trans Bk.out;have BpP:Hid ((w1.alloc (.cells (pov x va vl vc) 64)).heap[w1.heap.size]?=some (.cells (pov x va vl vc) 64 (0,0))):=FD;have HA19:Hid ((#[.slice none 0 0,.slice none 0 0,.slice none 0 0,.slice none 0 0,.slice none 0 0,.int .i64 0,.string ⟨#[]⟩,.int .i64 0,.string ⟨#[]⟩,.slice none 0 0,.string ⟨#[]⟩,.int .i64 0,.string ⟨#[]⟩,.string ⟨#[]⟩,.int .i64 0,.int .i64 0,.int .i64 0,.bool false,.slice none 0 0]:Array Value).all (·.oneCell')=true):=by show _=true;simp[GH]
 rename_i K0 hK0;refine Gs.aR (SR:=Gs.Form (w1.alloc (.cells (pov x va vl vc) 64))) 8 (PsT (w1.alloc (.cells (pov x va vl vc) 64))) (PsT.mono (w1.alloc (.cells (pov x va vl vc) 64))) (fun h=>h.low) aq rfl rfl aq ?_;refine' Gs.au.an (.agg #[.slice none 0 0,.slice none 0 0,.slice none 0 0,.slice none 0 0,.slice none 0 0,.int .i64 0,.string ⟨#[]⟩,.int .i64 0,.string ⟨#[]⟩,.slice none 0 0,.string ⟨#[]⟩,.int .i64 0,.string ⟨#[]⟩,.string ⟨#[]⟩,.int .i64 0,.int .i64 0,.int .i64 0,.bool false,.slice none 0 0]) rfl ?_ ?_
 ·exact xS
 refine' Gs.au.an (.iface 266 (.pointer (some (E 7)))) rfl ?_ ?_
 ·refine Obl.plain rfl ?_;intro ac wg K hsz hW hf hK;clear hsz hf;have ev:=(HEP.below hW).v7;have evl:=bg ev;go_simp;exact hK _ _ (Fw _ _) rfl
 refine Gs.au.step (Gs.EF (w1.alloc (.cells (pov x va vl vc) 64)) 19 66) rfl (Gs.EF.mono (w1.alloc (.cells (pov x va vl vc) 64)) 19 66) ?_ ?_
 ·refine Obl.plain rfl ?_;intro ac wg K hsz hW hf hK;clear hsz hf;go_simp;exact hK _ _ (al _ _) ⟨_,_,rfl,hW.size,rfl,FD⟩
 refine Gs.au.store rfl ?_ ?_
 ·refine Gs.lI.plain rfl ?_;intro ac wg K hsz hW hf hK;clear hsz;have e8:=hf 8 aj;simp[ai,Fs] at e8;have e28:=hf 28 aj;simp[ai,Fs] at e28;clear hf;obtain⟨g,cs,e8,hgB,hcs,hgk⟩:=e8;refine wp_store_row _ _ _ rfl g #[.slice none 0 0,.slice none 0 0,.slice none 0 0,.slice none 0 0,.slice none 0 0,.int .i64 0,.string ⟨#[]⟩,.int .i64 0,.string ⟨#[]⟩,.slice none 0 0,.string ⟨#[]⟩,.int .i64 0,.string ⟨#[]⟩,.string ⟨#[]⟩,.int .i64 0,.int .i64 0,.int .i64 0,.bool false,.slice none 0 0] (by simpa[Iu] using e8) (by simpa[Iu] using e28) _ _ hgk aQ (by rw[hcs];rfl) HA19.out ?_;exact hK undef _ (zI hgB hgk (by rw[hcs];rfl)) ⟨g,by simpa using e8,hgB,setRow_heap _ _ _ _ _ _ hgk⟩
 refine Gs.au.done ?_;intro q wz hW hf hps;simp only[FI] at hf;obtain⟨-,h29,h28,-⟩:=hf;have hps2:PsT (w1.alloc (.cells (pov x va vl vc) 64)) (q 8) wz:=by simpa[aE,GO] using hps
 obtain⟨g,hv8,hgB,hblk⟩:=hps2;have HGV:=aa hblk;have HW6:=upB HBP hW;have Bk6:=upK BkP hW;have Br6:=upK BrP hW;have Bp6:=upK BpP hW;have HV6:=aa ((HVR.below (al _ _)).below hW);clear hps hblk;intro K hK;rw[if_pos bF];simp only[aE,Gd,GO,Fz,FH,FM,h29,h28,hv8];go_simp;refine hK _ _ ?_;refine hK0 _ _ ?_;clear hK hK0 K K0;obtain⟨k0,k1,k2,k3,k4,k5⟩:=cs6 Bk6;have ltk:=ae Bk6.out;go_wp2_with fail;refine wp_label ?_;go_wp2_with fail;refine (tK d c _ (HR.below HW6.out) HT.out).mono ?_;rintro e w7 ⟨ms,ls,ra,rg,rc,rfl,hm,htx,hsk,hsa,hra,hb⟩;have HM:=aa hm;have HTX:=aa htx;have HSK:=aa hsk;have HSA:=aa hsa;have HRA:=aa hra;have HGV7:=upK HGV hb;have Bk7:=upK Bk6 hb;have Br7:=upK Br6 hb;have Bp7:=upK Bp6 hb;have HW7:=upB HW6 hb;have HV7:=aa (HV6.below hb);have HG7:Hid (w1.heap.size+1<=g):=by have h:=hgB;simp at h;exact h
 have HLN:Hid (c.ns.length<=9223372036854775807):=by have h:(c.ns.map ndF).length=_:=HR.n.1;have h2:=FA HR.n.2.1 HR.n.2.2.1;rw[FU] at h;show _<=_;omega
 clear hm htx hsk hsa hra hb HGV Bk6 Br6 Bp6 hgB k0 k1 k2 k3 k4 k5 ltk;go_wp2_with fail;go_loopw [7,33] (fun y i wr=> ∃k:Nat,k<=c.ns.length/\y=.iface 266 (.pointer (some (E 7)))/\i=.int .i64 k/\Hid (∀(j:Nat) u,j<k->ls[j]?=some u->¬ic c (pl Pd.n c.ps t) x u.n)/\Hid (Below w7.heap.size w7 wr)) (fun _ i _=>c.ns.length - (intOf i).toNat);case atStart=>exact⟨0,by omega,rfl,rfl,fun _ _ h=>absurd h af,Fw _ _⟩
 case round=>
  obtain⟨k,hk,rfl,rfl,HNO,HBR⟩:=hrel;have HW8:=aa (HW7.trans (HBR.mono HW7.size));have HGV8:=upK HGV7 HBR.out;have Bk8:=upK Bk7 HBR.out;have Br8:=upK Br7 HBR.out;have Bp8:=upK Bp7 HBR.out;have hml:ms.length=c.ns.length:=by rw[<-HM.out,FU]
  by_cases hlt:k<c.ns.length
  ·have hlt2:(k:Int)<(c.ns.length:Int):=af
   obtain rfl:=HRA.out af;have hll:ls.length=ms.length:=HSK.len (Ft _);obtain⟨u,hu⟩:∃u,ls[k]?=some u:=⟨_,Fu (show k<ls.length by omega)⟩;have HU:=aa hu;have hSA:=HSA.below HBR.out;obtain⟨n0,n1,n2,n3,n4,n5,n6⟩:=hSA.cells hu;have hrg:=hSA.lt hu;obtain⟨k0,k1,k2,k3,k4,k5⟩:=cs6 Bk8;obtain⟨p0,p1,p2,p3,p4,p5⟩:=cs6 Bp8;have ltk:=ae Bk8.out;have ltp:=ae Bp8.out;clear hSA hu hll hml;obtain⟨jn,hjn⟩:=Db HM.out HSK.out HU.out;have HJN:=aa hjn;clear hjn;have HW9:=aa (HW8.trans ((al wr (.cells (nov u.n u.a u.l u.c) 57)).mono HW8.size));have HV9:=aa ((HV7.below HBR.out).below (al wr (.cells (nov u.n u.a u.l u.c) 57)));go_wp2_with fail;refine (zl d c x u.n va vl vc u.a u.l u.c (pl Pd.n c.ps t) _ (HR.below HW9.out) HT.out HX.out HV9.out E (HE.below HW9.out) (HT.2.1.1.2.1 _ _ HJN.out)).mono ?_;rintro e w9 ⟨d',c',c3,p',e0,hv,rfl,hset,hin,hal,hown,hb⟩;have HSET:=aa hset;have HOWN:=aa hown;have HAL:=aa hal;have HB9:=aa hb;have HW10:=upB HW9 hb;clear hset hown hal hb n0 n1 n2 n3 n4 n5 n6 k0 k1 k2 k3 k4 k5 p0 p1 p2 p3 p4 p5 ltk ltp hrg;have HA19:Hid ((#[.slice d'.a1 d'.l1 d'.c1,.slice d'.a2 d'.l2 d'.c2,.slice d'.a3 d'.l3 d'.c3,.slice d'.a4 d'.l4 d'.c4,.slice d'.a5 d'.l5 d'.c5,.int .i64 c3.now,.string p'.n,.int .i64 p'.c,.string p'.z,.slice va vl vc,.string p'.d,.int .i64 p'.p,.string u.n.n,.string u.n.z,.int .i64 u.n.c,.int .i64 u.n.s,.int .i64 u.n.u,.bool u.n.d,.slice u.a u.l u.c]:Array Value).all (·.oneCell')=true):=by show _=true;simp[GH]
   have HG9:=aa (heap_alloc_new w9 (.cells #[.slice none 0 0,.slice none 0 0,.slice none 0 0,.slice none 0 0,.slice none 0 0,.int .i64 0,.string ⟨#[]⟩,.int .i64 0,.string ⟨#[]⟩,.slice none 0 0,.string ⟨#[]⟩,.int .i64 0,.string ⟨#[]⟩,.string ⟨#[]⟩,.int .i64 0,.int .i64 0,.int .i64 0,.bool false,.slice none 0 0] 66));rcases hin with ⟨rfl,rfl⟩|⟨hne,hin⟩
   ·as_aux_lemma=>
     obtain⟨bb,hbb⟩:=oW HM.out HT.2.1.1.2.2 HSK.out HU.out ⟨_,HSET.out⟩ HNO.out;have HBB:=aa hbb;clear hbb;have hgl8:=ae HGV8.out;have hrl8:=ae Br8.out;have hs9:=HB9.size;have HGV9:=aa ((HB9.block _ bG).trans ((Fy wr (.cells (nov u.n u.a u.l u.c) 57) _ hgl8).trans HGV8.out));have Br9:=aa ((HB9.block _ bG).trans ((Fy wr (.cells (nov u.n u.a u.l u.c) 57) _ hrl8).trans Br8.out));have hgl9:=ae HGV9.out;have hrl9:=ae Br9.out
     have hrg9:¬w.heap.size+1=g:=by have h:=HG7.out;have h2:=HRB.out;omega
     have H10:=aa (setRow_heap _ (w9.heap.size) _ (trv d' c3 p' u.n va vl vc u.a u.l u.c) _ _ HG9.out);have HGV10:=aa ((setRow_other (w9.alloc (.cells #[.slice none 0 0,.slice none 0 0,.slice none 0 0,.slice none 0 0,.slice none 0 0,.int .i64 0,.string ⟨#[]⟩,.int .i64 0,.string ⟨#[]⟩,.slice none 0 0,.string ⟨#[]⟩,.int .i64 0,.string ⟨#[]⟩,.string ⟨#[]⟩,.int .i64 0,.int .i64 0,.int .i64 0,.bool false,.slice none 0 0] 66)) w9.heap.size g (trv d' c3 p' u.n va vl vc u.a u.l u.c) af).trans ((Fy w9 (.cells #[.slice none 0 0,.slice none 0 0,.slice none 0 0,.slice none 0 0,.slice none 0 0,.int .i64 0,.string ⟨#[]⟩,.int .i64 0,.string ⟨#[]⟩,.slice none 0 0,.string ⟨#[]⟩,.int .i64 0,.string ⟨#[]⟩,.string ⟨#[]⟩,.int .i64 0,.int .i64 0,.int .i64 0,.bool false,.slice none 0 0] 66) _ hgl9).trans HGV9.out))
     have Br10:=aa ((setRow_other (w9.alloc (.cells #[.slice none 0 0,.slice none 0 0,.slice none 0 0,.slice none 0 0,.slice none 0 0,.int .i64 0,.string ⟨#[]⟩,.int .i64 0,.string ⟨#[]⟩,.slice none 0 0,.string ⟨#[]⟩,.int .i64 0,.string ⟨#[]⟩,.string ⟨#[]⟩,.int .i64 0,.int .i64 0,.int .i64 0,.bool false,.slice none 0 0] 66)) w9.heap.size (w.heap.size+1) (trv d' c3 p' u.n va vl vc u.a u.l u.c) af).trans ((Fy w9 (.cells #[.slice none 0 0,.slice none 0 0,.slice none 0 0,.slice none 0 0,.slice none 0 0,.int .i64 0,.string ⟨#[]⟩,.int .i64 0,.string ⟨#[]⟩,.slice none 0 0,.string ⟨#[]⟩,.int .i64 0,.string ⟨#[]⟩,.string ⟨#[]⟩,.int .i64 0,.int .i64 0,.int .i64 0,.bool false,.slice none 0 0] 66) _ hrl9).trans Br9.out));have H11:=aa (setRow_heap _ g _ (trv d' c3 p' u.n va vl vc u.a u.l u.c) _ _ HGV10.out);have Br11:=aa ((setRow_other _ g (w.heap.size+1) (trv d' c3 p' u.n va vl vc u.a u.l u.c) hrg9).trans Br10.out)
     have H12:=aa (setRow_heap _ (w.heap.size+1) _ (trv d' c3 p' u.n va vl vc u.a u.l u.c) _ _ Br11.out);have HS9:=aa (Fo hgl8 (Fo hrl8 (Fo hgl9 (Fo hrl9 hs9))));clear hgl8 hrl8 hgl9 hrl9 hs9 hrg9
     go_wp2_with (first
      | refine wpList_store_row (o:=⟨none,.store 66 (.tmp 11) (.tmp 43),_,_,_,none⟩) rfl _ _ _ rfl w9.heap.size (trv d' c3 p' u.n va vl vc u.a u.l u.c) rfl rfl _ _ HG9.out aQ rfl HA19.out ?_
      | refine wpList_load_row (o:=⟨some 47,.load 66 (.tmp 11),_,_,_,none⟩) rfl _ _ rfl w9.heap.size rfl _ _ _ _ H10.out Tryz.underlying66 rfl aQ ?_
      | refine wpList_store_row (o:=⟨none,.store 66 (.tmp 8) (.tmp 47),_,_,_,none⟩) rfl _ _ _ rfl g (trv d' c3 p' u.n va vl vc u.a u.l u.c) rfl rfl _ _ HGV10.out aQ rfl HA19.out ?_
      | refine wpList_load_row (o:=⟨some 52,.load 66 (.tmp 8),_,_,_,none⟩) rfl _ _ rfl g rfl _ _ _ _ H11.out Tryz.underlying66 rfl aQ ?_
      | refine wpList_store_row (o:=⟨none,.store 66 (.tmp 4) (.tmp 52),_,_,_,none⟩) rfl _ _ _ rfl (w.heap.size+1) (trv d' c3 p' u.n va vl vc u.a u.l u.c) rfl rfl _ _ Br11.out aQ rfl HA19.out ?_)
     rw[Exit.noGoto_ret];obtain⟨h81,h82,h83,h84,h85⟩:=HS9.out;have h86:=HW8.size
     have h87:w.heap.size<=w9.heap.size:=by simp at h85;omega
     obtain⟨rfl,ho⟩:=HOWN.out (by first|rfl|trivial)
     exact bodyPost_ret (v:=.tuple #[.agg #[.slice d'.a1 d'.l1 d'.c1,.slice d'.a2 d'.l2 d'.c2,.slice d'.a3 d'.l3 d'.c3,.slice d'.a4 d'.l4 d'.c4,.slice d'.a5 d'.l5 d'.c5,.int .i64 c3.now,.string p'.n,.int .i64 p'.c,.string p'.z,.slice va vl vc,.string p'.d,.int .i64 p'.p,.string u.n.n,.string u.n.z,.int .i64 u.n.c,.int .i64 u.n.s,.int .i64 u.n.u,.bool u.n.d,.slice u.a u.l u.c],.nilIface]) (results_cell_tmp rfl _ _ (w.heap.size+1) _ _ _ _ _ rfl rfl H12.out Tryz.underlying66 rfl aQ) rfl ⟨below_setRow (below_setRow (below_setRow (HW10.trans ((al _ _).mono HW10.size)) h87 _) (by have h:=HG7.out;have h2:=HRB.out;omega) _) af _,.inr ⟨HL.out,HT.out,x,p',bb,u.n,_,d',va,vl,vc,u.a,u.l,u.c,HX.out,HXN.out,H0.out,HBB.out,HSET.out,rfl,(((((ho.bA (S':=fun k=>wr.heap.size+1<=k/\k<w9.heap.size) (fun k hk s=>⟨by simpa using s,hk⟩)).below (al w9 (.cells #[.slice none 0 0,.slice none 0 0,.slice none 0 0,.slice none 0 0,.slice none 0 0,.int .i64 0,.string ⟨#[]⟩,.int .i64 0,.string ⟨#[]⟩,.slice none 0 0,.string ⟨#[]⟩,.int .i64 0,.string ⟨#[]⟩,.string ⟨#[]⟩,.int .i64 0,.int .i64 0,.int .i64 0,.bool false,.slice none 0 0] 66))).kept (dO (b:=w9.heap.size) (cs:=(trv d' c3 p' u.n va vl vc u.a u.l u.c))) (fun k s e=>by have s2:=s.2;have e2:k=w9.heap.size:=e;omega)).kept (dO (b:=g) (cs:=(trv d' c3 p' u.n va vl vc u.a u.l u.c))) (fun k s e=>by have s2:=s.1;have e2:k=g:=e;omega)).kept (dO (b:=w.heap.size+1) (cs:=(trv d' c3 p' u.n va vl vc u.a u.l u.c))) (fun k s e=>by have s2:=s.1;have e2:k=w.heap.size+1:=e;omega)).bA (S':=fun k=>w.heap.size<=k) (fun k _ s=>by have s2:=s.1;show w.heap.size<=k;omega)⟩⟩
   ·as_aux_lemma=>
     obtain⟨T9,v9,x9,b9,rfl,hta,hal9⟩:=fL.sw (.inr ⟨hne,hin⟩) hne;have HL9:=aa hal9;have HNE:=aa hne;clear hal9 hin hne HOWN;have hgl8:=ae HGV8.out;have hrl8:=ae Br8.out;have hs9:=HB9.size;have HGV9:=aa ((HB9.block _ bG).trans ((Fy wr (.cells (nov u.n u.a u.l u.c) 57) _ hgl8).trans HGV8.out));have Br9:=aa ((HB9.block _ bG).trans ((Fy wr (.cells (nov u.n u.a u.l u.c) 57) _ hrl8).trans Br8.out));have hgl9:=ae HGV9.out;have hrl9:=ae Br9.out;have HGV10:=aa ((setRow_other (w9.alloc (.cells #[.slice none 0 0,.slice none 0 0,.slice none 0 0,.slice none 0 0,.slice none 0 0,.int .i64 0,.string ⟨#[]⟩,.int .i64 0,.string ⟨#[]⟩,.slice none 0 0,.string ⟨#[]⟩,.int .i64 0,.string ⟨#[]⟩,.string ⟨#[]⟩,.int .i64 0,.int .i64 0,.int .i64 0,.bool false,.slice none 0 0] 66)) w9.heap.size g (trv d' c3 p' u.n va vl vc u.a u.l u.c) af).trans ((Fy w9 (.cells #[.slice none 0 0,.slice none 0 0,.slice none 0 0,.slice none 0 0,.slice none 0 0,.int .i64 0,.string ⟨#[]⟩,.int .i64 0,.string ⟨#[]⟩,.slice none 0 0,.string ⟨#[]⟩,.int .i64 0,.string ⟨#[]⟩,.string ⟨#[]⟩,.int .i64 0,.int .i64 0,.int .i64 0,.bool false,.slice none 0 0] 66) _ hgl9).trans HGV9.out))
     have Br10:=aa ((setRow_other (w9.alloc (.cells #[.slice none 0 0,.slice none 0 0,.slice none 0 0,.slice none 0 0,.slice none 0 0,.int .i64 0,.string ⟨#[]⟩,.int .i64 0,.string ⟨#[]⟩,.slice none 0 0,.string ⟨#[]⟩,.int .i64 0,.string ⟨#[]⟩,.string ⟨#[]⟩,.int .i64 0,.int .i64 0,.int .i64 0,.bool false,.slice none 0 0] 66)) w9.heap.size (w.heap.size+1) (trv d' c3 p' u.n va vl vc u.a u.l u.c) af).trans ((Fy w9 (.cells #[.slice none 0 0,.slice none 0 0,.slice none 0 0,.slice none 0 0,.slice none 0 0,.int .i64 0,.string ⟨#[]⟩,.int .i64 0,.string ⟨#[]⟩,.slice none 0 0,.string ⟨#[]⟩,.int .i64 0,.string ⟨#[]⟩,.string ⟨#[]⟩,.int .i64 0,.int .i64 0,.int .i64 0,.bool false,.slice none 0 0] 66) _ hrl9).trans Br9.out))
     have HZ19:Hid ((#[.slice none 0 0,.slice none 0 0,.slice none 0 0,.slice none 0 0,.slice none 0 0,.int .i64 0,.string ⟨#[]⟩,.int .i64 0,.string ⟨#[]⟩,.slice none 0 0,.string ⟨#[]⟩,.int .i64 0,.string ⟨#[]⟩,.string ⟨#[]⟩,.int .i64 0,.int .i64 0,.int .i64 0,.bool false,.slice none 0 0]:Array Value).all (·.oneCell')=true):=by show _=true;simp[GH]
     have HS9:=aa (Fo hgl8 (Fo hrl8 (Fo hgl9 (Fo hrl9 hs9))));clear hgl8 hrl8 hgl9 hrl9 hs9
     cases b9
     ·as_aux_lemma=>
      have h78:=HLN.out
      go_wp2_with (refine wpList_store_row (o:=⟨none,.store 66 (.tmp 11) (.tmp 43),_,_,_,none⟩) rfl _ _ _ rfl w9.heap.size (trv d' c3 p' u.n va vl vc u.a u.l u.c) rfl rfl _ _ HG9.out aQ rfl HA19.out ?_)
      obtain⟨h81,h82,h83,h84,h85⟩:=HS9.out;have h77:=HBR.size
      exact⟨⟨k+1,by omega,by rfl,by go_num,fun j z hj hz=>by
       by_cases e:j=k
       ·subst e;obtain rfl:=Fq (HU.symm.trans hz);rintro⟨c8,h8⟩;exact HNE.out ((dx.same HT.out (HT.2.1.1.2.1 _ _ HJN.out).2.1 HSET.out h8).1)
       ·exact HNO.out j z af hz,below_setRow ((HBR.trans ((al wr (.cells (nov u.n u.a u.l u.c) 57)).mono HBR.size)).trans ((HB9.mono bG).trans ((al _ _).mono (by simp at h85;omega)))) (by simp at h85;omega) _⟩,by simp[intOf];omega⟩
     ·as_aux_lemma=>
      have H12:=aa (setRow_heap _ (w.heap.size+1) _ #[.slice none 0 0,.slice none 0 0,.slice none 0 0,.slice none 0 0,.slice none 0 0,.int .i64 0,.string ⟨#[]⟩,.int .i64 0,.string ⟨#[]⟩,.slice none 0 0,.string ⟨#[]⟩,.int .i64 0,.string ⟨#[]⟩,.string ⟨#[]⟩,.int .i64 0,.int .i64 0,.int .i64 0,.bool false,.slice none 0 0] _ _ Br10.out)
      go_wp2_with (first
       | refine wpList_store_row (o:=⟨none,.store 66 (.tmp 11) (.tmp 43),_,_,_,none⟩) rfl _ _ _ rfl w9.heap.size (trv d' c3 p' u.n va vl vc u.a u.l u.c) rfl rfl _ _ HG9.out aQ rfl HA19.out ?_
       | refine wpList_load_row (o:=⟨some 52,.load 66 (.tmp 8),_,_,_,none⟩) rfl _ _ rfl g rfl _ _ _ _ HGV10.out Tryz.underlying66 rfl aQ ?_
       | refine wpList_store_row (o:=⟨none,.store 66 (.tmp 4) (.tmp 52),_,_,_,none⟩) rfl _ _ _ rfl (w.heap.size+1) #[.slice none 0 0,.slice none 0 0,.slice none 0 0,.slice none 0 0,.slice none 0 0,.int .i64 0,.string ⟨#[]⟩,.int .i64 0,.string ⟨#[]⟩,.slice none 0 0,.string ⟨#[]⟩,.int .i64 0,.string ⟨#[]⟩,.string ⟨#[]⟩,.int .i64 0,.int .i64 0,.int .i64 0,.bool false,.slice none 0 0] rfl rfl _ _ Br10.out aQ rfl HZ19.out ?_)
      rw[Exit.noGoto_ret];obtain⟨h81,h82,h83,h84,h85⟩:=HS9.out;have h86:=HW8.size
      have h87:w.heap.size<=w9.heap.size:=by simp at h85;omega
      obtain⟨hal8,rfl⟩:=HL9.out (by first|rfl|trivial);exact bodyPost_ret (v:=.tuple #[.agg #[.slice none 0 0,.slice none 0 0,.slice none 0 0,.slice none 0 0,.slice none 0 0,.int .i64 0,.string ⟨#[]⟩,.int .i64 0,.string ⟨#[]⟩,.slice none 0 0,.string ⟨#[]⟩,.int .i64 0,.string ⟨#[]⟩,.string ⟨#[]⟩,.int .i64 0,.int .i64 0,.int .i64 0,.bool false,.slice none 0 0],.iface 266 (.pointer (some (E 7)))]) (results_cell_tmp rfl _ _ (w.heap.size+1) _ _ _ _ _ rfl rfl H12.out Tryz.underlying66 rfl aQ) rfl ⟨below_setRow (below_setRow (HW10.trans ((al _ _).mono HW10.size)) h87 _) af _,.inl ⟨7,by decide,⟨HL.out,HT.out,x,HX.out,HXN.out,H0.out,Aln.none HT.out HX.out (Aln.of HT.out HX.out HJN.out HSET.out rfl (yY (HAL.out hal8)))⟩,rfl⟩⟩
  ·as_aux_lemma=>
    obtain rfl:k=c.ns.length:=af
    have HZ19:Hid ((#[.slice none 0 0,.slice none 0 0,.slice none 0 0,.slice none 0 0,.slice none 0 0,.int .i64 0,.string ⟨#[]⟩,.int .i64 0,.string ⟨#[]⟩,.slice none 0 0,.string ⟨#[]⟩,.int .i64 0,.string ⟨#[]⟩,.string ⟨#[]⟩,.int .i64 0,.int .i64 0,.int .i64 0,.bool false,.slice none 0 0]:Array Value).all (·.oneCell')=true):=by show _=true;simp[GH]
    have H12:=aa (setRow_heap _ (w.heap.size+1) _ #[.slice none 0 0,.slice none 0 0,.slice none 0 0,.slice none 0 0,.slice none 0 0,.int .i64 0,.string ⟨#[]⟩,.int .i64 0,.string ⟨#[]⟩,.slice none 0 0,.string ⟨#[]⟩,.int .i64 0,.string ⟨#[]⟩,.string ⟨#[]⟩,.int .i64 0,.int .i64 0,.int .i64 0,.bool false,.slice none 0 0] _ _ Br8.out);have hll:=HSK.len (Ft _);have HNB:=aa (tr HM.out HSK.out (fun j u hu=>HNO.out j u (by have:=(Fm.1 hu).1;omega) hu));have HML:=aa hml;clear hml hll hk
    go_wp2_with (first
     | refine wpList_load_row (o:=⟨some 52,.load 66 (.tmp 8),_,_,_,none⟩) rfl _ _ rfl g rfl _ _ _ _ HGV8.out Tryz.underlying66 rfl aQ ?_
     | refine wpList_store_row (o:=⟨none,.store 66 (.tmp 4) (.tmp 52),_,_,_,none⟩) rfl _ _ _ rfl (w.heap.size+1) #[.slice none 0 0,.slice none 0 0,.slice none 0 0,.slice none 0 0,.slice none 0 0,.int .i64 0,.string ⟨#[]⟩,.int .i64 0,.string ⟨#[]⟩,.slice none 0 0,.string ⟨#[]⟩,.int .i64 0,.string ⟨#[]⟩,.string ⟨#[]⟩,.int .i64 0,.int .i64 0,.int .i64 0,.bool false,.slice none 0 0] rfl rfl _ _ Br8.out aQ rfl HZ19.out ?_)
    rw[Exit.noGoto_ret];have h86:=HW8.size;exact bodyPost_ret (v:=.tuple #[.agg #[.slice none 0 0,.slice none 0 0,.slice none 0 0,.slice none 0 0,.slice none 0 0,.int .i64 0,.string ⟨#[]⟩,.int .i64 0,.string ⟨#[]⟩,.slice none 0 0,.string ⟨#[]⟩,.int .i64 0,.string ⟨#[]⟩,.string ⟨#[]⟩,.int .i64 0,.int .i64 0,.int .i64 0,.bool false,.slice none 0 0],.iface 266 (.pointer (some (E 7)))]) (results_cell_tmp rfl _ _ (w.heap.size+1) _ _ _ _ _ rfl rfl H12.out Tryz.underlying66 rfl aQ) rfl ⟨below_setRow HW8.out af _,.inl ⟨7,by decide,⟨HL.out,HT.out,x,HX.out,HXN.out,H0.out,HNB.out⟩,rfl⟩⟩

def sS (b:Nat) (c:Cl):Fact:=fun v w=> ∃d2:Ad,v=.agg #[.slice d2.a1 d2.l1 d2.c1,.slice d2.a2 d2.l2 d2.c2,.slice d2.a3 d2.l3 d2.c3,.slice d2.a4 d2.l4 d2.c4,.slice d2.a5 d2.l5 d2.c5,.int .i64 c.now]/\bQ w d2 c.raw (fun k=>b<=k)
theorem sS.mono (b:Nat) (c:Cl):Fact.bB (sS b c):=by
 rintro v w w' ⟨d2,h1,h2⟩ hb;exact⟨d2,h1,h2.below hb⟩
def sR (b:Nat) (c:Cl) (t:ByteArray):Fact:=fun v w=> ∃d2:Ad,v=.agg #[.slice d2.a1 d2.l1 d2.c1,.slice d2.a2 d2.l2 d2.c2,.slice d2.a3 d2.l3 d2.c3,.slice d2.a4 d2.l4 d2.c4,.slice d2.a5 d2.l5 d2.c5,.int .i64 c.now,.string t,.int .i64 0]/\bQ w d2 c.raw (fun k=>b<=k)
theorem sR.mono (b:Nat) (c:Cl) (t:ByteArray):Fact.bB (sR b c t):=by
 rintro v w w' ⟨d2,h1,h2⟩ hb;exact⟨d2,h1,h2.below hb⟩
theorem jq:(Tryz.prog.info? 38).map (·.size)=some 8:=by kernel_rfl

theorem ko (d:Ad) (c:Cl) (t:ByteArray) (E:Nat->Addr) (w:World) (hr:aJ w d c.raw) (hG:Ers w E):
  Calls Tryz.prog 8 #[.agg #[.slice d.a1 d.l1 d.c1,.slice d.a2 d.l2 d.c2,.slice d.a3 d.l3 d.c3,.slice d.a4 d.l4 d.c4,.slice d.a5 d.l5 d.c5,.int .i64 c.now],.string t] w (EE (dE c t) w):=by
 obtain⟨HR,HE,HB⟩:=k_;clear hr hG;go_enter Tryz.func8,Tryz.ntmps8;go_wp2_with fail;refine (AV d c t E _ (HR.below (HB.trans ((aF _ _ _).mono HB.size))) (HE.below (HB.trans ((aF _ _ _).mono HB.size)))).mono ?_;rintro e w1 ⟨hb,hf⟩;obtain⟨HA0,HA1,hbx⟩:=cH hb;have Bk:=aa HA0;have Br:=aa HA1;replace HB:=upB HB hbx;clear hb hbx HA0 HA1;rcases hf with ⟨i,hi9,hwhy,rfl⟩|⟨hl,hT,x,p',b,n,c',d',va,vl,vc,na,nl,nc,hx,hn,h0,hbest,hset,rfl,hown⟩
 ·have HV:Hid (dE c t (co0 (dA i))):=.inl ⟨i,hwhy,rfl⟩;clear hwhy;obtain⟨cc,hcc⟩:∃cc,cc=dA i:=⟨_,rfl⟩;rw[<-hcc] at HV;obtain⟨ltr,HA19⟩:=B_;have HG9:=aa (heap_alloc_new w1 (.cells #[.slice none 0 0,.slice none 0 0,.slice none 0 0,.slice none 0 0,.slice none 0 0,.int .i64 0,.string ⟨#[]⟩,.int .i64 0,.string ⟨#[]⟩,.slice none 0 0,.string ⟨#[]⟩,.int .i64 0,.string ⟨#[]⟩,.string ⟨#[]⟩,.int .i64 0,.int .i64 0,.int .i64 0,.bool false,.slice none 0 0] 66));have HBX:Hid (Below w.heap.size w ((w1.alloc (.cells #[.slice none 0 0,.slice none 0 0,.slice none 0 0,.slice none 0 0,.slice none 0 0,.int .i64 0,.string ⟨#[]⟩,.int .i64 0,.string ⟨#[]⟩,.slice none 0 0,.string ⟨#[]⟩,.int .i64 0,.string ⟨#[]⟩,.string ⟨#[]⟩,.int .i64 0,.int .i64 0,.int .i64 0,.bool false,.slice none 0 0] 66)).setRow w1.heap.size #[.slice none 0 0,.slice none 0 0,.slice none 0 0,.slice none 0 0,.slice none 0 0,.int .i64 0,.string ⟨#[]⟩,.int .i64 0,.string ⟨#[]⟩,.slice none 0 0,.string ⟨#[]⟩,.int .i64 0,.string ⟨#[]⟩,.string ⟨#[]⟩,.int .i64 0,.int .i64 0,.int .i64 0,.bool false,.slice none 0 0])):=below_setRow (HB.trans ((al _ _).mono HB.size)) HB.size _;have Br1:=aa ((setRow_other (w1.alloc (.cells #[.slice none 0 0,.slice none 0 0,.slice none 0 0,.slice none 0 0,.slice none 0 0,.int .i64 0,.string ⟨#[]⟩,.int .i64 0,.string ⟨#[]⟩,.slice none 0 0,.string ⟨#[]⟩,.int .i64 0,.string ⟨#[]⟩,.string ⟨#[]⟩,.int .i64 0,.int .i64 0,.int .i64 0,.bool false,.slice none 0 0] 66)) w1.heap.size (w.heap.size+1) #[.slice none 0 0,.slice none 0 0,.slice none 0 0,.slice none 0 0,.slice none 0 0,.int .i64 0,.string ⟨#[]⟩,.int .i64 0,.string ⟨#[]⟩,.slice none 0 0,.string ⟨#[]⟩,.int .i64 0,.string ⟨#[]⟩,.string ⟨#[]⟩,.int .i64 0,.int .i64 0,.int .i64 0,.bool false,.slice none 0 0] af).trans ((Fy w1 (.cells #[.slice none 0 0,.slice none 0 0,.slice none 0 0,.slice none 0 0,.slice none 0 0,.int .i64 0,.string ⟨#[]⟩,.int .i64 0,.string ⟨#[]⟩,.slice none 0 0,.string ⟨#[]⟩,.int .i64 0,.string ⟨#[]⟩,.string ⟨#[]⟩,.int .i64 0,.int .i64 0,.int .i64 0,.bool false,.slice none 0 0] 66) _ ltr).trans Br.out));have ltk:=ae Bk.out;have Bk1:=aa ((setRow_other (w1.alloc (.cells #[.slice none 0 0,.slice none 0 0,.slice none 0 0,.slice none 0 0,.slice none 0 0,.int .i64 0,.string ⟨#[]⟩,.int .i64 0,.string ⟨#[]⟩,.slice none 0 0,.string ⟨#[]⟩,.int .i64 0,.string ⟨#[]⟩,.string ⟨#[]⟩,.int .i64 0,.int .i64 0,.int .i64 0,.bool false,.slice none 0 0] 66)) w1.heap.size w.heap.size #[.slice none 0 0,.slice none 0 0,.slice none 0 0,.slice none 0 0,.slice none 0 0,.int .i64 0,.string ⟨#[]⟩,.int .i64 0,.string ⟨#[]⟩,.slice none 0 0,.string ⟨#[]⟩,.int .i64 0,.string ⟨#[]⟩,.string ⟨#[]⟩,.int .i64 0,.int .i64 0,.int .i64 0,.bool false,.slice none 0 0] af).trans ((Fy w1 (.cells #[.slice none 0 0,.slice none 0 0,.slice none 0 0,.slice none 0 0,.slice none 0 0,.int .i64 0,.string ⟨#[]⟩,.int .i64 0,.string ⟨#[]⟩,.slice none 0 0,.string ⟨#[]⟩,.int .i64 0,.string ⟨#[]⟩,.string ⟨#[]⟩,.int .i64 0,.int .i64 0,.int .i64 0,.bool false,.slice none 0 0] 66) _ ltk).trans Bk.out))
  clear ltr ltk;go_wp2_with (first|refine wpList_store_row (o:=⟨none,.store 66 (.tmp 5) (.tmp 11),_,_,_,none⟩) rfl _ _ _ rfl w1.heap.size #[.slice none 0 0,.slice none 0 0,.slice none 0 0,.slice none 0 0,.slice none 0 0,.int .i64 0,.string ⟨#[]⟩,.int .i64 0,.string ⟨#[]⟩,.slice none 0 0,.string ⟨#[]⟩,.int .i64 0,.string ⟨#[]⟩,.string ⟨#[]⟩,.int .i64 0,.int .i64 0,.int .i64 0,.bool false,.slice none 0 0] rfl rfl _ _ HG9.out aQ rfl HA19.out ?_);refine (ei E i cc hcc _ (HE.below HBX.out) hi9).mono ?_;rintro e w2 ⟨rfl,hb⟩;clear hcc;have Br2:=upK Br1 hb;have HB2:=upB HBX hb;have HA8:Hid ((#[.slice none 0 0,.slice none 0 0,.slice none 0 0,.slice none 0 0,.slice none 0 0,.int .i64 0,.string ⟨#[]⟩,.int .i64 cc]:Array Value).all (·.oneCell')=true):=by show _=true;simp[GH]
  have H12:=aa (setRow_heap _ (w.heap.size+1) _ #[.slice none 0 0,.slice none 0 0,.slice none 0 0,.slice none 0 0,.slice none 0 0,.int .i64 0,.string ⟨#[]⟩,.int .i64 cc] _ _ Br2.out);go_wp2_with (refine wpList_store_row (o:=⟨none,.store 38 (.tmp 4) (.tmp 16),_,_,_,none⟩) rfl _ _ _ rfl (w.heap.size+1) #[.slice none 0 0,.slice none 0 0,.slice none 0 0,.slice none 0 0,.slice none 0 0,.int .i64 0,.string ⟨#[]⟩,.int .i64 cc] rfl rfl _ _ Br2.out jq rfl HA8.out ?_);exact bodyPost_ret (v:=.agg #[.slice none 0 0,.slice none 0 0,.slice none 0 0,.slice none 0 0,.slice none 0 0,.int .i64 0,.string ⟨#[]⟩,.int .i64 cc]) (results_cell_row rfl _ _ (w.heap.size+1) _ _ _ _ rfl H12.out Tryz.underlying38 rfl jq) rfl ⟨ad0,co0 cc,rfl,HV.out,Dy _ _,below_setRow HB2.out af _⟩
 have HT:=aa hT;have HX:=aa (Fo hl (Fo hx (Fo hn h0)));have HS:=aa (Fo hbest hset);clear hl hT hx hn h0 hbest hset hown;have ltr:=ae Br.out;have HA19:Hid ((#[.slice d'.a1 d'.l1 d'.c1,.slice d'.a2 d'.l2 d'.c2,.slice d'.a3 d'.l3 d'.c3,.slice d'.a4 d'.l4 d'.c4,.slice d'.a5 d'.l5 d'.c5,.int .i64 c'.now,.string p'.n,.int .i64 p'.c,.string p'.z,.slice va vl vc,.string p'.d,.int .i64 p'.p,.string n.n,.string n.z,.int .i64 n.c,.int .i64 n.s,.int .i64 n.u,.bool n.d,.slice na nl nc]:Array Value).all (·.oneCell')=true):=by show _=true;simp[GH]
 have HG9:=aa (heap_alloc_new w1 (.cells #[.slice none 0 0,.slice none 0 0,.slice none 0 0,.slice none 0 0,.slice none 0 0,.int .i64 0,.string ⟨#[]⟩,.int .i64 0,.string ⟨#[]⟩,.slice none 0 0,.string ⟨#[]⟩,.int .i64 0,.string ⟨#[]⟩,.string ⟨#[]⟩,.int .i64 0,.int .i64 0,.int .i64 0,.bool false,.slice none 0 0] 66));have HBX:Hid (Below w.heap.size w ((w1.alloc (.cells #[.slice none 0 0,.slice none 0 0,.slice none 0 0,.slice none 0 0,.slice none 0 0,.int .i64 0,.string ⟨#[]⟩,.int .i64 0,.string ⟨#[]⟩,.slice none 0 0,.string ⟨#[]⟩,.int .i64 0,.string ⟨#[]⟩,.string ⟨#[]⟩,.int .i64 0,.int .i64 0,.int .i64 0,.bool false,.slice none 0 0] 66)).setRow w1.heap.size (trv d' c' p' n va vl vc na nl nc))):=below_setRow (HB.trans ((al _ _).mono HB.size)) HB.size _;have Br1:=aa ((setRow_other (w1.alloc (.cells #[.slice none 0 0,.slice none 0 0,.slice none 0 0,.slice none 0 0,.slice none 0 0,.int .i64 0,.string ⟨#[]⟩,.int .i64 0,.string ⟨#[]⟩,.slice none 0 0,.string ⟨#[]⟩,.int .i64 0,.string ⟨#[]⟩,.string ⟨#[]⟩,.int .i64 0,.int .i64 0,.int .i64 0,.bool false,.slice none 0 0] 66)) w1.heap.size (w.heap.size+1) (trv d' c' p' n va vl vc na nl nc) af).trans ((Fy w1 (.cells #[.slice none 0 0,.slice none 0 0,.slice none 0 0,.slice none 0 0,.slice none 0 0,.int .i64 0,.string ⟨#[]⟩,.int .i64 0,.string ⟨#[]⟩,.slice none 0 0,.string ⟨#[]⟩,.int .i64 0,.string ⟨#[]⟩,.string ⟨#[]⟩,.int .i64 0,.int .i64 0,.int .i64 0,.bool false,.slice none 0 0] 66) _ ltr).trans Br.out));have ltk:=ae Bk.out;have Bk1:=aa ((setRow_other (w1.alloc (.cells #[.slice none 0 0,.slice none 0 0,.slice none 0 0,.slice none 0 0,.slice none 0 0,.int .i64 0,.string ⟨#[]⟩,.int .i64 0,.string ⟨#[]⟩,.slice none 0 0,.string ⟨#[]⟩,.int .i64 0,.string ⟨#[]⟩,.string ⟨#[]⟩,.int .i64 0,.int .i64 0,.int .i64 0,.bool false,.slice none 0 0] 66)) w1.heap.size w.heap.size (trv d' c' p' n va vl vc na nl nc) af).trans ((Fy w1 (.cells #[.slice none 0 0,.slice none 0 0,.slice none 0 0,.slice none 0 0,.slice none 0 0,.int .i64 0,.string ⟨#[]⟩,.int .i64 0,.string ⟨#[]⟩,.slice none 0 0,.string ⟨#[]⟩,.int .i64 0,.string ⟨#[]⟩,.string ⟨#[]⟩,.int .i64 0,.int .i64 0,.int .i64 0,.bool false,.slice none 0 0] 66) _ ltk).trans Bk.out));clear ltr ltk;obtain⟨k0,k1,k2,k3,k4,k5⟩:=cs6 Bk1;have ltk:=ae Bk1.out;clear k0 k1 k2 k3 k4 k5 ltk;go_wp2_with (first|refine wpList_store_row (o:=⟨none,.store 66 (.tmp 5) (.tmp 11),_,_,_,none⟩) rfl _ _ _ rfl w1.heap.size (trv d' c' p' n va vl vc na nl nc) rfl rfl _ _ HG9.out aQ rfl HA19.out ?_|fail);have H10:=aa (setRow_heap _ w1.heap.size _ (trv d' c' p' n va vl vc na nl nc) _ _ HG9.out);have HSZ:Hid (w1.heap.size+1=((w1.alloc (.cells #[.slice none 0 0,.slice none 0 0,.slice none 0 0,.slice none 0 0,.slice none 0 0,.int .i64 0,.string ⟨#[]⟩,.int .i64 0,.string ⟨#[]⟩,.slice none 0 0,.string ⟨#[]⟩,.int .i64 0,.string ⟨#[]⟩,.string ⟨#[]⟩,.int .i64 0,.int .i64 0,.int .i64 0,.bool false,.slice none 0 0] 66)).setRow w1.heap.size (trv d' c' p' n va vl vc na nl nc)).heap.size):=by show _=_;simp
 have HQ1:Hid (w.heap.size+1<w1.heap.size):=ae Br.out;rename_i K0 hK0;refine aR aq rfl rfl aq ?_;refine' au.an _ rfl ?_ ?_;rotate_left 1
 ·refine Obl.plain rfl ?_;intro ac wg K hsz hW hf hK;clear hsz;have e2:=hf 2 aj;simp[ai,Fs] at e2;clear hf;obtain⟨d0,d1,d2,d3,d4,d5⟩:=cs6 ((hW.block _ (ae Bk1.out)).trans Bk1.out);exact aU
 refine au.step (sS w1.heap.size c) rfl (sS.mono _ _) ?_ ?_
 ·refine Obl.plain rfl ?_;intro ac wg K hsz hW hf hK;clear hsz;have e17:=hf 17 aj;simp[ai,Fs] at e17;clear hf;go_simp;refine (iI d c _ (HR.below (HBX.trans (hW.mono HBX.size))) HT.sm).mono ?_;rintro e w3 ⟨d2,rfl,ho,hb⟩;exact hK _ _ hb ⟨d2,rfl,ho.bA (fun k _ s=>by have:=hW.size;have h:=HSZ.out;show _<=_;omega)⟩
 refine' au.an _ rfl ?_ ?_;rotate_left 1
 ·exact l8
 refine' au.an _ rfl ?_ ?_;rotate_left 1
 ·refine Obl.plain rfl ?_;intro ac wg K hsz hW hf hK;clear hsz;have e19:=hf 19 aj;simp[ai,Fs] at e19;clear hf;exact aU
 refine' au.an _ rfl ?_ ?_;rotate_left 1
 ·refine Obl.plain rfl ?_;intro ac wg K hsz hW hf hK;clear hsz;have e20:=hf 20 aj;simp[ai,Fs] at e20;clear hf;have ct:wg.cell? ⟨w1.heap.size,12,none⟩=some (.string n.n):=aw ((hW.block _ (ae H10.out)).trans H10.out) 12;exact aU
 refine au.step (sR w1.heap.size c n.n) rfl (sR.mono _ _ _) ?_ ?_
 ·refine Obl.plain rfl ?_;intro ac wg K hsz hW hf hK;clear hsz;have e18:=hf 18 aj;simp[ai,Fs] at e18;have e21:=hf 21 aj;simp[ai,Fs] at e21;clear hf;obtain⟨d2,e18,ho⟩:=e18;go_simp;exact hK _ _ (Fw _ _) ⟨d2,rfl,ho⟩
 refine au.done ?_;intro q wz hW hf;simp only[FI] at hf;obtain⟨h22,-⟩:=hf;obtain⟨d2,h22,ho⟩:=h22;replace h22:q 22=.agg #[.slice d2.a1 d2.l1 d2.c1,.slice d2.a2 d2.l2 d2.c2,.slice d2.a3 d2.l3 d2.c3,.slice d2.a4 d2.l4 d2.c4,.slice d2.a5 d2.l5 d2.c5,.int .i64 c.now,.string n.n,.int .i64 0]:=h22;have HO:=aa ho;have Br2:=upK Br1 hW;have HB2:=upB HBX hW;have HA8:Hid ((#[.slice d2.a1 d2.l1 d2.c1,.slice d2.a2 d2.l2 d2.c2,.slice d2.a3 d2.l3 d2.c3,.slice d2.a4 d2.l4 d2.c4,.slice d2.a5 d2.l5 d2.c5,.int .i64 c.now,.string n.n,.int .i64 0]:Array Value).all (·.oneCell')=true):=by show _=true;simp[GH]
 have H12:=aa (setRow_heap _ (w.heap.size+1) _ #[.slice d2.a1 d2.l1 d2.c1,.slice d2.a2 d2.l2 d2.c2,.slice d2.a3 d2.l3 d2.c3,.slice d2.a4 d2.l4 d2.c4,.slice d2.a5 d2.l5 d2.c5,.int .i64 c.now,.string n.n,.int .i64 0] _ _ Br2.out);clear hW ho;intro K hK;rw[if_pos bF];simp only[aE,Gd,GO,Fz,FH,FM,h22];refine wp_store_row _ _ _ rfl (w.heap.size+1) #[.slice d2.a1 d2.l1 d2.c1,.slice d2.a2 d2.l2 d2.c2,.slice d2.a3 d2.l3 d2.c3,.slice d2.a4 d2.l4 d2.c4,.slice d2.a5 d2.l5 d2.c5,.int .i64 c.now,.string n.n,.int .i64 0] rfl rfl _ _ Br2.out jq rfl HA8.out ?_;refine hK _ _ ?_;refine hK0 _ _ ?_;clear hK hK0 K K0;go_wp2;exact bodyPost_ret (v:=.agg #[.slice d2.a1 d2.l1 d2.c1,.slice d2.a2 d2.l2 d2.c2,.slice d2.a3 d2.l3 d2.c3,.slice d2.a4 d2.l4 d2.c4,.slice d2.a5 d2.l5 d2.c5,.int .i64 c.now,.string n.n,.int .i64 0]) (results_cell_row rfl _ _ (w.heap.size+1) _ _ _ _ rfl H12.out Tryz.underlying38 rfl jq) rfl ⟨d2,⟨c,n.n,0⟩,rfl,.inr ⟨HX.1,HT.out,x,b,n,c,HX.2.1,HX.2.2.1,HX.2.2.2,HS.1,rfl,rfl⟩,(HO.kept (dO (b:=w.heap.size+1) (cs:=#[.slice d2.a1 d2.l1 d2.c1,.slice d2.a2 d2.l2 d2.c2,.slice d2.a3 d2.l3 d2.c3,.slice d2.a4 d2.l4 d2.c4,.slice d2.a5 d2.l5 d2.c5,.int .i64 c.now,.string n.n,.int .i64 0])) (fun k s e=>by have h:=HQ1.out;have s2:w1.heap.size<=k:=s;have e2:k=w.heap.size+1:=e;omega)).bA (fun k _ s=>by have h:=HQ1.out;have s2:w1.heap.size<=k:=s;show _<=_;omega),below_setRow HB2.out af _⟩

theorem iv (d:Ad) (c:Cl) (m s:ByteArray) (w:World) (hr:aJ w d c.raw):
  Calls Tryz.prog 106 #[.agg #[.slice d.a1 d.l1 d.c1,.slice d.a2 d.l2 d.c2,.slice d.a3 d.l3 d.c3,.slice d.a4 d.l4 d.c4,.slice d.a5 d.l5 d.c5,.int .i64 c.now],.string m,.string s] w (ar (∃(j:Nat) (p:Pd),c.ps[j]?=some p/\OtP p s m) w):=by
 obtain⟨a1,l1,y1,a2,l2,y2,a3,l3,y3,a4,l4,y4,a5,l5,y5⟩:=d;dsimp only;have HR:=aa hr.p;obtain⟨hl5,hm5⟩:=jN;clear hr;go_enter Tryz.func106,Tryz.ntmps106;go_wp2;go_loopw [7] (fun i wr=> ∃k:Nat,k<=l5/\i=.int .i64 k/\Hid (∀(j:Nat) (p:Pd),j<k->c.ps[j]?=some p->¬OtP p s m)/\Hid (Below w.heap.size w wr)/\Hid (wr.heap[w.heap.size]?=some (.cells (c6 a1 l1 y1 a2 l2 y2 a3 l3 y3 a4 l4 y4 a5 l5 y5 c.now) 36 (0,0)))) (fun i _=>l5 - (intOf i).toNat);case atStart=>exact⟨0,by omega,rfl,fun _ _ h=>absurd h af,al _ _,heap_alloc_new _ _⟩
 case round=>
  obtain⟨k,hk,rfl,HE,HB,Bk⟩:=hrel;have ltk:=ae Bk.out;by_cases hlt:k<l5
  ·have hlt2:(k:Int)<(l5:Int):=af
   obtain⟨b,o,p,rfl,hb,hx,hat⟩:=bY (HR.below HB.out) hlt;obtain⟨va,vl,vc,hvr,z0,z2,z4,c0,c1,c2,c3,c4,c5⟩:=aT hat;have HX:=aa hx;have HV:=aa hvr;have k4:=ck4 Bk;clear hat hx hvr z0 z2 z4;by_cases h0:p.d=⟨#[]⟩
   ·have hq:=cV h0;have H0:=aa h0;clear h0;go_wp2;refine⟨⟨k+1,by omega,by go_num,fun j z hj hz=>?_,HB.alloc HB.size _,(Fy _ _ _ ltk).trans Bk.out⟩,by simp[intOf];omega⟩;by_cases e:j=k
    ·subst e;rw[HX.out] at hz;obtain rfl:=Fq hz;exact fun h=>h.1 H0.out
    ·exact HE.out j z af hz
   have hq0:=bc h0;have H0:=aa h0;clear h0;by_cases h1:p.d=s
   ·have hq:=a9 h1;have H1:=aa h1;clear h1;go_wp2;refine⟨⟨k+1,by omega,by go_num,fun j z hj hz=>?_,HB.alloc HB.size _,(Fy _ _ _ ltk).trans Bk.out⟩,by simp[intOf];omega⟩;by_cases e:j=k
    ·subst e;rw[HX.out] at hz;obtain rfl:=Fq hz;exact fun h=>h.2.1 H1.out
    ·exact HE.out j z af hz
   have hq:=bC h1;have H1:=aa h1;clear h1;go_wp2_with fail;refine (di va vl vc p.zs m _ (HV.below (al _ _))).mono ?_;rintro e w1 ⟨r,rfl,hi,hb1⟩;obtain⟨HA0,hbx⟩:=aL hb1;have HI:=aa hi;have HB1:=upB HB hbx;have Bk1:=aa ((hbx.block _ ltk).trans Bk.out);clear hi hb1 hbx HA0 c0 c1 c2 c3 c4 c5 k4;cases r
   ·go_wp2;refine⟨⟨k+1,by omega,by go_num,fun j z hj hz=>?_,HB1.out,Bk1.out⟩,by simp[intOf];omega⟩;by_cases e:j=k
    ·subst e;rw[HX.out] at hz;obtain rfl:=Fq hz;exact fun h=>by have:=HI.2 h.2.2;cases this
    ·exact HE.out j z af hz
   ·go_wp2;go_ret;exact ar.t ⟨k,p,HX.out,H0.out,H1.out,HI.1 cr⟩ HB1.out
  ·obtain rfl:l5=k:=af
   have k4:=ck4 Bk;go_wp2;go_ret;exact ar.f (fun ⟨j,p,hj,hp⟩=>HE.out j p nA hj hp) HB.out

theorem iy {w:World} {base:Nat} {t ty e:TypeId} {i:TypeInfo} {size:Nat} (ht:Tryz.prog.underlying t=some (.slice e)) (hi:Tryz.prog.info? e=some i) {v:Value} {n:Nat} {xs:List Value} (hown:w.ownsRow base e size v n xs) (ax:Option Addr) (cx:Nat):
  (Builtin.append_ #[t,t] ty #[v,.slice ax 0 cx]).run Tryz.prog w=.ok v w:=by
 exact Cu
theorem bf {w:World} {ops:Array Oper} {rest:List Oper} {o:Oper} {a:Act} {Q:Exit->Act->World->Prop} (hgd:o.guard=none) (s x:Operand) (t:TypeId)
  (ho:o.op=.call { callee:=.builtin .append,args:=#[s,x],argTypes:=#[t,t] })
  (base:Nat) (e:TypeId) (i:TypeInfo) (z:Value) (size bytes:Nat) (ht:Tryz.prog.underlying t=some (.slice e)) (hi:Tryz.prog.info? e=some i) (hz:i.zero=some z)
  (hsize:i.size=size) (hby:i.bytes=bytes) (hzs:z.cells.size=size) (hsz:0<size)
  (v:Value) (n:Nat) (xs:List Value) (hs:a.eval s=v) (hown:w.ownsRow base e size v n xs)
  (ax:Option Addr) (l c:Nat) (news:List Value) (hx:a.eval x=.slice ax l c) (hl:news.length=l*size) (hnews:∀(j:Nat) u,news[j]?=some u->∃ad:Addr,ax=some ad/\w.cell? (ad.add j)=some u) (h1:∀u∈news,u.oneCell'=true)
  (h63:n+l<=maxLen) (hbytes:(n+l)*bytes<=140737488355328) (hbase:base<=w.heap.size)
  (h:∀v' w',w'.ownsRow base e size v' (n+l) (xs++news)->w.grownBy w' v.ownBlock->wpList Tryz.prog ops Q rest (a.put o.dst v') w'):wpList Tryz.prog ops Q (o ::rest) a w:=by
 rcases news with _|⟨u,news⟩
 ·have hl0:l=0:=by
   rcases Nat.eq_zero_or_pos l with e|e
   ·exact e
   ·have:=Nat.mul_pos e hsz;simp at hl;omega
  subst hl0;refine wpList_plain hgd fun K hK=>?_;have hr:=iy (ty:=o.type) ht hi hown ax c;exact yD
 ·obtain⟨ad,rfl,_⟩:=hnews 0 u rfl;exact bj hgd s x t t ho base e e i z size bytes ht ht hi hz hsize hby hzs hsz v n xs hs hown ad l c (u ::news) hx hl (fun j y hy=>by
   obtain⟨ad',e,h2⟩:=hnews j y hy
   cases e
   exact h2) h1 h63 hbytes hbase h

theorem nd (many most:Nat) (w:World):Calls Tryz.prog 136 #[.bool true,.int .i64 many,.int .i64 most] w fun e w'=>e=.returned (.int .i64 7)/\Below w.heap.size w w':=by
 exact qo

theorem pB (many most:Nat) (hm:most<=many) (w:World):Calls Tryz.prog 136 #[.bool false,.int .i64 many,.int .i64 most] w fun e w'=>e=.returned (.int .i64 9)/\Below w.heap.size w w':=by
 exact qo

theorem uK (many most:Nat) (hm:many<most) (w:World):Calls Tryz.prog 136 #[.bool false,.int .i64 many,.int .i64 most] w fun e w'=>e=.returned (.int .i64 0)/\Below w.heap.size w w':=by
 exact qo

theorem ey.below {w w':World} {d:Ad} {c:Cr} {S:Nat->Prop} (h:ey w d c S) (hb:Below w.heap.size w w'):ey w' d c S:=⟨h.n.below hb,h.k.below hb,h.v.below hb,h.x.below hb,h.p.below hb⟩
theorem ey.gR {w w':World} {d:Ad} {c:Cr} {S:Nat->Prop} (h:ey w d c S) {b:Nat} {cs:Array Value} (hb:w.heap[b]?=some (.cells cs 38 (0,0))) (hk:∀k,¬k=b->w'.heap[k]?=w.heap[k]?):ey w' d c S:=
 ⟨(h.n.gp hb aj aj).aM (fun k _ s=>hk k s.2) (fun _ _ s=>s.1),(h.k.gp hb aj aj).aM (fun k _ s=>hk k s.2) (fun _ _ s=>s.1),(h.v.gp hb aj aj).aM (fun k _ s=>hk k s.2) (fun _ _ s=>s.1),(h.x.gp hb aj aj).aM (fun k _ s=>hk k s.2) (fun _ _ s=>s.1),(h.p.gp hb aj aj).aM (fun k _ s=>hk k s.2) (fun _ _ s=>s.1)⟩

theorem Da {w w4:World} {v4:Value} {base n j hh:Nat} {xs:List Vd} {x:Vd} {va:Option Addr} {vl vc:Nat} {vss:List (List Value)} {H:Nat->Nat->Nat} {Q Q2:Nat->Prop} (hV:aX w Q 8 (xs.map vdF) vss H) (hxl:xs.length=n) (hj:j=pl Vd.n xs x.n) (hbs:w.heap.size<=base) (hB4:Below w.heap.size w w4)
  (hxf:∀(i:Nat) f,(vdF x)[i]?=some f->∃v,[.string x.n,.int .i64 x.c,.string x.z,.string x.k,.bool x.x,.string x.m,.bool x.y,.slice va vl vc][i]?=some v/\f.Fr w hh Q2 v) (hq:∀k,Q k->Q2 k->False) (ho4:w4.ownsRow base 99 8 v4 (n+1) (br j [.string x.n,.int .i64 x.c,.string x.z,.string x.k,.bool x.x,.string x.m,.bool x.y,.slice va vl vc] vss).flatten):
  ∃a' c',v4=.slice a' (n+1) c'/\az w4 a' (n+1) c' 8 99 ((br (pl Vd.n xs x.n) x xs).map vdF) (fun k=>(Q k\/Q2 k)\/w.heap.size<=k):=by
 have hjn:j<=n:=by rw[hj,<-hxl];exact List.findIdx_le_length
 have hV4:=(hV.below hB4).aM (w':=w4) (S':=fun k=>(Q k\/Q2 k)\/w.heap.size<=k) (fun _ _ _ _=>rfl) (fun _ _ s=>.inl (.inl s));obtain⟨H4,hV5⟩:=hV4.ins (p:=j) (r:=vdF x) (vs:=[.string x.n,.int .i64 x.c,.string x.z,.string x.k,.bool x.x,.string x.m,.bool x.y,.slice va vl vc]) (hh:=fun _=>hh) rfl rfl (fun i f hf=>by
   obtain⟨v,h1,h2⟩:=hxf i f hf
   exact⟨v,h1,h2.aM (fun cu _ q=>hB4.block _ (ae q)) (fun _ s=>.inl (.inr s))⟩) (fun i zs h hz k r i2 zs2 hr2 hz2 hne e=>by
  obtain⟨v,_,h2⟩:=hxf i _ h;obtain⟨_,_,_,_,_,_,_,_,h3⟩:=h2
  have hkv:k<vss.length:=by rw[hV.len];exact (Fm.1 hr2).1
  obtain⟨v',_,h5⟩:=hV.cell k r _ hr2 (Fu hkv) i2 _ hz2;obtain⟨_,_,_,_,_,_,_,_,h6⟩:=h5
  rcases h3 with h3|⟨_,h3,_⟩
  ·exact hz h3
  ·rcases h6 with h6|⟨_,h6,_⟩
   ·exact hne h6
   ·rw[e] at h6
    exact hq _ h6 h3) (fun i i2 zs zs2 h _ h2 _=>by
  rcases i with _|_|_|_|_|_|_|_|i <;> simp[vdF] at h <;> rcases i2 with _|_|_|_|_|_|_|_|i2 <;> simp[vdF] at h2 <;> rfl) r_
 exact CR

theorem mY (g:Option Addr) (l n:Nat) (vs:List Vd) (x:Vd) (va:Option Addr) (vl vc hh:Nat) (Q Q2:Nat->Prop) (w:World) (ho:az w g l n 8 99 (vs.map vdF) Q) (hl8:l<=8) (hxf:∀(i:Nat) f,(vdF x)[i]?=some f->∃v,[.string x.n,.int .i64 x.c,.string x.z,.string x.k,.bool x.x,.string x.m,.bool x.y,.slice va vl vc][i]?=some v/\f.Fr w hh Q2 v) (hq:∀k,Q k->Q2 k->False):
  Calls Tryz.prog 137 #[.slice g l n,.agg #[.string x.n,.int .i64 x.c,.string x.z,.string x.k,.bool x.x,.string x.m,.bool x.y,.slice va vl vc]] w fun e w'=> ∃a' c',e=.returned (.slice a' (l+1) c')/\az w' a' (l+1) c' 8 99 ((br (pl Vd.n vs x.n) x vs).map vdF) (fun k=>(Q k\/Q2 k)\/w.heap.size<=k)/\Below w.heap.size w w':=by
 have hll:vs.length=l:=jI
 have hln:=ho.2.1;have hnm:=ho.2.2.1;have HR:=aa ho.row;obtain⟨vss,H,hV,hcell⟩:=ho.lU;have hvl:vss.length=l:=by rw[hV.len,FU,hll]
 have HC:Hid (∀(j:Nat) u,vss.flatten[j]?=some u->∃b,g=some ⟨b,0,none⟩/\w.cell? ⟨b,j,none⟩=some u):=fun j u hj=>by
  obtain⟨b,e,_,h3⟩:=hcell j u hj;exact⟨b,e,h3⟩
 have HVA:=aa hV.all;have HV1:=aa hV.one;have HFIN:Hid (∀(w4:World) v4 base k,k=pl Vd.n vs x.n->w.heap.size<=base->Below w.heap.size w w4->w4.ownsRow base 99 8 v4 (l+1) (br k [.string x.n,.int .i64 x.c,.string x.z,.string x.k,.bool x.x,.string x.m,.bool x.y,.slice va vl vc] vss).flatten->∃a' c',v4=.slice a' (l+1) c'/\az w4 a' (l+1) c' 8 99 ((br (pl Vd.n vs x.n) x vs).map vdF) (fun k=>(Q k\/Q2 k)\/w.heap.size<=k)):=fun w4 v4 base k hk hbs hB4 ho4=>Da hV hll hk hbs hB4 hxf hq ho4;obtain⟨i5,hi5',hz0,hz1,hz2⟩:=info_parts gi;have HI0:=aa (Fo hi5' (Fo hz0 (Fo hz1 hz2)));clear hi5' hz0 hz1 hz2 hV hcell ho hxf hq;go_enter Tryz.func137,Tryz.ntmps137;go_wp2;go_loopw [5] (fun vi wr=> ∃k:Nat,k<=l/\vi=.int .i64 k/\Hid (∀(j:Nat) y,j<k->vs[j]?=some y->FB y.n.toList x.n.toList=true)/\Hid (Below (w.heap.size+1) (w.alloc (.cells #[.string x.n,.int .i64 x.c,.string x.z,.string x.k,.bool x.x,.string x.m,.bool x.y,.slice va vl vc] 99)) wr)) (fun vi _=>l - (intOf vi).toNat);case atStart=>exact⟨0,by omega,rfl,fun j y hj=>by omega,Fw _ _⟩
 case round=>
  obtain⟨k,hk,rfl,HE,HL⟩:=hrel;have hLs:w.heap.size+1<=wr.heap.size:=by have:=HL.size;simpa using this
  have HB:=aa ((al w (.cells (vov x va vl vc) 99)).trans (HL.mono af));have Bx:=aa ((HL.block w.heap.size af).trans (heap_alloc_new w (.cells (vov x va vl vc) 99)));by_cases hlt:k<l
  ·obtain⟨b,o,y,rfl,hb,hx,hat⟩:=bN (HR.below HB.out) hlt;obtain⟨ya,yl,yc,-,-,-,-,-,hc0,-,-,-,-,-,-,-⟩:=aK hat;have HXy:=aa hx;have hbw:=hb;have hk1:(k:Int)<l:=af
   have hk2:decide ((k:Int)<l)=true:=by simp;omega
   clear hb hat hx;cases hless:FB y.n.toList x.n.toList
   ·obtain⟨Gx,HW,x0,yn,hne0⟩:=vz;go_wp2_with fail;refine ag aq aq ?_;repeat (go_big_quiet_step (first|fail))
    refine wpQuiet_nil ?_;rintro _ ⟨q2,rfl⟩;have HB1:=upB HW q2.b;have Cx:=upK Gx q2.b;clear hne0 HW HB x0 yn Gx Bx hc0 hbw;have HB:=HB1;clear HB1;have Bx:=Cx;clear Cx;have HPL:Hid (k=pl Vd.n vs x.n):=(om HE.out HXy.out hless).symm;have HCQ:Hid (∀(j:Nat) u,vss.flatten[j]?=some u->∃b9,(some ⟨b,o,none⟩:Option Addr)=some ⟨b9,0,none⟩/\b9<q2.w.heap.size/\q2.w.cell? ⟨b9,j,none⟩=some u):=fun j u hj=>by
     exact yg
    obtain⟨HOW,hik,hkn⟩:=BQ;have hcap:¬n=k:=af
    all_goals (
     go_wp2_with (first|(at_builtin;refine bf rfl _ _ 32 rfl q2.w.heap.size 99 i5 (.agg #[.string ⟨#[]⟩,.int .i64 0,.string ⟨#[]⟩,.string ⟨#[]⟩,.bool false,.string ⟨#[]⟩,.bool false,.slice none 0 0]) 8 112 Tryz.underlying32 HI0.1 HI0.2.1 HI0.2.2.1 HI0.2.2.2 rfl aj _ _ _ rfl (HOW.out) _ k _ (vss.take k).flatten rfl (ez HVA.out af) (fun j u hu=>by obtain⟨g,e,hgl,h3⟩:=HCQ.out _ _ (lO hu);cases e <;> exact⟨_,rfl,by simp only[FT,FX];exact (ak (al q2.w _) hgl).trans h3⟩) (cQ HV1.out k).1 cD af aS ?_))
     intro v5 w5 hown5 hgr5
     replace hown5:w5.ownsRow q2.w.heap.size 99 8 v5 k (vss.take k).flatten:=kW
     have hb5:=(al q2.w (.cells #[] 99)).grown hgr5 aS (fun g hg=>by simp[G9] at hg;omega);obtain⟨s1,s2,s3,rfl⟩:=bu hown5;have HO5:=aa hown5;have H5:=aa hb5;have hs6:=hb5.size;have Bx5:=upK Bx hb5;obtain⟨x0,x1,x2,x3,x4,x5,x6,x7⟩:=cs8 Bx5;clear hown5 hgr5 hb5 HOW
     go_wp2_with (first|(at_builtin;refine bf rfl _ _ 32 rfl q2.w.heap.size 99 i5 (.agg #[.string ⟨#[]⟩,.int .i64 0,.string ⟨#[]⟩,.string ⟨#[]⟩,.bool false,.string ⟨#[]⟩,.bool false,.slice none 0 0]) 8 112 Tryz.underlying32 HI0.1 HI0.2.1 HI0.2.2.1 HI0.2.2.2 rfl aj _ _ _ rfl (HO5.alloc _) _ 1 _ [.string x.n,.int .i64 x.c,.string x.z,.string x.k,.bool x.x,.string x.m,.bool x.y,.slice va vl vc] rfl rfl (fun j u hu=>⟨_,rfl,by rw[FT,FX,aw (heap_alloc_new w5 _)];simpa using hu⟩) eT cD af bG ?_))
     intro v6 w6 hown6 hgr6;have hb6:=(H5.alloc H5.size _).grown hgr6 bG (fun g hg=>(HO5.lt g hg).1);obtain⟨r1,r2,r3,rfl⟩:=bu hown6;have HO6:=aa hown6;have H6:=aa hb6;have hs7:=hb6.size;clear hown6 hgr6 hb6 x0 x1 x2 x3 x4 x5 x6 x7
     go_wp2_with (first|(at_builtin;refine bf rfl _ _ 32 rfl q2.w.heap.size 99 i5 (.agg #[.string ⟨#[]⟩,.int .i64 0,.string ⟨#[]⟩,.string ⟨#[]⟩,.bool false,.string ⟨#[]⟩,.bool false,.slice none 0 0]) 8 112 Tryz.underlying32 HI0.1 HI0.2.1 HI0.2.2.1 HI0.2.2.2 rfl aj _ _ _ rfl (HO6.out) _ (l - k) _ (vss.drop k).flatten rfl (by rw[iN HVA.out,hvl]) (fun j u hu=>by first|(rw[GM af] at hu;simp at hu;done)|(obtain⟨g,e,hgl,h3⟩:=HCQ.out _ _ (mD HVA.out af hu);cases e <;> exact⟨_,rfl,by simp only[FT,FX];exact (ak H6.out hgl).trans h3⟩)) (cQ HV1.out k).2 cD af af ?_))
     intro v7 w7 hown7 hgr7;have hb7:=H6.grown hgr7 af (fun g hg=>(HO6.lt g hg).1)
     replace hown7:w7.ownsRow q2.w.heap.size 99 8 v7 (l+1) (br k [.string x.n,.int .i64 x.c,.string x.z,.string x.k,.bool x.x,.string x.m,.bool x.y,.slice va vl vc] vss).flatten:=by
      have e9:k+1+(l - k)=l+1:=af
      try rw[e9] at hown7
      simpa[br] using hown7
     have HB7:=upB HB hb7;obtain⟨a',c',rfl,hR⟩:=HFIN.out w7 v7 q2.w.heap.size k HPL.out HB.size HB7.out hown7;have HR7:=aa hR;clear hown7 hgr7 hb7 hR hik hkn hcap
     go_wp2
     go_ret
     exact⟨a',c',rfl,HR7.out,HB7.out⟩)
   ·obtain⟨Gx,HW,x0,yn,hne0⟩:=vz;go_wp2_with fail;refine ag aq aq ?_;repeat (go_big_quiet_step (first|fail))
    refine wpQuiet_nil ?_;rintro _ ⟨q2,rfl⟩;have HB1:=upB HW q2.b;have Cx:=upK Gx q2.b;clear hne0 HW HB x0 yn Gx Bx hc0 hbw;have HB:=HB1;clear HB1;have Bx:=Cx;clear Cx;go_wp2;refine⟨⟨k+1,by omega,by go_num,fun j z hj hz=>?_,HL.trans (q2.b.mono af)⟩,by simp[intOf];omega⟩;by_cases e:j=k
    ·subst e;rw[HXy.out] at hz;obtain rfl:=Fq hz;exact hless
    ·exact HE.out j z af hz
  ·have hk1:¬(k:Int)<l:=af
   have hk2:decide ((k:Int)<l)=false:=by simp;omega
   have Gx:=Bx;have HW:=HB;have x0:=fun q:Wd wr=>q.slot (o:=0) Gx.out rfl;have hne0:=Wd.ne wr;go_wp2_with fail;refine ag aq aq ?_;repeat (go_big_quiet_step (first|fail))
   refine wpQuiet_nil ?_;rintro _ ⟨q2,rfl⟩;have HB1:=upB HW q2.b;have Cx:=upK Gx q2.b;clear hne0 HW HB x0 Gx Bx;have HB:=HB1;clear HB1;have Bx:=Cx;clear Cx;have HPL:Hid (k=pl Vd.n vs x.n):=by show k=_;rw[gg (nm:=Vd.n) (xs:=vs) (t:=x.n) (fun j y hy=>HE.out j y kY hy)];omega
   have HCQ:Hid (∀(j:Nat) u,vss.flatten[j]?=some u->∃b9,g=some ⟨b9,0,none⟩/\b9<q2.w.heap.size/\q2.w.cell? ⟨b9,j,none⟩=some u):=fun j u hj=>by
    exact yg
   obtain⟨HOW,hik,hkn⟩:=BQ;rcases g with _|⟨b2,f2,sp⟩
   ·have hl0:l=0:=Classical.byContradiction fun hne0=>by
     have h1:vss[0]?=some (vss[0]'(by omega)):=Fu _;have h2:0<(vss[0]'(by omega)).length:=by rw[HVA.out 0 _ h1];decide
     obtain⟨g,e,_⟩:=HCQ.out _ _ (fH HVA.out h1 (Fu h2));cases e
    obtain rfl:k=0:=af
    subst hl0;by_cases hcap:n=0;all_goals (
     go_wp2_with (first|(at_builtin;refine bf rfl _ _ 32 rfl q2.w.heap.size 99 i5 (.agg #[.string ⟨#[]⟩,.int .i64 0,.string ⟨#[]⟩,.string ⟨#[]⟩,.bool false,.string ⟨#[]⟩,.bool false,.slice none 0 0]) 8 112 Tryz.underlying32 HI0.1 HI0.2.1 HI0.2.2.1 HI0.2.2.2 rfl aj _ _ _ rfl (HOW.out) _ 0 _ (vss.take 0).flatten rfl (ez HVA.out af) (fun j u hu=>by obtain⟨g,e,hgl,h3⟩:=HCQ.out _ _ (lO hu);cases e <;> exact⟨_,rfl,by simp only[FT,FX];exact (ak (al q2.w _) hgl).trans h3⟩) (cQ HV1.out 0).1 cD af aS ?_))
     intro v5 w5 hown5 hgr5
     replace hown5:w5.ownsRow q2.w.heap.size 99 8 v5 0 (vss.take 0).flatten:=kW
     have hb5:=(al q2.w (.cells #[] 99)).grown hgr5 aS (fun g hg=>by simp[G9] at hg;omega);obtain⟨s1,s2,s3,rfl⟩:=bu hown5;have HO5:=aa hown5;have H5:=aa hb5;have hs6:=hb5.size;have Bx5:=upK Bx hb5;obtain⟨x0,x1,x2,x3,x4,x5,x6,x7⟩:=cs8 Bx5;clear hown5 hgr5 hb5 HOW
     go_wp2_with (first|(at_builtin;refine bf rfl _ _ 32 rfl q2.w.heap.size 99 i5 (.agg #[.string ⟨#[]⟩,.int .i64 0,.string ⟨#[]⟩,.string ⟨#[]⟩,.bool false,.string ⟨#[]⟩,.bool false,.slice none 0 0]) 8 112 Tryz.underlying32 HI0.1 HI0.2.1 HI0.2.2.1 HI0.2.2.2 rfl aj _ _ _ rfl (HO5.alloc _) _ 1 _ [.string x.n,.int .i64 x.c,.string x.z,.string x.k,.bool x.x,.string x.m,.bool x.y,.slice va vl vc] rfl rfl (fun j u hu=>⟨_,rfl,by rw[FT,FX,aw (heap_alloc_new w5 _)];simpa using hu⟩) eT cD af bG ?_))
     intro v6 w6 hown6 hgr6;have hb6:=(H5.alloc H5.size _).grown hgr6 bG (fun g hg=>(HO5.lt g hg).1);obtain⟨r1,r2,r3,rfl⟩:=bu hown6;have HO6:=aa hown6;have H6:=aa hb6;have hs7:=hb6.size;clear hown6 hgr6 hb6 x0 x1 x2 x3 x4 x5 x6 x7
     go_wp2_with (first|(at_builtin;refine bf rfl _ _ 32 rfl q2.w.heap.size 99 i5 (.agg #[.string ⟨#[]⟩,.int .i64 0,.string ⟨#[]⟩,.string ⟨#[]⟩,.bool false,.string ⟨#[]⟩,.bool false,.slice none 0 0]) 8 112 Tryz.underlying32 HI0.1 HI0.2.1 HI0.2.2.1 HI0.2.2.2 rfl aj _ _ _ rfl (HO6.out) _ (0 - 0) _ (vss.drop 0).flatten rfl (by rw[iN HVA.out,hvl]) (fun j u hu=>by first|(rw[GM af] at hu;simp at hu;done)|(obtain⟨g,e,hgl,h3⟩:=HCQ.out _ _ (mD HVA.out af hu);cases e <;> exact⟨_,rfl,by simp only[FT,FX];exact (ak H6.out hgl).trans h3⟩)) (cQ HV1.out 0).2 cD af af ?_))
     intro v7 w7 hown7 hgr7;have hb7:=H6.grown hgr7 af (fun g hg=>(HO6.lt g hg).1)
     replace hown7:w7.ownsRow q2.w.heap.size 99 8 v7 (1) (br 0 [.string x.n,.int .i64 x.c,.string x.z,.string x.k,.bool x.x,.string x.m,.bool x.y,.slice va vl vc] vss).flatten:=by
      have e9:0+1+(0 - 0)=1:=af
      try rw[e9] at hown7
      simpa[br] using hown7
     have HB7:=upB HB hb7;obtain⟨a',c',rfl,hR⟩:=HFIN.out w7 v7 q2.w.heap.size 0 HPL.out HB.size HB7.out hown7;have HR7:=aa hR;clear hown7 hgr7 hb7 hR hik hkn hcap
     go_wp2
     go_ret
     exact⟨a',c',rfl,HR7.out,HB7.out⟩)
   by_cases hcap:n=k;all_goals (
    go_wp2_with (first|(at_builtin;refine bf rfl _ _ 32 rfl q2.w.heap.size 99 i5 (.agg #[.string ⟨#[]⟩,.int .i64 0,.string ⟨#[]⟩,.string ⟨#[]⟩,.bool false,.string ⟨#[]⟩,.bool false,.slice none 0 0]) 8 112 Tryz.underlying32 HI0.1 HI0.2.1 HI0.2.2.1 HI0.2.2.2 rfl aj _ _ _ rfl (HOW.out) _ k _ (vss.take k).flatten rfl (ez HVA.out af) (fun j u hu=>by obtain⟨g,e,hgl,h3⟩:=HCQ.out _ _ (lO hu);cases e <;> exact⟨_,rfl,by simp only[FT,FX];exact (ak (al q2.w _) hgl).trans h3⟩) (cQ HV1.out k).1 cD af aS ?_))
    intro v5 w5 hown5 hgr5
    replace hown5:w5.ownsRow q2.w.heap.size 99 8 v5 k (vss.take k).flatten:=kW
    have hb5:=(al q2.w (.cells #[] 99)).grown hgr5 aS (fun g hg=>by simp[G9] at hg;omega);obtain⟨s1,s2,s3,rfl⟩:=bu hown5;have HO5:=aa hown5;have H5:=aa hb5;have hs6:=hb5.size;have Bx5:=upK Bx hb5;obtain⟨x0,x1,x2,x3,x4,x5,x6,x7⟩:=cs8 Bx5;clear hown5 hgr5 hb5 HOW
    go_wp2_with (first|(at_builtin;refine bf rfl _ _ 32 rfl q2.w.heap.size 99 i5 (.agg #[.string ⟨#[]⟩,.int .i64 0,.string ⟨#[]⟩,.string ⟨#[]⟩,.bool false,.string ⟨#[]⟩,.bool false,.slice none 0 0]) 8 112 Tryz.underlying32 HI0.1 HI0.2.1 HI0.2.2.1 HI0.2.2.2 rfl aj _ _ _ rfl (HO5.alloc _) _ 1 _ [.string x.n,.int .i64 x.c,.string x.z,.string x.k,.bool x.x,.string x.m,.bool x.y,.slice va vl vc] rfl rfl (fun j u hu=>⟨_,rfl,by rw[FT,FX,aw (heap_alloc_new w5 _)];simpa using hu⟩) eT cD af bG ?_))
    intro v6 w6 hown6 hgr6;have hb6:=(H5.alloc H5.size _).grown hgr6 bG (fun g hg=>(HO5.lt g hg).1);obtain⟨r1,r2,r3,rfl⟩:=bu hown6;have HO6:=aa hown6;have H6:=aa hb6;have hs7:=hb6.size;clear hown6 hgr6 hb6 x0 x1 x2 x3 x4 x5 x6 x7
    go_wp2_with (first|(at_builtin;refine bf rfl _ _ 32 rfl q2.w.heap.size 99 i5 (.agg #[.string ⟨#[]⟩,.int .i64 0,.string ⟨#[]⟩,.string ⟨#[]⟩,.bool false,.string ⟨#[]⟩,.bool false,.slice none 0 0]) 8 112 Tryz.underlying32 HI0.1 HI0.2.1 HI0.2.2.1 HI0.2.2.2 rfl aj _ _ _ rfl (HO6.out) _ (l - k) _ (vss.drop k).flatten rfl (by rw[iN HVA.out,hvl]) (fun j u hu=>by first|(rw[GM af] at hu;simp at hu;done)|(obtain⟨g,e,hgl,h3⟩:=HCQ.out _ _ (mD HVA.out af hu);cases e <;> exact⟨_,rfl,by simp only[FT,FX];exact (ak H6.out hgl).trans h3⟩)) (cQ HV1.out k).2 cD af af ?_))
    intro v7 w7 hown7 hgr7;have hb7:=H6.grown hgr7 af (fun g hg=>(HO6.lt g hg).1)
    replace hown7:w7.ownsRow q2.w.heap.size 99 8 v7 (l+1) (br k [.string x.n,.int .i64 x.c,.string x.z,.string x.k,.bool x.x,.string x.m,.bool x.y,.slice va vl vc] vss).flatten:=by
     have e9:k+1+(l - k)=l+1:=af
     try rw[e9] at hown7
     simpa[br] using hown7
    have HB7:=upB HB hb7;obtain⟨a',c',rfl,hR⟩:=HFIN.out w7 v7 q2.w.heap.size k HPL.out HB.size HB7.out hown7;have HR7:=aa hR;clear hown7 hgr7 hb7 hR hik hkn hcap
    go_wp2
    go_ret
    exact⟨a',c',rfl,HR7.out,HB7.out⟩)

def uf (sv:Vd->Bool) (vs:List Vd):Fact:=fun v _=> ∃r:Int,v=.int .i64 r/\cY sv vs vs.length r
theorem uf.mono (sv:Vd->Bool) (vs:List Vd):Fact.bB (uf sv vs):=fun _ _ _ h _=>h
theorem az.Dd {wr wz:World} {g l cp m j i:Nat} {T:TypeId} {rs:List (List Fv)} {r:List Fv} {old:Fv} {S:Nat->Prop} (hO:az wr (some ⟨g,0,none⟩) l cp m T rs S) (hb:Below wr.heap.size wr wz) (hj:rs[j]?=some r) (hi:r[i]?=some old) (t:ByteArray) (ht:t.size<=9223372036854775807):az (wz.setCell ⟨g,j*m+i,none⟩ (.string t)) (some ⟨g,0,none⟩) l cp m T (rs.set j (r.set i (.s t))) S:=by
 obtain⟨g',e,hS⟩:=(hO.below hb).st (aC.refl S wz) hj;cases e;obtain⟨⟨cur2,H2,h3,_⟩,_,_⟩:=hS.dt hi t ht;exact⟨by rw[List.length_set];exact hO.1,hO.2.1,hO.2.2.1,.inr ⟨g,cur2,H2,rfl,h3⟩⟩
theorem az.E8 {wr wz:World} {g l cp m j i:Nat} {T:TypeId} {rs:List (List Fv)} {r:List Fv} {old:Fv} {S:Nat->Prop} (hO:az wr (some ⟨g,0,none⟩) l cp m T rs S) (hb:Below wr.heap.size wr wz) (hj:rs[j]?=some r) (hi:r[i]?=some old):(∃v,wz.cell? ⟨g,j*m+i,none⟩=some v)/\wz.frozen? ⟨g,j*m+i,none⟩=false:=by
 obtain⟨g',e,hS⟩:=(hO.below hb).st (aC.refl S wz) hj;cases e;exact⟨hS.cell hi,hS.cI _⟩
theorem az.EO {w:World} {a:Option Addr} {l cp m j:Nat} {T:TypeId} {rs:List (List Fv)} {r:List Fv} {S:Nat->Prop} (hO:az w a l cp m T rs S) (hj:rs[j]?=some r):∃g cur,a=some ⟨g,0,none⟩/\S g/\g<w.heap.size/\w.heap[g]?=some (.cells cur T (0,0)):=by
 obtain⟨g',e,hS⟩:=hO.st (aC.refl S w) hj;obtain⟨⟨cur,H,h1,_⟩,_⟩:=hS;exact⟨g',cur,e,h1.inS,ae h1.blk,h1.blk⟩
theorem az.gR {w wz:World} {a:Option Addr} {l cp m g i:Nat} {T T':TypeId} {rs:List (List Fv)} {S:Nat->Prop} {cur:Array Value} {v:Value} (h:az w a l cp m T rs S) (hb:Below w.heap.size w wz) (hg:w.heap[g]?=some (.cells cur T' (0,0))) (h1:¬T'=T) (h2:¬T'=9):az (wz.setCell ⟨g,i,none⟩ v) a l cp m T rs S:=
 (h.gp hg h1 h2).aM (fun k hk s=>(Fp _ _ _ _ s.2).trans (hb.block k hk)) (fun _ _ s=>s.1)
def Bu (B:Nat):Fact:=fun v w=> ∃b,v=.pointer (some ⟨b,0,none⟩)/\B<=b/\w.heap[b]?=some (.cells #[.string ⟨#[]⟩,.bool false,.bool false,.string ⟨#[]⟩] 102 (0,0))
theorem Bu.mono (B:Nat):Fact.bB (Bu B):=by
 exact qt
def ud (W:World) (S:Nat->Prop) (vs:List Vd):Fact:=fun v w=> ∃a l cp,v=.slice a l cp/\az w a l cp 8 99 (vs.map vdF) (fun k=>S k\/W.heap.size<=k)
theorem ud.mono (W:World) (S:Nat->Prop) (vs:List Vd):Fact.bB (ud W S vs):=by
 rintro v w w' ⟨a,l,cp,h1,h2⟩ hb;exact⟨a,l,cp,h1,h2.below hb⟩
def EB (c:Cl) (i:Nat) (x:Xd) (kc:Kd) (t:ByteArray) (S:Nat->Prop) (b:Nat) (a1:Option Addr) (l1 y1:Nat) (a2:Option Addr) (l2 y2:Nat) (a3:Option Addr) (l3 y3:Nat) (a4:Option Addr) (l4 y4:Nat) (a5:Option Addr) (l5 y5:Nat) (w:World) (e:Ending) (w':World):Prop:=
 (∃(j:Nat) (u:Vd),dd (svV x.z x.k x.x t) c.vs=some u/\c.vs[j]?=some u/\e=.returned (.tuple #[.string u.n,.int .i64 0])/\w'.heap[b]?=some (.cells (c6 a1 l1 y1 a2 l2 y2 a3 l3 y3 a4 l4 y4 a5 l5 y5 c.now) 36 (0,0))/\ey w' ⟨a1,l1,y1,a2,l2,y2,a3,l3,y3,a4,l4,y4,a5,l5,y5⟩ (dw c i j x u).raw S/\aC S w w')\/
 (dd (svV x.z x.k x.x t) c.vs=none/\((∃p:Int,¬p=0/\((¬ee x kc t/\p=6)\/(ee x kc t/\hit Vd.n c.vs (aD++x.n)=true/\p=7)\/(ee x kc t/\hit Vd.n c.vs (aD++x.n)=false/\¬c.vs.length<8/\p=9))/\e=.returned (.tuple #[.string ⟨#[]⟩,.int .i64 p])/\Below w.heap.size w w')\/
  (ee x kc t/\hit Vd.n c.vs (aD++x.n)=false/\c.vs.length<8/\e=.returned (.tuple #[.string (aD++x.n),.int .i64 0])/\∃(q3:Option Addr) (m3 z3:Nat),w'.heap[b]?=some (.cells (c6 a1 l1 y1 a2 l2 y2 q3 m3 z3 a4 l4 y4 a5 l5 y5 c.now) 36 (0,0))/\ey w' ⟨a1,l1,y1,a2,l2,y2,q3,m3,z3,a4,l4,y4,a5,l5,y5⟩ (da c i x (aW t kc.z)).raw (fun k=>S k\/w.heap.size<=k)/\aC (fun k=>S k\/k=b) w w')))

theorem uI (c:Cl) (i:Nat) (x:Xd) (jk:Nat) (kc:Kd) (t:ByteArray) (S:Nat->Prop) (b:Nat) (a1:Option Addr) (l1 y1:Nat) (a2:Option Addr) (l2 y2:Nat) (a3:Option Addr) (l3 y3:Nat) (a4:Option Addr) (l4 y4:Nat) (a5:Option Addr) (l5 y5:Nat) (w:World) (hb:w.heap[b]?=some (.cells #[.slice a1 l1 y1,.slice a2 l2 y2,.slice a3 l3 y3,.slice a4 l4 y4,.slice a5 l5 y5,.int .i64 c.now] 36 (0,0))) (hO:ey w ⟨a1,l1,y1,a2,l2,y2,a3,l3,y3,a4,l4,y4,a5,l5,y5⟩ c.raw S) (hS:∀k,S k->k<w.heap.size/\¬k=b) (hT:aB c) (hx:c.xs[i]?=some x) (hk:c.ks[jk]?=some kc) (hkn:kc.n=x.k) (hxv:x.v=⟨#[]⟩) (ht:t=⟨#[]⟩\/aO t):
  Calls Tryz.prog 105 #[.pointer (some ⟨b,0,none⟩),.int .i64 i,.string t] w (EB c i x kc t S b a1 l1 y1 a2 l2 y2 a3 l3 y3 a4 l4 y4 a5 l5 y5 w):=by
 have HO:=aa hO;have HS:=aa hS;have HT:=aa hT;have HX:=aa hx;have HK:=aa (Fo hk hkn);have HXV:=aa hxv;have HTZ:=aa ht;have Bc:=aa hb;have hl4:c.xs.length=l4:=by have h6:(c.xs.map xdF).length=l4:=hO.x.1;rw[FU] at h6;exact h6
 have hl3:c.vs.length=l3:=by have h6:(c.vs.map vdF).length=l3:=hO.v.1;rw[FU] at h6;exact h6
 have hl2:c.ks.length=l2:=by have h6:(c.ks.map kdF).length=l2:=hO.k.1;rw[FU] at h6;exact h6
 have hi4:i<l4:=by have:=(Fm.1 hx).1;omega
 have hii:(i:Int)<l4:=af
 have hi0:¬(i:Int)<0:=af
 obtain⟨gx,hgx,hSx⟩:=hO.x.st (aC.refl S w) (i:=i) (r:=xdF x) (show (c.xs.map xdF)[i]?=some (xdF x) by rw[FC,hx];rfl);have hgx':a4=some ⟨gx,0,none⟩:=hgx;subst hgx';have hgxS:S gx/\gx<w.heap.size:=by obtain⟨⟨cur,H,h1,_⟩,_⟩:=hSx;exact⟨h1.inS,ae h1.blk⟩
 obtain⟨b4,o4,x',e4,hb4,hx4,hat⟩:=dF hO.x.row hi4;cases e4;rw[hx] at hx4;obtain rfl:=Fq hx4;obtain⟨zx0,zx2,zx4,c0,c1,c2,c3,c4⟩:=bw hat;rw[FX] at c0 c1 c2 c3 c4;have HC:=aa (Fo c0 (Fo c1 (Fo c2 (Fo c3 c4))));have HZX:=aa (Fo zx0 (Fo zx2 zx4));have HSX:=aa hSx;have hgb:¬gx=b:=(hS gx hgxS.1).2;have HGS:=aa hgxS.1;have hgl:gx<w.heap.size:=hgxS.2;have hbl:b<w.heap.size:=ae hb;have HB:=aa (Fw w.heap.size w);obtain⟨k0,k1,k2,k3,k4,k5⟩:=cs6 hb;clear hO hS hT hx hk hkn hxv ht hSx hgx hgxS hat hx4 hb4 zx0 zx2 zx4;go_enter Tryz.func105,Tryz.ntmps105;go_wp2_with fail;clear k0 k1 k2 k3 k4 k5 c0 c1 c2 c3 c4;obtain⟨W,hW0⟩:∃W,W=(w.alloc (.cells (xov x) 105)):=⟨_,rfl⟩;have BcW:=aa ((Fy w (.cells (xov x) 105) _ hbl).trans hb);have BxW:=aa (heap_alloc_new w (.cells (xov x) 105));have HBW:=aa (al w (.cells (xov x) 105));have hws:W.heap.size=w.heap.size+1:=by rw[hW0];exact dG _ _
 rw[<-hW0] at BcW BxW HBW ⊢;clear hW0 hb;rename_i K0 hK0;refine bo (back:=none) aq (GF _).symm aq ?_;refine' au.an _ rfl ?_ ?_;rotate_left 1
 ·exact iB
 refine' au.an _ rfl ?_ ?_;rotate_left 1
 ·refine Obl.plain rfl ?_;intro ac wg K hsz hW hf hK;clear hsz;have e21:=hf 21 aj;simp[ai,Fs] at e21;clear hf;exact aU
 refine' au.an _ rfl ?_ ?_;rotate_left 1
 ·refine Obl.plain rfl ?_;intro ac wg K hsz hW hf hK;clear hsz;have e22:=hf 22 aj;simp[ai,Fs] at e22;clear hf;exact aU
 refine' au.an _ rfl ?_ ?_;rotate_left 1
 ·refine Obl.plain rfl ?_;intro ac wg K hsz hW hf hK;clear hsz;have e23:=hf 23 aj;simp[ai,Fs] at e23;exact pW
 refine' au.an _ rfl ?_ ?_;rotate_left 1
 ·refine Obl.plain rfl ?_;intro ac wg K hsz hW hf hK;clear hsz;have e8:=hf 8 aj;simp[ai,Fs] at e8;exact pY
 refine' au.an _ rfl ?_ ?_;rotate_left 1
 ·exact qd
 refine au.step (uf (svV x.z x.k x.x t) c.vs) rfl (uf.mono _ _) ?_ ?_
 ·refine Obl.plain rfl ?_;intro ac wg K hsz hW hf hK;clear hsz;have e24:=hf 24 aj;simp[ai,Fs] at e24;have e25:=hf 25 aj;simp[ai,Fs] at e25;have e26:=hf 26 aj;simp[ai,Fs] at e26;clear hf;go_simp;refine (pE a3 l3 y3 c.vs x.n x.z x.k x.x x.v t _ (BA (HO.v.row.below (HBW.trans (hW.mono HBW.size))))).mono ?_;rintro e w6 ⟨r,rfl,hr6,hb6⟩;exact hK _ _ hb6 ⟨r,rfl,by rw[hl3];exact hr6⟩
 refine au.step (uf (svV x.z x.k x.x t) c.vs) rfl (uf.mono _ _) ?_ ?_
 ·refine Obl.plain rfl ?_;intro ac wg K hsz hW hf hK;clear hsz;have e27:=hf 27 aj;simp[ai,Fs] at e27;obtain⟨r,e27,hr6⟩:=e27;clear hf;go_simp;exact hK _ _ (Fw _ _) ⟨r,rfl,hr6⟩
 refine au.done ?_;intro q wz hW hf;simp only[FI] at hf;obtain⟨h9,h27,h26,h25,h24,h23,h22,h21,-⟩:=hf;obtain⟨r,hv9,hbest⟩:=h9;obtain⟨r2,hv27,-⟩:=h27;have HWZ:=aa hW;clear hW;refine hK0 _ _ ?_;simp only[aE,Gd,GO,Fz,FH,FM,h26,h25,h24,h23,h22,h21,hv9,hv27];clear hK0;have Bc2:=upK BcW HWZ.out;have Bx2:=upK BxW HWZ.out;have HB2:=aa (HBW.trans (HWZ.mono HBW.size));have hw2:w.heap.size+1<=wz.heap.size:=by have:=HWZ.size;omega
 clear BcW BxW HBW HWZ;rcases hbest with ⟨rfl,hnone⟩|⟨j,u,rfl,hjl,hju,hsome⟩;rotate_left
 ·rw[Iw] at hsome;have HJU:=aa hju;have HSO:=aa hsome;have hj3:(j:Int)<l3:=af
  have hj0:¬(j:Int)<0:=af
  have hjr:(c.vs.map vdF)[j]?=some (vdF u):=by rw[FC,hju];rfl
  have hir:(c.xs.map xdF)[i]?=some (xdF x):=by rw[FC,HX.out];rfl
  have HJR:=aa hjr;have HIR:=aa hir;obtain⟨gv,curv,hgv,hgvS,hgvl,hgvb⟩:=az.EO HO.v hjr;have hgv':a3=some ⟨gv,0,none⟩:=hgv;subst hgv';obtain⟨gx2,curx,hgx2,-,-,hgxb⟩:=az.EO HO.x hir;cases hgx2;have HVB:=aa hgvb;have HXB:=aa hgxb;have hvb:¬gv=b:=(HS.out gv hgvS).2;have HVS:=aa hgvS;have hxz:x.n.size<=9223372036854775807:=HZX.1;have huz:u.n.size<=9223372036854775807:=by have h1:=(HT.2.1.2.2.1.2.1 j u hju).1.2.1;omega
  clear hju hsome hjr hir hgv hgvS hgvb hgxb;go_wp2_with fail;rename_i K0 hK0;refine Gt.aR aq rfl rfl aq ?_;refine' au.an _ rfl ?_ ?_;rotate_left 1
  ·exact iB
  refine' au.an _ rfl ?_ ?_;rotate_left 1
  ·refine Obl.plain rfl ?_;intro ac wg K hsz hW hf hK;clear hsz;have e30:=hf 30 aj;simp[ai,Fs] at e30;clear hf;exact aU
  refine' au.an _ rfl ?_ ?_;rotate_left 1
  ·refine Obl.plain rfl ?_;intro ac wg K hsz hW hf hK;clear hsz;have e31:=hf 31 aj;simp[ai,Fs] at e31;clear hf;exact aU
  refine' au.an _ rfl ?_ ?_;rotate_left 1
  ·refine Obl.plain rfl ?_;intro ac wg K hsz hW hf hK;clear hsz;have e32:=hf 32 aj;simp[ai,Fs] at e32;exact pZ
  refine' au.an _ rfl ?_ ?_;rotate_left 1
  ·exact l_
  refine' au.an _ rfl ?_ ?_;rotate_left 1
  ·exact qe
  refine' au.an _ rfl ?_ ?_;rotate_left 1
  ·refine Obl.plain rfl ?_;intro ac wg K hsz hW hf hK;clear hsz;have e35:=hf 35 aj;simp[ai,Fs] at e35;exact wP
  refine' au.an _ rfl ?_ ?_;rotate_left 1
  ·refine Obl.plain rfl ?_;intro ac wg K hsz hW hf hK;clear hsz;have e33:=hf 33 aj;simp[ai,Fs] at e33;have e34:=hf 34 aj;simp[ai,Fs] at e34;clear hf;exact aU
  refine' au.an _ rfl ?_ ?_;rotate_left 1
  ·exact xf
  refine au.done ?_;intro q wy hW hf;simp only[FI] at hf;obtain⟨h38,h37,h36,h35,h34,h33,h32,h31,h30,-⟩:=hf;have HWY:=upB HB2 hW;have Bc3:=upK Bc2 hW;obtain⟨⟨v9,hcz⟩,hfz⟩:=az.E8 HO.v HWY.out HJR.out (i:=5) rfl;intro K hK;rw[if_pos bF];simp only[aE,Gd,GO,Fz,FH,FM,h38,h37,h36,h35,h34,h33,h32,h31,h30];simp only[G3];go_simp;refine hK _ _ ?_;refine hK0 _ _ ?_;clear hK hK0 K K0;have hV5:=az.Dd HO.v HWY.out HJR.out (i:=5) rfl x.n hxz;have f1:=az.gR (i:=j*8+5) (v:=.string x.n) HO.n HWY.out HVB.out aj aj;have f2:=az.gR (i:=j*8+5) (v:=.string x.n) HO.k HWY.out HVB.out aj aj;have f4:=az.gR (i:=j*8+5) (v:=.string x.n) HO.x HWY.out HVB.out aj aj;have f5:=az.gR (i:=j*8+5) (v:=.string x.n) HO.p HWY.out HVB.out aj aj;have hK5:aC S w (wy.setCell ⟨gv,j*8+5,none⟩ (.string x.n)):=(aC.bZ HWY.out).set HVS.out;have hB5:(wy.setCell ⟨gv,j*8+5,none⟩ (.string x.n)).heap[b]?=_:=(Fp _ _ _ _ (show b≠gv from fun e=>hvb e.symm)).trans Bc3.out;have hx5:(wy.setCell ⟨gv,j*8+5,none⟩ (.string x.n)).heap[gx]?=some (.cells curx 105 (0,0)):=(Fp _ _ _ _ (show gx≠gv from fun e=>by have h1:=HXB.out;have h2:=HVB.out;rw[e,h2] at h1;simp at h1)).trans ((HWY.block _ (ae HXB.out)).trans HXB.out);obtain⟨cur5,hv5b⟩:∃cur5,(wy.setCell ⟨gv,j*8+5,none⟩ (.string x.n)).heap[gv]?=some (.cells cur5 99 (0,0)):=⟨_,aA ((HWY.block _ (ae HVB.out)).trans HVB.out) _⟩;clear hcz hfz;obtain⟨W5,hW5⟩:∃W5,W5=wy.setCell ⟨gv,j*8+5,none⟩ (.string x.n):=⟨_,rfl⟩;rw[<-hW5] at hV5 f1 f2 f4 f5 hK5 hB5 hx5 hv5b ⊢;have HV5:=aa hV5;have HF5:=aa (Fo f1 (Fo f2 (Fo f4 f5)));have HK5:=aa hK5;have Bc5:=aa hB5;have HX5:=aa hx5;have HVB5:=aa hv5b;have hjl5:j<l3:=af
  obtain⟨b5,o5,v5,e5,hbl5,hx5',hat5⟩:=bN (xs:=c.vs.set j (bdV u x.n)) (by rw[H8];exact hV5.row) hjl5;cases e5;rw[dQ hjl,if_pos rfl] at hx5';obtain rfl:=Fq hx5';obtain⟨va5,vl5,vc5,-,-,-,-,-,cn5,-,-,-,-,-,-,-⟩:=aK hat5;rw[FX] at cn5;have HCN5:Hid (W5.cell? ⟨gv,j*8,none⟩=some (.string u.n)):=cn5;clear hW5 hV5 f1 f2 f4 f5 hK5 hB5 hx5 hat5 cn5 hbl5 hx5' hv5b;go_wp2_with fail;rename_i K0 hK0;refine Gt.aR aq rfl rfl aq ?_;refine' au.an _ rfl ?_ ?_;rotate_left 1
  ·exact iB
  refine' au.an _ rfl ?_ ?_;rotate_left 1
  ·refine Obl.plain rfl ?_;intro ac wg K hsz hW hf hK;clear hsz;have e39:=hf 39 aj;simp[ai,Fs] at e39;clear hf;exact aU
  refine' au.an _ rfl ?_ ?_;rotate_left 1
  ·refine Obl.plain rfl ?_;intro ac wg K hsz hW hf hK;clear hsz;have e40:=hf 40 aj;simp[ai,Fs] at e40;clear hf;exact aU
  refine' au.an _ rfl ?_ ?_;rotate_left 1
  ·refine Obl.plain rfl ?_;intro ac wg K hsz hW hf hK;clear hsz;have e41:=hf 41 aj;simp[ai,Fs] at e41;exact wR
  refine' au.an _ rfl ?_ ?_;rotate_left 1
  ·exact gd
  refine' au.an _ rfl ?_ ?_;rotate_left 1
  ·exact iB
  refine' au.an _ rfl ?_ ?_;rotate_left 1
  ·refine Obl.plain rfl ?_;intro ac wg K hsz hW hf hK;clear hsz;have e44:=hf 44 aj;simp[ai,Fs] at e44;clear hf;exact aU
  refine' au.an _ rfl ?_ ?_;rotate_left 1
  ·refine Obl.plain rfl ?_;intro ac wg K hsz hW hf hK;clear hsz;have e45:=hf 45 aj;simp[ai,Fs] at e45;clear hf;exact aU
  refine' au.an _ rfl ?_ ?_;rotate_left 1
  ·refine Obl.plain rfl ?_;intro ac wg K hsz hW hf hK;clear hsz;have e46:=hf 46 aj;simp[ai,Fs] at e46;exact wR
  refine' au.an _ rfl ?_ ?_;rotate_left 1
  ·exact l_
  refine' au.an _ rfl ?_ ?_;rotate_left 1
  ·refine Obl.plain rfl ?_;intro ac wg K hsz hW hf hK;clear hsz;have e47:=hf 47 aj;simp[ai,Fs] at e47;have e48:=hf 48 aj;simp[ai,Fs] at e48;clear hf;exact aU
  refine' au.an _ rfl ?_ ?_;rotate_left 1
  ·refine Obl.plain rfl ?_;intro ac wg K hsz hW hf hK;clear hsz;have e49:=hf 49 aj;simp[ai,Fs] at e49;clear hf;exact aU
  refine' au.an _ rfl ?_ ?_;rotate_left 1
  ·refine Obl.plain rfl ?_;intro ac wg K hsz hW hf hK;clear hsz;have e50:=hf 50 aj;simp[ai,Fs] at e50;clear hf;have c7:=(ak hW (ae HVB5.out)).trans HCN5.out;exact aU
  refine' au.an _ rfl ?_ ?_;rotate_left 1
  ·refine Obl.plain rfl ?_;intro ac wg K hsz hW hf hK;clear hsz;have e42:=hf 42 aj;simp[ai,Fs] at e42;have e43:=hf 43 aj;simp[ai,Fs] at e43;clear hf;exact aU
  refine' au.an _ rfl ?_ ?_;rotate_left 1
  ·refine Obl.plain rfl ?_;intro ac wg K hsz hW hf hK;clear hsz;have e52:=hf 52 aj;simp[ai,Fs] at e52;clear hf;exact aU
  refine au.done ?_;intro q wx hW hf;simp only[FI] at hf;obtain⟨h53,h52,h51,h50,h49,h48,h47,h46,h45,h44,h43,h42,h41,h40,h39,-⟩:=hf;have HWX:=aa hW;have Bc6:=upK Bc5 hW;obtain⟨⟨v9,hcz⟩,hfz⟩:=az.E8 HF5.2.2.1 hW HIR.out (i:=4) rfl;intro K hK;rw[if_pos bF];simp only[aE,Gd,GO,Fz,FH,FM,h53,h52,h51,h50,h49,h48,h47,h46,h45,h44,h43,h42,h41,h40,h39];simp only[G3];go_simp;refine hK _ _ ?_;refine hK0 _ _ ?_;clear hK hK0 K K0;have hX6:=az.Dd HF5.2.2.1 HWX.out HIR.out (i:=4) rfl u.n huz;have f1:=az.gR (i:=i*5+4) (v:=.string u.n) HF5.1 HWX.out HX5.out aj aj;have f2:=az.gR (i:=i*5+4) (v:=.string u.n) HF5.2.1 HWX.out HX5.out aj aj;have f3:=az.gR (i:=i*5+4) (v:=.string u.n) HV5.out HWX.out HX5.out aj aj;have f5:=az.gR (i:=i*5+4) (v:=.string u.n) HF5.2.2.2 HWX.out HX5.out aj aj;have hK6:aC S w (wx.setCell ⟨gx,i*5+4,none⟩ (.string u.n)):=(HK5.below HWX.out).set HGS.out;have hB6:(wx.setCell ⟨gx,i*5+4,none⟩ (.string u.n)).heap[b]?=_:=(Fp _ _ _ _ (show b≠gx from fun e=>hgb e.symm)).trans Bc6.out;have hc6:(wx.setCell ⟨gx,i*5+4,none⟩ (.string u.n)).cell? ⟨gv,j*8,none⟩=some (.string u.n):=by
   have h9:=(ak HWX.out (ae HVB5.out)).trans HCN5.out;have hne:¬gv=gx:=fun e=>by have h1:=HX5.out;have h2:=HVB5.out;rw[<-e,h2] at h1;simp at h1
   have e9:(wx.setCell ⟨gx,i*5+4,none⟩ (.string u.n)).heap[gv]?=wx.heap[gv]?:=Fp _ _ _ _ hne;simp only[World.cell?,e9] at h9 ⊢;exact h9
  clear hcz hfz;obtain⟨W6,hW6⟩:∃W6,W6=wx.setCell ⟨gx,i*5+4,none⟩ (.string u.n):=⟨_,rfl⟩;rw[<-hW6] at hX6 f1 f2 f3 f5 hK6 hB6 hc6 ⊢;have HA6:Hid (ey W6 ⟨a1,l1,y1,a2,l2,y2,some ⟨gv,0,none⟩,l3,y3,some ⟨gx,0,none⟩,l4,y4,a5,l5,y5⟩ (dw c i j x u).raw S):=⟨f1,f2,by show az _ _ _ _ _ _ ((c.vs.set j (bdV u x.n)).map vdF) _;rw[H8];exact f3,by show az _ _ _ _ _ _ ((c.xs.set i (bdX x u.n)).map xdF) _;rw[H8];exact hX6,f5⟩;have HK6:=aa hK6;have HB6:=aa hB6;clear hW6 hX6 f1 f2 f3 f5 hK6;obtain⟨k0,k1,k2,k3,k4,k5⟩:=cs6 hB6;clear hB6;go_wp2;exact bodyPost_ret (v:=.tuple #[.string u.n,.int .i64 0]) (by simp[results,Tryz.results105,go_sem, *]) rfl (.inl ⟨j,u,HSO.out,HJU.out,rfl,HB6.out,HA6.out,HK6.out⟩)
 rw[Iw] at hnone;have HNO:=aa hnone;have hkr:(c.ks.map kdF)[jk]?=some (kdF kc):=by rw[FC,HK.1];rfl
 have hir:(c.xs.map xdF)[i]?=some (xdF x):=by rw[FC,HX.out];rfl
 have HIR:=aa hir;have hjk:jk<l2:=by have:=(Fm.1 HK.1).1;omega
 have hj2:(jk:Int)<l2:=af
 have hj0:¬(jk:Int)<0:=af
 obtain⟨gk,curk,hgk,-,hgkl,-⟩:=az.EO HO.k hkr;have hgk':a2=some ⟨gk,0,none⟩:=hgk;subst hgk';obtain⟨gx2,curx,hgx2,-,-,hgxb⟩:=az.EO HO.x hir;cases hgx2;have HXB:=aa hgxb;obtain⟨b2,o2,y',e2,hb2,hx2,hat⟩:=eW HO.k.row hjk;cases e2;rw[HK.1] at hx2;obtain rfl:=Fq hx2;obtain⟨zk0,zk3,d0,d1,d2,d3⟩:=cf hat;rw[FX] at d0 d1 d2 d3;have HKC:=aa (Fo d0 (Fo d1 (Fo d2 d3)));have HZK:=aa (Fo zk0 zk3);have HRK:=aa HO.k.row;have HGK:=aa hgkl;clear hnone hkr hir hgk hgxb hat hx2 hb2 zk0 zk3 d0 d1 d2 d3;go_wp2_with fail;rename_i K0 hK0;refine aR aq rfl rfl aq ?_;refine' au.an _ rfl ?_ ?_;rotate_left 1
 ·exact iB
 refine' au.an _ rfl ?_ ?_;rotate_left 1
 ·refine Obl.plain rfl ?_;intro ac wg K hsz hW hf hK;clear hsz;have e62:=hf 62 aj;simp[ai,Fs] at e62;clear hf;exact aU
 refine' au.an _ rfl ?_ ?_;rotate_left 1
 ·refine Obl.plain rfl ?_;intro ac wg K hsz hW hf hK;clear hsz;have e63:=hf 63 aj;simp[ai,Fs] at e63;clear hf;exact aU
 refine' au.an _ rfl ?_ ?_;rotate_left 1
 ·refine Obl.plain rfl ?_;intro ac wg K hsz hW hf hK;clear hsz;have e64:=hf 64 aj;simp[ai,Fs] at e64;exact pZ
 refine' au.an _ rfl ?_ ?_;rotate_left 1
 ·exact iB
 refine' au.an _ rfl ?_ ?_;rotate_left 1
 ·refine Obl.plain rfl ?_;intro ac wg K hsz hW hf hK;clear hsz;have e66:=hf 66 aj;simp[ai,Fs] at e66;clear hf;exact aU
 refine' au.an _ rfl ?_ ?_;rotate_left 1
 ·refine Obl.plain rfl ?_;intro ac wg K hsz hW hf hK;clear hsz;have e67:=hf 67 aj;simp[ai,Fs] at e67;exact pZ
 refine' au.an _ rfl ?_ ?_;rotate_left 1
 ·exact qe
 refine' au.an _ rfl ?_ ?_;rotate_left 1
 ·refine Obl.plain rfl ?_;intro ac wg K hsz hW hf hK;clear hsz;have e69:=hf 69 aj;simp[ai,Fs] at e69;exact wP
 refine au.step (fun v _=>v=.int .i64 jk) rfl (Fact.cw _) ?_ ?_
 ·refine Obl.plain rfl ?_;intro ac wg K hsz hW hf hK;clear hsz;have e68:=hf 68 aj;simp[ai,Fs] at e68;have e70:=hf 70 aj;simp[ai,Fs] at e70;clear hf;go_simp;refine (dY ⟨a1,l1,y1,some ⟨gk,0,none⟩,l2,y2,a3,l3,y3,some ⟨gx,0,none⟩,l4,y4,a5,l5,y5⟩ c.now c.ks x.k _ (HRK.below (HB2.trans (hW.mono HB2.size))) HT.2.1.2.1.2.2 HK.1 HK.2).mono ?_;rintro e w6 ⟨rfl,hb6⟩;exact hK _ _ hb6 rfl
 refine' au.an _ rfl ?_ ?_;rotate_left 1
 ·refine Obl.plain rfl ?_;intro ac wg K hsz hW hf hK;clear hsz;have e65:=hf 65 aj;simp[ai,Fs] at e65;have e71:=hf 71 aj;simp[ai,Fs] at e71;clear hf;exact aU
 refine' au.an _ rfl ?_ ?_;rotate_left 1
 ·refine Obl.plain rfl ?_;intro ac wg K hsz hW hf hK;clear hsz;have e72:=hf 72 aj;simp[ai,Fs] at e72;clear hf;obtain⟨d0,d1,d2,d3⟩:=HKC.out;have hbg:=HB2.trans (hW.mono HB2.size);replace d0:=(ak hbg HGK.out).trans d0;replace d1:=(ak hbg HGK.out).trans d1;replace d2:=(ak hbg HGK.out).trans d2;replace d3:=(ak hbg HGK.out).trans d3;exact aU
 refine au.step (Bu wz.heap.size) rfl (Bu.mono _) ?_ ?_
 ·exact nY
 refine au.done ?_;intro q wy hW hf;simp only[FI] at hf;obtain⟨⟨b9,h10,hb9,hg9⟩,h73,h72,h71,h70,h69,h68,h67,h66,h65,h64,h63,h62,-⟩:=hf;have g0:=hg9;have g1:(wy.setCell ⟨b9,0,none⟩ (.string kc.n)).heap[b9]?=some (.cells #[.string kc.n,.bool false,.bool false,.string ⟨#[]⟩] 102 (0,0)):=aA g0 _;have g2:((wy.setCell ⟨b9,0,none⟩ (.string kc.n)).setCell ⟨b9,1,none⟩ (.bool kc.x)).heap[b9]?=some (.cells #[.string kc.n,.bool kc.x,.bool false,.string ⟨#[]⟩] 102 (0,0)):=aA g1 _;have g3:(((wy.setCell ⟨b9,0,none⟩ (.string kc.n)).setCell ⟨b9,1,none⟩ (.bool kc.x)).setCell ⟨b9,2,none⟩ (.bool kc.y)).heap[b9]?=some (.cells #[.string kc.n,.bool kc.x,.bool kc.y,.string ⟨#[]⟩] 102 (0,0)):=aA g2 _;have g4:((((wy.setCell ⟨b9,0,none⟩ (.string kc.n)).setCell ⟨b9,1,none⟩ (.bool kc.x)).setCell ⟨b9,2,none⟩ (.bool kc.y)).setCell ⟨b9,3,none⟩ (.string kc.z)).heap[b9]?=some (.cells #[.string kc.n,.bool kc.x,.bool kc.y,.string kc.z] 102 (0,0)):=aA g3 _;obtain⟨t0,t1,t2,t3⟩:=cs4 hg9;have f0:=av hg9 0;have f1:=av hg9 1;have f2:=av hg9 2;have f3:=av hg9 3;have Bn:=aa g4;have HWX:Hid (Below wz.heap.size wz ((((wy.setCell ⟨b9,0,none⟩ (.string kc.n)).setCell ⟨b9,1,none⟩ (.bool kc.x)).setCell ⟨b9,2,none⟩ (.bool kc.y)).setCell ⟨b9,3,none⟩ (.string kc.z))):=ah hb9 (ah hb9 (ah hb9 (ah hb9 (hW))));clear g0 g1 g2 g3 g4 hg9;intro K hK;rw[if_pos bF];simp only[aE,Gd,GO,Fz,FH,FM,h10,h73,h72,h71,h70,h69,h68,h67,h66,h65,h64,h63,h62];simp only[G3];go_simp;refine hK _ _ ?_;refine hK0 _ _ ?_;clear hK hK0 K K0;generalize ((((wy.setCell ⟨b9,0,none⟩ (.string kc.n)).setCell ⟨b9,1,none⟩ (.bool kc.x)).setCell ⟨b9,2,none⟩ (.bool kc.y)).setCell ⟨b9,3,none⟩ (.string kc.z))=X3 at Bn HWX ⊢;clear t0 t1 t2 t3 f0 f1 f2 f3;have HB3:=aa (HB2.trans (HWX.mono HB2.size));have Bc3:=upK Bc2 HWX.out;have Bx3:=upK Bx2 HWX.out;have hb9':w.heap.size<b9:=af
 clear hW HWX HB2 Bc2 Bx2;by_cases hte:t=⟨#[]⟩
 ·have hq:=cV hte;have HZO:Hid (aW t kc.z=kc.z):=by show aW _ _=_;unfold aW;rw[if_pos hte]
  clear hte;have hzn:¬kc.z=⟨#[]⟩->aO kc.z:=fun h=>((HT.2.1.2.1.2.1 jk kc HK.1).2.resolve_left h);obtain⟨x0,x1,x2,x3,x4⟩:=cs5 Bx3;obtain⟨n0,n1,n2,n3⟩:=cs4 Bn;have hxl:=ae Bx3.out;have hnl:=ae Bn.out;go_wp2_with fail;clear x0 x1 x2 x3 x4 n0 n1 n2 n3;by_cases hm:ib x.n x.k x.v kc.n kc.z kc.z;rotate_left
  ·refine (uF x.n x.z x.k x.x x.v kc.n kc.x kc.y kc.z kc.z _ HZX.1 hm).mono ?_;exact wm
  refine (rZ x.n x.z x.k x.x x.v kc.n kc.x kc.y kc.z kc.z _ hm).mono ?_;rintro e w5 ⟨rfl,hb⟩;have HM:=aa hm;have HB5:=upB HB3 hb;have Bc5:=upK Bc3 hb;clear hb hm Bc3 Bx3 Bn hxl hnl;by_cases hz:kc.z=⟨#[]⟩
  ·have HNM:Hid (¬ee x kc t):=fun h=>h.1 (by rw[HZO.out];exact hz);have hq2:=cV hz;clear hz;exact vO
  have HMV:Hid (ee x kc t):=⟨by rw[HZO.out];exact hz,by rw[HZO.out];exact HM.out⟩;have hzno:=hzn hz;have HZN:=aa hzno;have hq2:=bc hz;clear hz hzno hzn;go_wp2_with fail;clear hq2;obtain⟨W,hW0⟩:∃W,W=w5.alloc (.cells #[.string (aD++x.n),.int .i64 x.z,.string kc.z,.string x.k,.bool x.x,.string x.n,.bool false,.slice none 0 0] 99):=⟨_,rfl⟩;have BcW:=aa ((Fy w5 (.cells #[.string (aD++x.n),.int .i64 x.z,.string kc.z,.string x.k,.bool x.x,.string x.n,.bool false,.slice none 0 0] 99) _ (ae Bc5.out)).trans Bc5.out);have BvW:=aa (heap_alloc_new w5 (.cells #[.string (aD++x.n),.int .i64 x.z,.string kc.z,.string x.k,.bool x.x,.string x.n,.bool false,.slice none 0 0] 99));have HBW:=aa (HB5.trans ((al w5 (.cells #[.string (aD++x.n),.int .i64 x.z,.string kc.z,.string x.k,.bool x.x,.string x.n,.bool false,.slice none 0 0] 99)).mono HB5.size));have hw5:w.heap.size<=w5.heap.size:=HB5.size;rw[<-hW0] at BcW BvW HBW ⊢;clear hW0 Bc5 HB5;cases hh:hit Vd.n c.vs (aD++x.n);rotate_left
  ·exact wK
  have HH:=aa hh;clear hh;by_cases h8:l3<8;rotate_left
  ·exact wJ
  rename_i K0 hK0;refine bo (back:=none) aq (GF _).symm aq ?_;refine' au.an _ rfl ?_ ?_;rotate_left 1
  ·exact ew
  refine' au.an _ rfl ?_ ?_;rotate_left 1
  ·exact wF
  refine' au.an _ rfl ?_ ?_;rotate_left 1
  ·exact vV
  refine' au.an _ rfl ?_ ?_;rotate_left 1
  ·exact lW
  refine' au.an _ rfl ?_ ?_;rotate_left 1
  ·exact wI
  refine au.step (fun v _=>v=.int .i64 (-1)) rfl (Fact.cw _) ?_ ?_
  ·exact yL
  refine' au.an (.bool false) rfl ?_ ?_
  ·exact wE
  refine' au.an _ rfl ?_ ?_;rotate_left 1
  ·exact ew
  refine' au.an _ rfl ?_ ?_;rotate_left 1
  ·exact wC
  refine' au.an _ rfl ?_ ?_;rotate_left 1
  ·exact wD
  refine' au.an _ rfl ?_ ?_;rotate_left 1
  ·exact vW
  refine' au.an (.int .i64 l3) rfl ?_ ?_
  ·exact wH
  refine au.step (fun v _=>v=.int .i64 0) rfl (Fact.cw _) ?_ ?_
  ·exact yT
  refine' au.an _ rfl ?_ ?_;rotate_left 1
  ·exact wG
  refine au.done ?_;intro q wy hW hf;simp only[FI] at hf;obtain⟨h13,h103,h102,h101,h100,h99,h98,h97,h96,h95,h94,h93,h92,h91,-⟩:=hf;have HWY:=aa hW;clear hW;refine hK0 _ _ ?_;simp only[aE,Gd,GO,Fz,FH,FM,h13,h103,h102,h101,h100,h99,h98,h97,h96,h95,h94,h93,h92,h91];clear hK0;have Bc6:=upK BcW HWY.out;have Bv6:=upK BvW HWY.out;have HB6:=aa (HBW.trans (HWY.mono HBW.size));have hw6:w5.heap.size<wy.heap.size:=ae Bv6.out;clear HBW HWY BcW BvW;go_wp2_with fail;obtain⟨hxo,hZ1,hZ2,hZ0⟩:=BX;have hZ3:kc.z.size<=9223372036854775807:=by have h1:=HZN.2.1;omega
  clear hxo;rename_i K0 hK0;refine Gt.aR aq rfl rfl aq ?_;refine' au.an _ rfl ?_ ?_;rotate_left 1
  ·exact ew
  refine' au.an _ rfl ?_ ?_;rotate_left 1
  ·exact ew
  refine' au.an _ rfl ?_ ?_;rotate_left 1
  ·exact wj
  refine' au.an _ rfl ?_ ?_;rotate_left 1
  ·exact wh
  refine' au.an _ rfl ?_ ?_;rotate_left 1
  ·exact wq
  refine' au.an _ rfl ?_ ?_;rotate_left 1
  ·exact wv
  refine au.step (ud w S (da c i x kc.z).vs) rfl (ud.mono _ _ _) ?_ ?_
  ·refine Obl.plain rfl ?_;intro ac wg K hsz hW hf hK;clear hsz;have e111:=hf 111 aj;simp[ai,Fs] at e111;have e112:=hf 112 aj;simp[ai,Fs] at e112;clear hf;go_simp;refine (mY a3 l3 y3 c.vs (mkV x kc.z) none 0 0 0 S (fun _=>False) _ (HO.v.below (HB6.trans (hW.mono HB6.size))) af (fun q f hf=>?_) (fun _ _ h=>h)).mono ?_
   ·exact CI
   exact wB
  refine' au.an _ rfl ?_ ?_;rotate_left 1
  ·exact wk
  refine' au.an _ rfl ?_ ?_;rotate_left 1
  ·exact wi
  refine au.done ?_;intro q wx hW hf;simp only[FI] at hf;obtain⟨h115,h114,h113,h112,h111,h110,h109,h108,h107,-⟩:=hf;obtain⟨q3,m3,z3,hv113,ho7⟩:=h113;have HO7:=aa ho7;have HWX:=upB HB6 hW;have Bc7:=upK Bc6 hW;have Bv7:=upK Bv6 hW;obtain⟨k0,k1,k2,k3,k4,k5⟩:=cs6 Bc7;have hfz:=av Bc7.out 2;have hbl7:=ae Bc7.out;clear ho7 hW;intro K hK;rw[if_pos bF];simp only[aE,Gd,GO,Fz,FH,FM,h115,h114,h112,h111,h110,h109,h108,h107,hv113];simp only[G3];go_simp;refine hK _ _ ?_;refine hK0 _ _ ?_;clear hK hK0 K K0;clear k0 k1 k2 k3 k4 k5 hfz;have hnb:∀k,(S k\/w.heap.size<=k)->¬k=b:=fun k h=>by
   rcases h with h|h
   ·exact (HS.out k h).2
   ·omega
  obtain⟨kp,f1,f2,f4,f5,f3,hB8⟩:=Cf;have hv8:(wx.setCell ⟨b,2,none⟩ (.slice q3 m3 z3)).heap[w5.heap.size]?=some (.cells #[.string (aD++x.n),.int .i64 x.z,.string kc.z,.string x.k,.bool x.x,.string x.n,.bool false,.slice none 0 0] 99 (0,0)):=(Fp _ _ _ _ (show w5.heap.size≠b by omega)).trans Bv7.out;exact xF
 ·have hq:=bc hte;have HZO:Hid (aW t kc.z=t):=by show aW _ _=_;unfold aW;rw[if_neg hte]
  clear hte;have hzn:¬t=⟨#[]⟩->aO t:=fun h=>HTZ.resolve_left h;obtain⟨x0,x1,x2,x3,x4⟩:=cs5 Bx3;obtain⟨n0,n1,n2,n3⟩:=cs4 Bn;have hxl:=ae Bx3.out;have hnl:=ae Bn.out;go_wp2_with fail;clear x0 x1 x2 x3 x4 n0 n1 n2 n3;by_cases hm:ib x.n x.k x.v kc.n kc.z t;rotate_left
  ·refine (uF x.n x.z x.k x.x x.v kc.n kc.x kc.y kc.z t _ HZX.1 hm).mono ?_;exact wm
  refine (rZ x.n x.z x.k x.x x.v kc.n kc.x kc.y kc.z t _ hm).mono ?_;rintro e w5 ⟨rfl,hb⟩;have HM:=aa hm;have HB5:=upB HB3 hb;have Bc5:=upK Bc3 hb;clear hb hm Bc3 Bx3 Bn hxl hnl;by_cases hz:t=⟨#[]⟩
  ·have HNM:Hid (¬ee x kc t):=fun h=>h.1 (by rw[HZO.out];exact hz);clear hq;have hq2:=cV hz;clear hz;exact vO
  have HMV:Hid (ee x kc t):=⟨by rw[HZO.out];exact hz,by rw[HZO.out];exact HM.out⟩;have hzno:=hzn hz;have HZN:=aa hzno;clear hq;have hq2:=bc hz;clear hz hzno hzn;go_wp2_with fail;clear hq2;obtain⟨W,hW0⟩:∃W,W=w5.alloc (.cells #[.string (aD++x.n),.int .i64 x.z,.string t,.string x.k,.bool x.x,.string x.n,.bool false,.slice none 0 0] 99):=⟨_,rfl⟩;have BcW:=aa ((Fy w5 (.cells #[.string (aD++x.n),.int .i64 x.z,.string t,.string x.k,.bool x.x,.string x.n,.bool false,.slice none 0 0] 99) _ (ae Bc5.out)).trans Bc5.out);have BvW:=aa (heap_alloc_new w5 (.cells #[.string (aD++x.n),.int .i64 x.z,.string t,.string x.k,.bool x.x,.string x.n,.bool false,.slice none 0 0] 99));have HBW:=aa (HB5.trans ((al w5 (.cells #[.string (aD++x.n),.int .i64 x.z,.string t,.string x.k,.bool x.x,.string x.n,.bool false,.slice none 0 0] 99)).mono HB5.size));have hw5:w.heap.size<=w5.heap.size:=HB5.size;rw[<-hW0] at BcW BvW HBW ⊢;clear hW0 Bc5 HB5;cases hh:hit Vd.n c.vs (aD++x.n);rotate_left
  ·exact wK
  have HH:=aa hh;clear hh;by_cases h8:l3<8;rotate_left
  ·exact wJ
  rename_i K0 hK0;refine bo (back:=none) aq (GF _).symm aq ?_;refine' au.an _ rfl ?_ ?_;rotate_left 1
  ·exact ew
  refine' au.an _ rfl ?_ ?_;rotate_left 1
  ·exact wF
  refine' au.an _ rfl ?_ ?_;rotate_left 1
  ·exact vV
  refine' au.an _ rfl ?_ ?_;rotate_left 1
  ·exact lW
  refine' au.an _ rfl ?_ ?_;rotate_left 1
  ·exact wI
  refine au.step (fun v _=>v=.int .i64 (-1)) rfl (Fact.cw _) ?_ ?_
  ·exact yL
  refine' au.an (.bool false) rfl ?_ ?_
  ·exact wE
  refine' au.an _ rfl ?_ ?_;rotate_left 1
  ·exact ew
  refine' au.an _ rfl ?_ ?_;rotate_left 1
  ·exact wC
  refine' au.an _ rfl ?_ ?_;rotate_left 1
  ·exact wD
  refine' au.an _ rfl ?_ ?_;rotate_left 1
  ·exact vW
  refine' au.an (.int .i64 l3) rfl ?_ ?_
  ·exact wH
  refine au.step (fun v _=>v=.int .i64 0) rfl (Fact.cw _) ?_ ?_
  ·exact yT
  refine' au.an _ rfl ?_ ?_;rotate_left 1
  ·exact wG
  refine au.done ?_;intro q wy hW hf;simp only[FI] at hf;obtain⟨h13,h103,h102,h101,h100,h99,h98,h97,h96,h95,h94,h93,h92,h91,-⟩:=hf;have HWY:=aa hW;clear hW;refine hK0 _ _ ?_;simp only[aE,Gd,GO,Fz,FH,FM,h13,h103,h102,h101,h100,h99,h98,h97,h96,h95,h94,h93,h92,h91];clear hK0;have Bc6:=upK BcW HWY.out;have Bv6:=upK BvW HWY.out;have HB6:=aa (HBW.trans (HWY.mono HBW.size));have hw6:w5.heap.size<wy.heap.size:=ae Bv6.out;clear HBW HWY BcW BvW;go_wp2_with fail;obtain⟨hxo,hZ1,hZ2,hZ0⟩:=BX;have hZ3:t.size<=9223372036854775807:=by have h1:=HZN.2.1;omega
  clear hxo;rename_i K0 hK0;refine Gt.aR aq rfl rfl aq ?_;refine' au.an _ rfl ?_ ?_;rotate_left 1
  ·exact ew
  refine' au.an _ rfl ?_ ?_;rotate_left 1
  ·exact ew
  refine' au.an _ rfl ?_ ?_;rotate_left 1
  ·exact wj
  refine' au.an _ rfl ?_ ?_;rotate_left 1
  ·exact wh
  refine' au.an _ rfl ?_ ?_;rotate_left 1
  ·exact wq
  refine' au.an _ rfl ?_ ?_;rotate_left 1
  ·exact wv
  refine au.step (ud w S (da c i x t).vs) rfl (ud.mono _ _ _) ?_ ?_
  ·refine Obl.plain rfl ?_;intro ac wg K hsz hW hf hK;clear hsz;have e111:=hf 111 aj;simp[ai,Fs] at e111;have e112:=hf 112 aj;simp[ai,Fs] at e112;clear hf;go_simp;refine (mY a3 l3 y3 c.vs (mkV x t) none 0 0 0 S (fun _=>False) _ (HO.v.below (HB6.trans (hW.mono HB6.size))) af (fun q f hf=>?_) (fun _ _ h=>h)).mono ?_
   ·exact CI
   exact wB
  refine' au.an _ rfl ?_ ?_;rotate_left 1
  ·exact wk
  refine' au.an _ rfl ?_ ?_;rotate_left 1
  ·exact wi
  refine au.done ?_;intro q wx hW hf;simp only[FI] at hf;obtain⟨h115,h114,h113,h112,h111,h110,h109,h108,h107,-⟩:=hf;obtain⟨q3,m3,z3,hv113,ho7⟩:=h113;have HO7:=aa ho7;have HWX:=upB HB6 hW;have Bc7:=upK Bc6 hW;have Bv7:=upK Bv6 hW;obtain⟨k0,k1,k2,k3,k4,k5⟩:=cs6 Bc7;have hfz:=av Bc7.out 2;have hbl7:=ae Bc7.out;clear ho7 hW;intro K hK;rw[if_pos bF];simp only[aE,Gd,GO,Fz,FH,FM,h115,h114,h112,h111,h110,h109,h108,h107,hv113];simp only[G3];go_simp;refine hK _ _ ?_;refine hK0 _ _ ?_;clear hK hK0 K K0;clear k0 k1 k2 k3 k4 k5 hfz;have hnb:∀k,(S k\/w.heap.size<=k)->¬k=b:=fun k h=>by
   rcases h with h|h
   ·exact (HS.out k h).2
   ·omega
  obtain⟨kp,f1,f2,f4,f5,f3,hB8⟩:=Cf;have hv8:(wx.setCell ⟨b,2,none⟩ (.slice q3 m3 z3)).heap[w5.heap.size]?=some (.cells #[.string (aD++x.n),.int .i64 x.z,.string t,.string x.k,.bool x.x,.string x.n,.bool false,.slice none 0 0] 99 (0,0)):=(Fp _ _ _ _ (show w5.heap.size≠b by omega)).trans Bv7.out;exact xF

theorem DY (c:Cl) (i:Nat) (x:Xd) (k:Kd) (t:ByteArray):∃o,er c i x k t o:=by
 cases h:dd (svV x.z x.k x.x t) c.vs with
 | some u=>
  obtain⟨j,hj⟩:=oX h;exact⟨_,.inl ⟨j,u,h,hj,rfl⟩⟩
 | none=>
  by_cases h1:ee x k t
  ·cases h2:hit Vd.n c.vs (aD++x.n)
   ·by_cases h3:c.vs.length<8
    ·exact⟨_,.inr ⟨h,.inr ⟨h1,.inr ⟨h2,.inr ⟨h3,rfl⟩⟩⟩⟩⟩
    ·exact⟨_,.inr ⟨h,.inr ⟨h1,.inr ⟨h2,.inl ⟨h3,rfl⟩⟩⟩⟩⟩
   ·exact⟨_,.inr ⟨h,.inr ⟨h1,.inl ⟨h2,rfl⟩⟩⟩⟩
  ·exact⟨_,.inr ⟨h,.inl ⟨h1,rfl⟩⟩⟩
def Ff (c:Cl) (t:ByteArray) (n:Nd) (S:Nat->Prop) (b:Nat) (a1:Option Addr) (l1 y1:Nat) (a2:Option Addr) (l2 y2:Nat) (_a3:Option Addr) (_l3 _y3:Nat) (a4:Option Addr) (l4 y4:Nat) (a5:Option Addr) (l5 y5:Nat) (w:World) (e:Ending) (w':World):Prop:=
 ∃(c':Cl) (e0:Int),e=.returned (.int .i64 e0)/\cJ c n t c' e0/\((¬e0=0/\Below w.heap.size w w')\/(e0=0/\∃(q3:Option Addr) (m3 z3:Nat),w'.heap[b]?=some (.cells (c6 a1 l1 y1 a2 l2 y2 q3 m3 z3 a4 l4 y4 a5 l5 y5 c.now) 36 (0,0))/\ey w' ⟨a1,l1,y1,a2,l2,y2,q3,m3,z3,a4,l4,y4,a5,l5,y5⟩ c'.raw (fun k=>S k\/w.heap.size<=k)/\aC (fun k=>S k\/k=b) w w'))

theorem uL (c:Cl) (t:ByteArray) (n:Nd) (na:Option Addr) (nl nc:Nat) (S:Nat->Prop) (b:Nat) (a1:Option Addr) (l1 y1:Nat) (a2:Option Addr) (l2 y2:Nat) (a3:Option Addr) (l3 y3:Nat) (a4:Option Addr) (l4 y4:Nat) (a5:Option Addr) (l5 y5:Nat) (w:World) (hb:w.heap[b]?=some (.cells #[.slice a1 l1 y1,.slice a2 l2 y2,.slice a3 l3 y3,.slice a4 l4 y4,.slice a5 l5 y5,.int .i64 c.now] 36 (0,0))) (hO:ey w ⟨a1,l1,y1,a2,l2,y2,a3,l3,y3,a4,l4,y4,a5,l5,y5⟩ c.raw S) (hS:∀k,S k->k<w.heap.size/\¬k=b) (hT:aB c) (ht:hit Xd.n c.xs t=true) (hnz:aO n.z):
  Calls Tryz.prog 81 #[.pointer (some ⟨b,0,none⟩),.string t,.agg #[.string n.n,.string n.z,.int .i64 n.c,.int .i64 n.s,.int .i64 n.u,.bool n.d,.slice na nl nc]] w (Ff c t n S b a1 l1 y1 a2 l2 y2 a3 l3 y3 a4 l4 y4 a5 l5 y5 w):=by
 have HO:=aa hO;have HR:=aa hO.row;have HS:=aa hS;have HT:=aa hT;have HNZ:=aa hnz;have hl2:c.ks.length=l2:=by simpa using (show (c.ks.map kdF).length=l2 from hO.row.k.1)
 have hl3:c.vs.length=l3:=by simpa using (show (c.vs.map vdF).length=l3 from hO.row.v.1)
 have hl4:c.xs.length=l4:=by simpa using (show (c.xs.map xdF).length=l4 from hO.row.x.1)
 obtain⟨x,hx,hn⟩:=dq ht;generalize Rc.pl Xd.n c.xs t=i at hx;have HX:=aa (Fo hx hn);have hbd:=(hT.2.2.1.2 _ x hx).2;have hi4:i<l4:=by have:=(Fm.1 hx).1;omega
 have hii:(i:Int)<l4:=af
 have hi0:¬(i:Int)<0:=af
 obtain⟨j,k,hkj,hkn⟩:∃(j:Nat) (k:Kd),c.ks[j]?=some k/\k.n=x.k:=by obtain⟨k,h1,h2⟩:=dq (hT.2.2.1.2 _ x hx).1;exact⟨_,k,h1,h2⟩
 have HK:=aa (Fo hkj hkn);have hj2:j<l2:=by have:=(Fm.1 hkj).1;omega
 have hjj:(j:Int)<l2:=af
 have hj0:¬(j:Int)<0:=af
 have HB:=aa (Fw w.heap.size w);clear hO hS hT hnz ht hx hn hkj hkn;have Bg:=aa (hb);clear hb;rcases hbd with hv0|hBd;rotate_left
 ·obtain⟨i1,j1,x1,v,b1,b2,b3,b4,b5,b6,-⟩:=hBd;have HV:=aa (Fo b3 b4);have HM:Hid (v.m=t):=b6.trans HX.2;have HZS:=aa ((HT.2.1.2.2.1.2.1 j1 v b3).2.2.2.2.2.2.1);have hj3:j1<l3:=by have:=(Fm.1 b3).1;omega
  have hjj3:(j1:Int)<l3:=af
  have hj03:¬(j1:Int)<0:=af
  clear b1 b2 b3 b4 b5 b6;go_enter Tryz.func81,Tryz.ntmps81;obtain⟨g0,g1,g2,g3,g4,g5⟩:=cs6 Bg;have ltg_0:=ae Bg.out;go_wp2_with fail;refine (kT ⟨a1,l1,y1,a2,l2,y2,a3,l3,y3,a4,l4,y4,a5,l5,y5⟩ c t _ (HR.below (HB.trans ((al _ _).mono HB.size))) HT.out HV.1 ⟨i,j1,x,HX.1,HX.2,HV.1,HV.2⟩).mono ?_;rintro e w1 ⟨rfl,hb⟩;clear g0 g1 g2 g3 g4 g5 ltg_0;obtain⟨HA0,hbx⟩:=aL hb;replace Bg:=upK Bg hbx;have Bn:=aa HA0;replace HB:=upB HB hbx;clear hb hbx HA0;obtain⟨bv,ov,y,rfl,hbv,hy,hat⟩:=bN (HR.v.below HB.out) hj3;rw[HV.1] at hy;obtain rfl:=Fq hy;obtain⟨va,vl,vc,hvr,z0,z2,z3,z5,c0,c1,c2,c3,c4,c5,c6,c7⟩:=aK hat;have HVR:=aa hvr;clear hat hy z0 z2 z3 z5 hvr;by_cases hz:v.z=n.z;rotate_left
  ·have hq:=bC hz;have HZ:=aa hz;clear hz;obtain⟨g0,g1,g2,g3,g4,g5⟩:=cs6 Bg;have ltg_1:=ae Bg.out;obtain⟨n0,n1,n2,n3,n4,n5,n6⟩:=cs7 Bn;have ltn_1:=ae Bn.out;go_wp2;go_ret;exact⟨c,8,rfl,⟨i,x,HX.1,HX.2,.inl ⟨j1,v,HV.1,HV.2,rfl,.inl ⟨HZ.out,rfl⟩⟩⟩,.inl ⟨by decide,HB.trans ((al _ _).mono HB.size)⟩⟩
  have hq:=a9 hz;have HZ:=aa hz;clear hz;cases hvx:v.x
  ·have HVX:=aa hvx;rw[hvx] at c4;clear hvx;obtain⟨g0,g1,g2,g3,g4,g5⟩:=cs6 Bg;have ltg_1:=ae Bg.out;obtain⟨n0,n1,n2,n3,n4,n5,n6⟩:=cs7 Bn;have ltn_1:=ae Bn.out;go_wp2_with fail;clear g0 g1 g2 g3 g4 g5 ltg_1 n0 n1 n2 n3 n4 n5 n6 ltn_1;have hszv2:(w1.alloc (.cells #[.string v.n,.int .i64 v.c,.string v.z,.string v.k,.bool false,.string v.m,.bool v.y,.slice va vl vc] 99)).heap.size=w1.heap.size+1:=aS
   have Gg:Hid ((w1.alloc (.cells #[.string v.n,.int .i64 v.c,.string v.z,.string v.k,.bool false,.string v.m,.bool v.y,.slice va vl vc] 99)).heap[b]?=some (.cells (c6 a1 l1 y1 a2 l2 y2 (some ⟨bv,ov,none⟩) l3 y3 a4 l4 y4 a5 l5 y5 c.now) 36 (0,0))):=(Fy _ _ _ (ae Bg.out)).trans (Bg.out);have Gn:Hid ((w1.alloc (.cells #[.string v.n,.int .i64 v.c,.string v.z,.string v.k,.bool false,.string v.m,.bool v.y,.slice va vl vc] 99)).heap[w.heap.size]?=some (.cells (nov n na nl nc) 57 (0,0))):=(Fy _ _ _ (ae Bn.out)).trans (Bn.out);have Gv:Hid ((w1.alloc (.cells #[.string v.n,.int .i64 v.c,.string v.z,.string v.k,.bool false,.string v.m,.bool v.y,.slice va vl vc] 99)).heap[w1.heap.size]?=some (.cells #[.string v.n,.int .i64 v.c,.string v.z,.string v.k,.bool false,.string v.m,.bool v.y,.slice va vl vc] 99 (0,0))):=FD;have HW:Hid (Below w.heap.size w (w1.alloc (.cells #[.string v.n,.int .i64 v.c,.string v.z,.string v.k,.bool false,.string v.m,.bool v.y,.slice va vl vc] 99))):=(HB.trans ((al _ _).mono HB.size));obtain⟨g0,g1,g2,g3,g4,g5⟩:=sl6 Gg;obtain⟨n0,n1,n2,n3,n4,n5,n6⟩:=sl7 Gn;obtain⟨v0,v1,v2,v3,v4,v5,v6,v7⟩:=sl8 Gv;have hne0:=Wd.ne (w1.alloc (.cells #[.string v.n,.int .i64 v.c,.string v.z,.string v.k,.bool false,.string v.m,.bool v.y,.slice va vl vc] 99));go_wp2_with fail;refine ag aq aq ?_;repeat (go_big_quiet_step (first|fail))
   refine wpQuiet_nil ?_;rintro _ ⟨q1,rfl⟩;obtain⟨HB2,Cg,Cn,Cv⟩:=nD;clear hne0 HW HB g0 g1 g2 g3 g4 g5 n0 n1 n2 n3 n4 n5 n6 v0 v1 v2 v3 v4 v5 v6 v7 Gg Gn Gv Bg Bn hszv2 c0 c1 c2 c3 c4 c5 c6 c7 hbv hq;have HB:=HB2;clear HB2;have Bg:=Cg;clear Cg;have Bn:=Cn;clear Cn;have Bv:=Cv;clear Cv;go_wp2;go_ret;exact⟨c,0,rfl,⟨i,x,HX.1,HX.2,.inl ⟨j1,v,HV.1,HV.2,rfl,.inr (.inr ⟨HZ.out,(fun h=>by have h9:=h.1;rw[HVX.out] at h9;cases h9),rfl⟩)⟩⟩,.inr ⟨rfl,some ⟨bv,ov,none⟩,l3,y3,Bg.out,⟨(HO.below HB.out).n.bA (fun _ _ s=>.inl s),(HO.below HB.out).k.bA (fun _ _ s=>.inl s),(HO.below HB.out).v.bA (fun _ _ s=>.inl s),(HO.below HB.out).x.bA (fun _ _ s=>.inl s),(HO.below HB.out).p.bA (fun _ _ s=>.inl s)⟩,aC.bZ HB.out⟩⟩
  have HVX:=aa hvx;rw[hvx] at c4;clear hvx;by_cases hel:∃(j:Nat) (p:Pd),c.ps[j]?=some p/\OtP p n.n t
  ·have HEL:=aa hel;clear hel;obtain⟨g0,g1,g2,g3,g4,g5⟩:=cs6 Bg;have ltg_1:=ae Bg.out;obtain⟨n0,n1,n2,n3,n4,n5,n6⟩:=cs7 Bn;have ltn_1:=ae Bn.out;go_wp2_with fail;clear g0 g1 g2 g3 g4 g5 ltg_1 n0 n1 n2 n3 n4 n5 n6 ltn_1;have hszv2:(w1.alloc (.cells #[.string v.n,.int .i64 v.c,.string v.z,.string v.k,.bool true,.string v.m,.bool v.y,.slice va vl vc] 99)).heap.size=w1.heap.size+1:=aS
   have Gg:Hid ((w1.alloc (.cells #[.string v.n,.int .i64 v.c,.string v.z,.string v.k,.bool true,.string v.m,.bool v.y,.slice va vl vc] 99)).heap[b]?=some (.cells (c6 a1 l1 y1 a2 l2 y2 (some ⟨bv,ov,none⟩) l3 y3 a4 l4 y4 a5 l5 y5 c.now) 36 (0,0))):=(Fy _ _ _ (ae Bg.out)).trans (Bg.out);have Gn:Hid ((w1.alloc (.cells #[.string v.n,.int .i64 v.c,.string v.z,.string v.k,.bool true,.string v.m,.bool v.y,.slice va vl vc] 99)).heap[w.heap.size]?=some (.cells (nov n na nl nc) 57 (0,0))):=(Fy _ _ _ (ae Bn.out)).trans (Bn.out);have Gv:Hid ((w1.alloc (.cells #[.string v.n,.int .i64 v.c,.string v.z,.string v.k,.bool true,.string v.m,.bool v.y,.slice va vl vc] 99)).heap[w1.heap.size]?=some (.cells #[.string v.n,.int .i64 v.c,.string v.z,.string v.k,.bool true,.string v.m,.bool v.y,.slice va vl vc] 99 (0,0))):=FD;have HW:Hid (Below w.heap.size w (w1.alloc (.cells #[.string v.n,.int .i64 v.c,.string v.z,.string v.k,.bool true,.string v.m,.bool v.y,.slice va vl vc] 99))):=(HB.trans ((al _ _).mono HB.size));obtain⟨g0,g1,g2,g3,g4,g5⟩:=sl6 Gg;obtain⟨n0,n1,n2,n3,n4,n5,n6⟩:=sl7 Gn;obtain⟨v0,v1,v2,v3,v4,v5,v6,v7⟩:=sl8 Gv;have hne0:=Wd.ne (w1.alloc (.cells #[.string v.n,.int .i64 v.c,.string v.z,.string v.k,.bool true,.string v.m,.bool v.y,.slice va vl vc] 99));have HC0:=aa (fun q:Wd (w1.alloc (.cells #[.string v.n,.int .i64 v.c,.string v.z,.string v.k,.bool true,.string v.m,.bool v.y,.slice va vl vc] 99))=>(iv ⟨a1,l1,y1,a2,l2,y2,(some ⟨bv,ov,none⟩),l3,y3,a4,l4,y4,a5,l5,y5⟩ c t n.n q.w (HR.below (HW.trans (q.b.mono HW.size)))).mono (fun _ _ h=>ar.yes h HEL.out));go_wp2_with fail;refine ag aq aq ?_;repeat (go_big_quiet_step (first|(go_at_call 106;exact Calls.wide (HC0.out _))|fail))
   refine wpQuiet_nil ?_;rintro _ ⟨q1,rfl⟩;obtain⟨HB2,Cg,Cn,Cv⟩:=nD;clear hne0 HW HB HC0 g0 g1 g2 g3 g4 g5 n0 n1 n2 n3 n4 n5 n6 v0 v1 v2 v3 v4 v5 v6 v7 Gg Gn Gv Bg Bn hszv2 c0 c1 c2 c3 c4 c5 c6 c7 hbv hq;have HB:=HB2;clear HB2;have Bg:=Cg;clear Cg;have Bn:=Cn;clear Cn;have Bv:=Cv;clear Cv;go_wp2;go_ret;exact⟨c,10,rfl,⟨i,x,HX.1,HX.2,.inl ⟨j1,v,HV.1,HV.2,rfl,.inr (.inl ⟨HZ.out,⟨HVX.out,.inr (by obtain⟨j9,p9,h1,h2,h3,h4⟩:=HEL.out;exact⟨j9,p9,h1,h2,h3,by rw[HM.out];exact h4⟩)⟩,rfl⟩)⟩⟩,.inl ⟨by decide,HB.out⟩⟩
  have HEL:=aa hel;clear hel;have hvl:v.zs.length=vl:=HVR.1;have hv1:vl<=1:=by have h9:=HZS.out;rw[HVX.out] at h9;simp at h9;omega
  by_cases hv0:vl=0
  ·subst hv0;obtain⟨g0,g1,g2,g3,g4,g5⟩:=cs6 Bg;have ltg_1:=ae Bg.out;obtain⟨n0,n1,n2,n3,n4,n5,n6⟩:=cs7 Bn;have ltn_1:=ae Bn.out;go_wp2_with fail;clear g0 g1 g2 g3 g4 g5 ltg_1 n0 n1 n2 n3 n4 n5 n6 ltn_1;have hszv2:(w1.alloc (.cells #[.string v.n,.int .i64 v.c,.string v.z,.string v.k,.bool true,.string v.m,.bool v.y,.slice va 0 vc] 99)).heap.size=w1.heap.size+1:=aS
   have Gg:Hid ((w1.alloc (.cells #[.string v.n,.int .i64 v.c,.string v.z,.string v.k,.bool true,.string v.m,.bool v.y,.slice va 0 vc] 99)).heap[b]?=some (.cells (c6 a1 l1 y1 a2 l2 y2 (some ⟨bv,ov,none⟩) l3 y3 a4 l4 y4 a5 l5 y5 c.now) 36 (0,0))):=(Fy _ _ _ (ae Bg.out)).trans (Bg.out);have Gn:Hid ((w1.alloc (.cells #[.string v.n,.int .i64 v.c,.string v.z,.string v.k,.bool true,.string v.m,.bool v.y,.slice va 0 vc] 99)).heap[w.heap.size]?=some (.cells (nov n na nl nc) 57 (0,0))):=(Fy _ _ _ (ae Bn.out)).trans (Bn.out);have Gv:Hid ((w1.alloc (.cells #[.string v.n,.int .i64 v.c,.string v.z,.string v.k,.bool true,.string v.m,.bool v.y,.slice va 0 vc] 99)).heap[w1.heap.size]?=some (.cells #[.string v.n,.int .i64 v.c,.string v.z,.string v.k,.bool true,.string v.m,.bool v.y,.slice va 0 vc] 99 (0,0))):=FD;have HW:Hid (Below w.heap.size w (w1.alloc (.cells #[.string v.n,.int .i64 v.c,.string v.z,.string v.k,.bool true,.string v.m,.bool v.y,.slice va 0 vc] 99))):=(HB.trans ((al _ _).mono HB.size));obtain⟨g0,g1,g2,g3,g4,g5⟩:=sl6 Gg;obtain⟨n0,n1,n2,n3,n4,n5,n6⟩:=sl7 Gn;obtain⟨v0,v1,v2,v3,v4,v5,v6,v7⟩:=sl8 Gv;have hne0:=Wd.ne (w1.alloc (.cells #[.string v.n,.int .i64 v.c,.string v.z,.string v.k,.bool true,.string v.m,.bool v.y,.slice va 0 vc] 99));have HC0:=aa (fun q:Wd (w1.alloc (.cells #[.string v.n,.int .i64 v.c,.string v.z,.string v.k,.bool true,.string v.m,.bool v.y,.slice va 0 vc] 99))=>(iv ⟨a1,l1,y1,a2,l2,y2,(some ⟨bv,ov,none⟩),l3,y3,a4,l4,y4,a5,l5,y5⟩ c t n.n q.w (HR.below (HW.trans (q.b.mono HW.size)))).mono (fun _ _ h=>ar.no h HEL.out));go_wp2_with fail;refine ag aq aq ?_;repeat (go_big_quiet_step (first|(go_at_call 106;exact Calls.wide (HC0.out _))|fail))
   refine wpQuiet_nil ?_;rintro _ ⟨q1,rfl⟩;obtain⟨HB2,Cg,Cn,Cv⟩:=nD;clear hne0 HW HB HC0 g0 g1 g2 g3 g4 g5 n0 n1 n2 n3 n4 n5 n6 v0 v1 v2 v3 v4 v5 v6 v7 Gg Gn Gv Bg Bn hszv2 c0 c1 c2 c3 c4 c5 c6 c7 hbv hq;have HB:=HB2;clear HB2;have Bg:=Cg;clear Cg;have Bn:=Cn;clear Cn;have Bv:=Cv;clear Cv;go_wp2;go_ret;exact⟨c,0,rfl,⟨i,x,HX.1,HX.2,.inl ⟨j1,v,HV.1,HV.2,rfl,.inr (.inr ⟨HZ.out,fun h=>h.2.elim (fun ⟨j9,t9,h1,h2⟩=>(by have h9:=(Fm.1 h1).1;omega)) (fun ⟨j9,p9,h1,h2,h3,h4⟩=>HEL.out ⟨j9,p9,h1,h2,h3,by rw[<-HM.out];exact h4⟩),rfl⟩)⟩⟩,.inr ⟨rfl,some ⟨bv,ov,none⟩,l3,y3,Bg.out,⟨(HO.below HB.out).n.bA (fun _ _ s=>.inl s),(HO.below HB.out).k.bA (fun _ _ s=>.inl s),(HO.below HB.out).v.bA (fun _ _ s=>.inl s),(HO.below HB.out).x.bA (fun _ _ s=>.inl s),(HO.below HB.out).p.bA (fun _ _ s=>.inl s)⟩,aC.bZ HB.out⟩⟩
  obtain rfl:vl=1:=af
  obtain⟨bz,oz,z,rfl,hbz,hz,hcz0,-⟩:=HVR.at (show 0<1 by omega);have hcz:w1.cell? ⟨bz,oz,none⟩=some (.string z):=by simpa using hcz0
  clear hcz0;have HZ0:=aa hz;clear hz;by_cases hzn:z=n.n
  ·have hqz:=a9 hzn;have HZN:=aa hzn;clear hzn;obtain⟨g0,g1,g2,g3,g4,g5⟩:=cs6 Bg;have ltg_1:=ae Bg.out;obtain⟨n0,n1,n2,n3,n4,n5,n6⟩:=cs7 Bn;have ltn_1:=ae Bn.out;go_wp2_with fail;clear g0 g1 g2 g3 g4 g5 ltg_1 n0 n1 n2 n3 n4 n5 n6 ltn_1;obtain⟨hszv2,Gg,Gn,Gv,HW⟩:=D9;obtain⟨g0,g1,g2,g3,g4,g5⟩:=sl6 Gg;obtain⟨n0,n1,n2,n3,n4,n5,n6⟩:=sl7 Gn;obtain⟨v0,v1,v2,v3,v4,v5,v6,v7⟩:=sl8 Gv;obtain⟨zc,hne0,HC0⟩:=Ch;go_wp2_with fail;refine ag aq aq ?_;repeat (go_big_quiet_step (first|(go_at_call 106;exact Calls.wide (HC0.out _))|fail))
   refine wpQuiet_nil ?_;rintro _ ⟨q1,rfl⟩;obtain⟨HB2,Cg,Cn,Cv⟩:=nD;clear hne0 HW HB HC0 g0 g1 g2 g3 g4 g5 n0 n1 n2 n3 n4 n5 n6 v0 v1 v2 v3 v4 v5 v6 v7 zc Gg Gn Gv Bg Bn hszv2 c0 c1 c2 c3 c4 c5 c6 c7 hbv hq hcz hbz hqz;have HB:=HB2;clear HB2;have Bg:=Cg;clear Cg;have Bn:=Cn;clear Cn;have Bv:=Cv;clear Cv;go_wp2;go_ret;exact⟨c,0,rfl,⟨i,x,HX.1,HX.2,.inl ⟨j1,v,HV.1,HV.2,rfl,.inr (.inr ⟨HZ.out,fun h=>h.2.elim (fun ⟨j9,t9,h1,h2⟩=>(by have h9:=(Fm.1 h1).1;obtain rfl:j9=0:=af;rw[HZ0.out] at h1;cases h1;exact h2 HZN.out)) (fun ⟨j9,p9,h1,h2,h3,h4⟩=>HEL.out ⟨j9,p9,h1,h2,h3,by rw[<-HM.out];exact h4⟩),rfl⟩)⟩⟩,.inr ⟨rfl,some ⟨bv,ov,none⟩,l3,y3,Bg.out,⟨(HO.below HB.out).n.bA (fun _ _ s=>.inl s),(HO.below HB.out).k.bA (fun _ _ s=>.inl s),(HO.below HB.out).v.bA (fun _ _ s=>.inl s),(HO.below HB.out).x.bA (fun _ _ s=>.inl s),(HO.below HB.out).p.bA (fun _ _ s=>.inl s)⟩,aC.bZ HB.out⟩⟩
  have hqz:=bC hzn;have HZN:=aa hzn;clear hzn;obtain⟨g0,g1,g2,g3,g4,g5⟩:=cs6 Bg;have ltg_1:=ae Bg.out;obtain⟨n0,n1,n2,n3,n4,n5,n6⟩:=cs7 Bn;have ltn_1:=ae Bn.out;go_wp2_with fail;clear g0 g1 g2 g3 g4 g5 ltg_1 n0 n1 n2 n3 n4 n5 n6 ltn_1;obtain⟨hszv2,Gg,Gn,Gv,HW⟩:=D9;obtain⟨g0,g1,g2,g3,g4,g5⟩:=sl6 Gg;obtain⟨n0,n1,n2,n3,n4,n5,n6⟩:=sl7 Gn;obtain⟨v0,v1,v2,v3,v4,v5,v6,v7⟩:=sl8 Gv;obtain⟨zc,hne0,HC0⟩:=Ch;go_wp2_with fail;refine ag aq aq ?_;repeat (go_big_quiet_step (first|(go_at_call 106;exact Calls.wide (HC0.out _))|fail))
  refine wpQuiet_nil ?_;rintro _ ⟨q1,rfl⟩;obtain⟨HB2,Cg,Cn,Cv⟩:=nD;clear hne0 HW HB HC0 g0 g1 g2 g3 g4 g5 n0 n1 n2 n3 n4 n5 n6 v0 v1 v2 v3 v4 v5 v6 v7 zc Gg Gn Gv Bg Bn hszv2 c0 c1 c2 c3 c4 c5 c6 c7 hbv hq hcz hbz hqz;have HB:=HB2;clear HB2;have Bg:=Cg;clear Cg;have Bn:=Cn;clear Cn;have Bv:=Cv;clear Cv;go_wp2;go_ret;exact⟨c,10,rfl,⟨i,x,HX.1,HX.2,.inl ⟨j1,v,HV.1,HV.2,rfl,.inr (.inl ⟨HZ.out,⟨HVX.out,.inl ⟨0,z,HZ0.out,HZN.out⟩⟩,rfl⟩)⟩⟩,.inl ⟨by decide,HB.out⟩⟩
 have HXV:=aa hv0;clear hv0;go_enter Tryz.func81,Tryz.ntmps81;obtain⟨g0,g1,g2,g3,g4,g5⟩:=cs6 Bg;have ltg_0:=ae Bg.out;go_wp2_with fail;refine (nf ⟨a1,l1,y1,a2,l2,y2,a3,l3,y3,a4,l4,y4,a5,l5,y5⟩ c t _ (HR.below (HB.trans ((al _ _).mono HB.size))) HT.out (fun v h=>j_ HT.out HX.1 HXV.out h HX.2.symm)).mono ?_;rintro e w1 ⟨rfl,hb⟩;clear g0 g1 g2 g3 g4 g5 ltg_0;obtain⟨HA0,hbx⟩:=aL hb;replace Bg:=upK Bg hbx;have Bn:=aa HA0;replace HB:=upB HB hbx;clear hb hbx HA0;obtain⟨g0,g1,g2,g3,g4,g5⟩:=cs6 Bg;have ltg_1:=ae Bg.out;go_wp2_with fail;refine (e_ ⟨a1,l1,y1,a2,l2,y2,a3,l3,y3,a4,l4,y4,a5,l5,y5⟩ c.now c.xs t _ (HR.x.below HB.out) HT.2.1.2.2.2.1.2.2 HX.1 HX.2).mono ?_;rintro e w2 ⟨rfl,hb⟩;clear g0 g1 g2 g3 g4 g5 ltg_1;replace Bg:=upK Bg hb;replace Bn:=upK Bn hb;replace HB:=upB HB hb;clear hb;obtain⟨bx,ox,y,rfl,hbl,hy,hat⟩:=dF (HR.x.below HB.out) hi4;rw[HX.1] at hy;obtain rfl:=Fq hy;obtain⟨-,-,-,-,-,c2,-,-⟩:=bw hat;clear hat hy;obtain⟨bk,ok,y,rfl,hbk,hy,hat⟩:=eW (HR.k.below HB.out) hj2;rw[HK.1] at hy;obtain rfl:=Fq hy;obtain⟨-,-,d0,d1,d2,d3⟩:=cf hat;clear hat hy d0 d2 d3;obtain⟨g0,g1,g2,g3,g4,g5⟩:=cs6 Bg;have ltg_2:=ae Bg.out;go_wp2_with fail;clear g0 g1 g2 g3 g4 g5 ltg_2;cases hkx:k.x
 ·have HKX:=aa hkx;rw[hkx] at d1;clear hkx;have Gg:=Bg;have Gn:=Bn;have HW:=HB;obtain⟨g0,g1,g2,g3,g4,g5⟩:=sl6 Gg;obtain⟨xk,kx,hne0,HC0⟩:=B8;go_wp2_with fail;refine ag aq aq ?_;repeat (go_big_quiet_step (first|(go_at_call 104;exact Calls.wide (HC0.out _))|fail))
  refine wpQuiet_nil ?_;rintro _ ⟨q1,rfl⟩;have HB3:=upB HW q1.b;have Cg:=upK Gg q1.b;have Cn:=upK Gn q1.b;clear hne0 HW HB HC0 g0 g1 g2 g3 g4 g5 xk kx Gg Gn Bg Bn c2 d1 hbk hbl;have HB:=HB3;clear HB3;have Bg:=Cg;clear Cg;have Bn:=Cn;clear Cn;go_wp2;go_ret;obtain⟨oo,hoo⟩:=DY c i x k n.z;exact⟨oo.c,11,rfl,⟨i,x,HX.1,HX.2,.inr ⟨HXV.out,j,k,oo,HK.1,HK.2,hoo,rfl,.inl ⟨HKX.out,rfl⟩⟩⟩,.inl ⟨by decide,HB.out⟩⟩
 have HKX:=aa hkx;rw[hkx] at d1;clear hkx;have Gg:=Bg;have Gn:=Bn;have HW:=HB;obtain⟨g0,g1,g2,g3,g4,g5⟩:=sl6 Gg;obtain⟨xk,kx,hne0,HC0⟩:=B8;go_wp2_with fail;refine ag aq aq ?_;repeat (go_big_quiet_step (first|(go_at_call 104;exact Calls.wide (HC0.out _))|fail))
 refine wpQuiet_nil ?_;rintro _ ⟨q1,rfl⟩;have HB3:=upB HW q1.b;have Cg:=upK Gg q1.b;have Cn:=upK Gn q1.b;clear hne0 HW HB HC0 g0 g1 g2 g3 g4 g5 xk kx Gg Gn Bg Bn c2 d1 hbk hbl;have HB:=HB3;clear HB3;have Bg:=Cg;clear Cg;have Bn:=Cn;clear Cn;obtain⟨n0,n1,n2,n3,n4,n5,n6⟩:=cs7 Bn;have ltn_3:=ae Bn.out;go_wp2_with fail;refine (uI c i x j k n.z S b a1 l1 y1 (some ⟨bk,ok,none⟩) l2 y2 a3 l3 y3 (some ⟨bx,ox,none⟩) l4 y4 a5 l5 y5 q1.w Bg.out (HO.below HB.out) (fun k s=>⟨FE (HS.out k s).1 HB.size,(HS.out k s).2⟩) HT.out HX.1 HK.1 HK.2 HXV.out (.inr HNZ.out)).mono ?_;rintro e w4 hA;rcases hA with ⟨j1,u,h1,h2,rfl,h3,h4,h5⟩|⟨h1,⟨p9,hp0,hp,rfl,hb⟩|⟨h2,h3,h4,rfl,q3,m3,z3,h5,h6,h7⟩⟩
 ·have H1:=aa (Fo h1 h2);have H3:=aa h3;have H4:=aa h4;have H5:=aa h5;clear h1 h2 h3 h4 h5;go_wp2;go_ret;exact⟨dw c i j1 x u,0,rfl,⟨i,x,HX.1,HX.2,.inr ⟨HXV.out,j,k,⟨dw c i j1 x u,u.n,0⟩,HK.1,HK.2,.inl ⟨j1,u,H1.1,H1.2,rfl⟩,rfl,.inr ⟨HKX.out,rfl⟩⟩⟩,.inr ⟨rfl,a3,l3,y3,H3.out,⟨H4.n.bA (fun _ _ s=>.inl s),H4.k.bA (fun _ _ s=>.inl s),H4.v.bA (fun _ _ s=>.inl s),H4.x.bA (fun _ _ s=>.inl s),H4.p.bA (fun _ _ s=>.inl s)⟩,(aC.bZ HB.out).trans (H5.mono (fun _ s=>.inl s))⟩⟩
 ·have H1:=aa h1;have HP0:=aa hp0;have HPP:=aa hp;have HB4:=upB HB hb;clear h1 hp0 hp hb;go_wp2;go_ret;refine⟨(co0 p9).c,p9,rfl,⟨i,x,HX.1,HX.2,.inr ⟨HXV.out,j,k,co0 p9,HK.1,HK.2,.inr ⟨H1.out,?_⟩,rfl,.inr ⟨HKX.out,rfl⟩⟩⟩,.inl ⟨HP0.out,HB4.out⟩⟩;rcases HPP.out with ⟨h2,rfl⟩|⟨h2,h3,rfl⟩|⟨h2,h3,h4,rfl⟩
  ·exact .inl ⟨h2,rfl⟩
  ·exact .inr ⟨h2,.inl ⟨h3,rfl⟩⟩
  ·exact .inr ⟨h2,.inr ⟨h3,.inl ⟨h4,rfl⟩⟩⟩
 ·have H1:=aa (Fo h1 (Fo h2 (Fo h3 h4)));have H5:=aa h5;have H6:=aa h6;have H7:=aa h7;clear h1 h2 h3 h4 h5 h6 h7;go_wp2;go_ret;exact⟨da c i x (aW n.z k.z),0,rfl,⟨i,x,HX.1,HX.2,.inr ⟨HXV.out,j,k,⟨da c i x (aW n.z k.z),aD++x.n,0⟩,HK.1,HK.2,.inr ⟨H1.1,.inr ⟨H1.2.1,.inr ⟨H1.2.2.1,.inr ⟨H1.2.2.2,rfl⟩⟩⟩⟩,rfl,.inr ⟨HKX.out,rfl⟩⟩⟩,.inr ⟨rfl,q3,m3,z3,H5.out,⟨H6.n.bA (fun _ _ s=>s.imp id (fun q=>FA HB.size q)),H6.k.bA (fun _ _ s=>s.imp id (fun q=>FA HB.size q)),H6.v.bA (fun _ _ s=>s.imp id (fun q=>FA HB.size q)),H6.x.bA (fun _ _ s=>s.imp id (fun q=>FA HB.size q)),H6.p.bA (fun _ _ s=>s.imp id (fun q=>FA HB.size q))⟩,(aC.bZ HB.out).trans H7.out⟩⟩

end Rc
end Go.Proofs.YtpejepeekdjfoaaGreatDoor

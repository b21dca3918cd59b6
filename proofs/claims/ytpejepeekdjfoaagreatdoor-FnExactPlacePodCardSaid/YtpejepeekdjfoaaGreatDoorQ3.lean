import Derived.Test.YtpejepeekdjfoaaGreatDoorQ2
set_option maxRecDepth 100000
set_option maxHeartbeats 12800000
open And renaming intro→Fl
open Array renaming getD_eq_getD_getElem?→Fu, getElem?_push_size→FB, getElem?_eq_some_iff→FE, getElem?_setIfInBounds→FI
open Bool renaming and_eq_true→Gh
open Classical renaming byContradiction→GO
open Go.Act renaming put→GG
open Go.Addr renaming add_lit→FQ
open Go.Builtin renaming append_→Gw
open Go.Calls renaming quiet_of_same→FW
open Go.Op renaming bytesLess→Fz
open Go.Region renaming wanted→GL
open Go.RowKit.Below renaming heap_setCell→Fm, refl→Ft, heap_alloc→Fw
open Go.Value renaming string→FH, oneCell'→GC, ownBlock→GX
open Go.World renaming cell?_of_block→F8, setCell→Gc, ownsRow_nil→Ge
open Int renaming le_trans→F6
open List renaming getElem?_eq_some_iff→Fk, lookup→Fp, getElem?_eq_getElem→Fs, setIfInBounds_toArray→Fy, getElem?_map→FA, take_of_length_le→FD, set_cons_zero→FF, forall_mem_cons→FJ, getElem?_append_left→FK, set_cons_succ→FL, length_take→FO, getElem?_take→FP, length_map→FR, getElem?_of_mem→FU, mem_of_getElem?→FX, take_add_one→FZ, length_append→F5, getElem?_cons_zero→F7, foldr→Gd, mem_cons→Gf, getElem?_drop→Gj, range→Gl, all_eq_true→Gq, append_nil→GA, length_drop→GD, not_mem_nil→GJ, mem_singleton→GS, mem_append→G0, mem_cons_self→G6, pairwise_append→Hb
open Nat renaming le_refl→Fq, le_trans→Fx, lt_of_lt_of_le→FC, le_succ→FT, zero_add→FV
open Option renaming map_eq_some_iff→FG
open Option.some renaming inj→Fo, injEq→Gm
open Prod.mk renaming injEq→Hp
namespace Go.Proofs.YtpejepeekdjfoaaGreatDoor
theorem sd {p:Prop} (h:p:=by simp[results,Tryz.results105,go_sem]):p:=h
theorem kT {p:Prop} (h:p:=by simpa using hown5):p:=h
theorem uO {p:Prop} (h:p:=by rw[FR,FO];omega):p:=h
theorem uN {p:Prop} (h:p:=by rw[FR,GD];omega):p:=h
end Go.Proofs.YtpejepeekdjfoaaGreatDoor
namespace Go.Proofs.YtpejepeekdjfoaaGreatDoor
theorem yI {p:Prop} (h:p:=by
 refine Obl.plain rfl ?_;intro ac wg K hsz hW hf hK;clear hsz;have e93:=hf 93 aj;simp[ai,Fp] at e93;have e95:=hf 95 aj;simp[ai,Fp] at e95;clear hf;go_simp;refine (ij ⟨a1,l1,y1,some ⟨gk,0,none⟩,l2,y2,a3,l3,y3,some ⟨gx,0,none⟩,l4,y4,a5,l5,y5⟩ c.now c.vs (aD++x.n) _ (HO.v.row.below (HBW.trans (hW.mono HBW.size))) (fun j9 v9 h9 e9=>by have h7:=(cM HT.2.1.2.2.1.2.2 h9 e9).2;rw[HH.out] at h7;cases h7)).mono ?_;rintro e w6 ⟨rfl,hb6⟩;exact hK _ _ hb6 rfl):p:=h
theorem lg {p:Prop} (h:p:=by
 go_enter Tryz.func135,Tryz.ntmps135;go_wp2_with fail;exact bodyPost_ret (v:=.tuple #[.agg #[.string ⟨#[]⟩,.int .i64 0,.string ⟨#[]⟩,.string ⟨#[]⟩,.bool false,.string ⟨#[]⟩,.bool false,.slice none 0 0],.bool false]) (by simp[results,Tryz.results135,go_sem]) rfl ⟨rfl,bH _ _ _ _⟩):p:=h
theorem vL {p:Prop} (h:p:=by
 go_wp2;exact bodyPost_ret (v:=.tuple #[.string ⟨#[]⟩,.int .i64 6]) sd rfl (.inr ⟨HNO.out,.inl ⟨6,by decide,.inl ⟨HNM.out,rfl⟩,rfl,HB5.alloc HB5.size _⟩⟩)):p:=h
theorem jM {p:Prop} (h:p:=by
 go_simp;refine hK _ _ (Rv.other aj (Ft _ _)) ?_;with_reducible rfl):p:=h
theorem D_ {p:Prop} (h:p:=by
 refine Obl.plain rfl ?_;intro ac wg K hsz hW hf hK;clear hsz;have e93:=hf 93 aj;simp[ai,Fp] at e93;have e95:=hf 95 aj;simp[ai,Fp] at e95;clear hf;go_simp;refine (jB ⟨a1,l1,y1,some ⟨gk,0,none⟩,l2,y2,a3,l3,y3,some ⟨gx,0,none⟩,l4,y4,a5,l5,y5⟩ c.now c.vs (aD++x.n) _ (HO.v.row.below (HBW.trans (hW.mono HBW.size))) HT.2.1.2.2.1.2.2 HU.1 HU.2).mono ?_;rintro e w6 ⟨rfl,hb6⟩;exact hK _ _ hb6 rfl):p:=h
theorem CI {p:Prop} (h:p:=by
 clear h2;go_wp2_with fail;refine ag ar ar ?_;repeat (go_big_quiet_step (first|(go_at_call 172;exact Calls.wide (HF.out _))|fail))
 refine wpQuiet_nil ?_;rintro _ ⟨q,rfl⟩;go_wp2_with fail;exact⟨⟨i+1,_,by omega,rfl,by go_num,cX.old HU.out HBU.out HV.out HX.out,(q.b.block _ hgl).trans HG.out,HB.trans (q.b.mono HB.size)⟩,by simp[intOf];omega⟩):p:=h
theorem CH {p:Prop} (h:p:=by
 go_wp2_with fail;refine ag ar ar ?_;repeat (go_big_quiet_step (first|(go_at_call 172;exact Calls.wide (HF.out _))|fail))
 refine wpQuiet_nil ?_;rintro _ ⟨q,rfl⟩;go_wp2_with fail;exact⟨⟨i+1,_,by omega,rfl,by go_num,cX.new HBU.out HV.out HS.out HX.out,(q.b.block _ hgl).trans HG.out,HB.trans (q.b.mono HB.size)⟩,by simp[intOf];omega⟩):p:=h
theorem CG {p:Prop} (h:p:=by
 have hxn:=hZ1;have hxk:=hZ2;rcases q with _|_|_|_|_|_|_|_|q <;> simp[vdF,mkV] at hf <;> subst hf
 ·exact⟨_,rfl,rfl,hZ0⟩
 ·exact⟨_,rfl,rfl⟩
 ·exact⟨_,rfl,rfl,hZ3⟩
 ·exact⟨_,rfl,rfl,hxk⟩
 ·exact⟨_,rfl,rfl⟩
 ·exact⟨_,rfl,rfl,hxn⟩
 ·exact⟨_,rfl,rfl⟩
 ·exact⟨_,rfl,none,0,0,rfl,rfl,Fq _,by decide,fun j x hx=>by simp at hx,.inl rfl⟩):p:=h
theorem k_ {p:Prop} (h:p:=by
 go_enter Tryz.func172,Tryz.ntmps172;go_wp2_with fail;go_ret;exact⟨rfl,HB.out⟩):p:=h
theorem Cs {p:Prop} (h:p:=by
 rw[<-e1] at hs3;have HS1:=aa hs1;have HS2:=aa hs2';have HS3:=aa hs3;have HS4:=aa hs4;obtain⟨o0,o1,o2,o3,o4,o5⟩:=cs6 bo5;have fo0:=av bo5 0;have fo2:=av bo5 2;have fo4:=av bo5 4;clear hs1 hs2' hs3 hs4 bo5 hown5 hgrow e1;go_wp2;exact⟨⟨k+1,_,H',_,by omega,by go_num,HS1,HS2,HS3,HS4⟩,by simp[intOf];omega⟩):p:=h
theorem Cq {p:Prop} (h:p:=by
 rcases hown.2 with ⟨rfl,rfl⟩|⟨g,cap,cur,rfl,_,_,hnc,_⟩
 ·cases ax <;> simp[Gw,run_underlying ht,sizeOf,typeInfo,hi,Builtin.lenOf,Builtin.firstCells,loadCells,loadCellsFrom]
 ·cases ax <;> simp[Gw,run_underlying ht,sizeOf,typeInfo,hi,Builtin.lenOf,Builtin.firstCells,hnc,storeCells,loadCells,loadCellsFrom]):p:=h
theorem Dq {p:Prop} (h:p:=by
 refine Obl.plain rfl ?_;intro ac wg K hsz hW hf hK;clear hsz;have e97:=hf 97 aj;simp[ai,Fp] at e97;have e102:=hf 102 aj;simp[ai,Fp] at e102;clear hf;go_simp;refine (pB l3 8 af _).mono ?_;rintro e w6 ⟨rfl,hb6⟩;exact hK _ _ hb6 rfl):p:=h
theorem yS {p:Prop} (h:p:=by
 clear h4 h2;go_enter Tryz.func135,Tryz.ntmps135;go_wp2_with fail;exact bodyPost_ret (v:=.tuple #[.agg #[.string (aD++n'),.int .i64 c',.string t,.string k',.bool x',.string n',.bool false,.slice none 0 0],.bool true]) (by simp[results,Tryz.results135,go_sem,aD]) rfl ⟨rfl,bH _ _ _ _⟩):p:=h
theorem yQ {p:Prop} (h:p:=by
 refine Obl.plain rfl ?_;intro ac wg K hsz hW hf hK;clear hsz;have e97:=hf 97 aj;simp[ai,Fp] at e97;have e102:=hf 102 aj;simp[ai,Fp] at e102;clear hf;go_simp;refine (uH l3 8 h8 _).mono ?_;rintro e w6 ⟨rfl,hb6⟩;exact hK _ _ hb6 rfl):p:=h
theorem Dp {p:Prop} (h:p:=by
 refine Obl.plain rfl ?_;intro ac wg K hsz hW hf hK;clear hsz;have e97:=hf 97 aj;simp[ai,Fp] at e97;have e102:=hf 102 aj;simp[ai,Fp] at e102;clear hf;go_simp;refine (m9 l3 8 _).mono ?_;rintro e w6 ⟨rfl,hb6⟩;exact hK _ _ hb6 rfl):p:=h
theorem yG {p:Prop} (h:p:=by
 constructor
 ·rintro⟨j,q,h1,h2,h3,h4⟩;by_cases e:j=k
  ·subst e;rw[hp] at h2;obtain rfl:=Fo h2;exact absurd h3 hd
  ·exact⟨j,q,by omega,h2,h3,h4⟩
 ·rintro⟨j,q,h1,h2,h3,h4⟩;exact⟨j,q,by omega,h2,h3,h4⟩):p:=h
theorem yA {p:Prop} (h:p:=by
 unfold Oper.wp execOp;simp only[ho,resolve,invoke,builtin,Sem.run_bind,Sem.run_pure,Result.andThen_ok,List.map_toArray,List.map_cons,List.map_nil,hs,hx,hr];exact hK _ _ (h v w (by simpa using hown) (World.grownBy.refl _ _))):p:=h
theorem qt {p:Prop} (h:p:=by
 rintro v w w' ⟨b,h1,h2,h3⟩ hb;exact⟨b,h1,h2,(hb.block _ (ae h3)).trans h3⟩):p:=h
theorem qo {p:Prop} (h:p:=by
 go_enter Tryz.func136,Tryz.ntmps136;go_wp2;go_ret;exact⟨rfl,Ft _ _⟩):p:=h
theorem yj {p:Prop} (h:p:=by
 intro a' c' w' hR hb6;have hsw:=hW.size;exact hK _ _ hb6 ⟨a',c',rfl,hR.bA (fun k _ s=>by show W.heap.size<=k;rcases s with rfl|s <;> omega)⟩):p:=h
theorem Dn {p:Prop} (h:p:=by
 rw[HZO.out];exact⟨f1,f2,f3,by show az _ _ _ _ _ _ ((c.xs.set i (bdX x (aD++x.n))).map xdF) _;rw[List.map_set];exact hX9,f5⟩):p:=h
theorem yd {p:Prop} (h:p:=by
 obtain⟨b,e,h3⟩:=HC.out j u hj;exact⟨b,e,FC (bg h3) HB.size,(ak HB.out (bg h3)).trans h3⟩):p:=h
theorem xX {p:Prop} (h:p:=by
 refine⟨v,List.mem_filter.2 ⟨FX h2,?_⟩,rfl⟩;unfold onB;rw[Bool.or_eq_true];exact .inl (eO.2 h3)):p:=h
theorem xC {p:Prop} (h:p:=by
 have hx8:(wx.setCell ⟨b,2,none⟩ (.slice q3 m3 z3)).heap[gx]?=some (.cells curx 105 (0,0)):=(Fm _ _ _ _ (show gx≠b from hgb)).trans ((HWX.block _ (ae HXB.out)).trans HXB.out);have hK8:aC (fun k=>S k\/k=b) w (wx.setCell ⟨b,2,none⟩ (.slice q3 m3 z3)):=(aC.bZ HWX.out).set (.inr rfl);obtain⟨W8,hW8⟩:∃W8,W8=wx.setCell ⟨b,2,none⟩ (.slice q3 m3 z3):=⟨_,rfl⟩;rw[<-hW8] at f1 f2 f3 f4 f5 hB8 hv8 hx8 hK8 ⊢;have HF8:=aa (Fl f1 (Fl f2 (Fl f3 (Fl f4 f5))));have Bc8:=aa hB8;have Bv8:=aa hv8;have HX8:=aa hx8;have HK8:=aa hK8;clear hW8 f1 f2 f3 f4 f5 hB8 hv8 hx8 hK8 kp HO7 Bc7 Bv7 Bc6 Bv6 hnb;go_wp2_with fail;rename_i K0 hK0;refine Gt.aU ar rfl rfl ar ?_;refine' au.an _ rfl ?_ ?_;rotate_left 1
 ·exact eu
 refine' au.an _ rfl ?_ ?_;rotate_left 1
 ·refine Obl.plain rfl ?_;intro ac wg K hsz hW hf hK;clear hsz;have e116:=hf 116 aj;simp[ai,Fp] at e116;clear hf;exact aT
 refine' au.an _ rfl ?_ ?_;rotate_left 1
 ·refine Obl.plain rfl ?_;intro ac wg K hsz hW hf hK;clear hsz;have e117:=hf 117 aj;simp[ai,Fp] at e117;clear hf;exact aT
 refine' au.an _ rfl ?_ ?_;rotate_left 1
 ·refine Obl.plain rfl ?_;intro ac wg K hsz hW hf hK;clear hsz;have e118:=hf 118 aj;simp[ai,Fp] at e118;clear hf;obtain⟨k0,k1,k2,k3,k4,k5⟩:=cs6 ((hW.block _ (ae Bc8.out)).trans Bc8.out);exact aT
 refine' au.an _ rfl ?_ ?_;rotate_left 1
 ·exact wa
 refine' au.an _ rfl ?_ ?_;rotate_left 1
 ·exact lU
 refine' au.an _ rfl ?_ ?_;rotate_left 1
 ·refine Obl.plain rfl ?_;intro ac wg K hsz hW hf hK;clear hsz;have e121:=hf 121 aj;simp[ai,Fp] at e121;clear hf;obtain⟨v0,v1,v2,v3,v4,v5,v6,v7⟩:=cs8 ((hW.block _ (ae Bv8.out)).trans Bv8.out);exact aT
 refine' au.an _ rfl ?_ ?_;rotate_left 1
 ·refine Obl.plain rfl ?_;intro ac wg K hsz hW hf hK;clear hsz;have e119:=hf 119 aj;simp[ai,Fp] at e119;have e120:=hf 120 aj;simp[ai,Fp] at e120;clear hf;exact aT
 refine' au.an _ rfl ?_ ?_;rotate_left 1
 ·refine Obl.plain rfl ?_;intro ac wg K hsz hW hf hK;clear hsz;have e123:=hf 123 aj;simp[ai,Fp] at e123;clear hf;exact aT
 refine au.done ?_;intro q wu hW hf;simp only[FJ] at hf;obtain⟨h124,h123,h122,h121,h120,h119,h118,h117,h116,-⟩:=hf;have HWU:=aa hW;have Bc9:=upK Bc8 hW;have Bv9:=upK Bv8 hW;obtain⟨⟨v9,hcz⟩,hfz⟩:=az.E6 HF8.2.2.2.1 hW HIR.out (i:=4) rfl;clear hW;intro K hK;rw[if_pos bJ];simp only[aE,Gd,GG,Fy,FF,FL,h124,h123,h122,h121,h120,h119,h118,h117,h116];simp only[List.getLast];go_simp;refine hK _ _ ?_;refine hK0 _ _ ?_;clear hK hK0 K K0;clear hcz hfz;have hX9:=az.Db HF8.2.2.2.1 HWU.out HIR.out (i:=4) rfl (aD++x.n) hZ0;have f1:=az.gQ (i:=i*5+4) (v:=.string (aD++x.n)) HF8.1 HWU.out HX8.out aj aj;have f2:=az.gQ (i:=i*5+4) (v:=.string (aD++x.n)) HF8.2.1 HWU.out HX8.out aj aj;have f3:=az.gQ (i:=i*5+4) (v:=.string (aD++x.n)) HF8.2.2.1 HWU.out HX8.out aj aj;have f5:=az.gQ (i:=i*5+4) (v:=.string (aD++x.n)) HF8.2.2.2.2 HWU.out HX8.out aj aj;have hK9:aC (fun k=>S k\/k=b) w (wu.setCell ⟨gx,i*5+4,none⟩ (.string (aD++x.n))):=(HK8.below HWU.out).set (.inl HGS.out);have hB9:(wu.setCell ⟨gx,i*5+4,none⟩ (.string (aD++x.n))).heap[b]?=_:=(Fm _ _ _ _ (show b≠gx from fun e=>hgb e.symm)).trans Bc9.out;have hv9b:(wu.setCell ⟨gx,i*5+4,none⟩ (.string (aD++x.n))).heap[w5.heap.size]?=_:=(Fm _ _ _ _ (show w5.heap.size≠gx by omega)).trans Bv9.out;obtain⟨W9,hW9⟩:∃W9,W9=(wu.setCell ⟨gx,i*5+4,none⟩ (.string (aD++x.n))):=⟨_,rfl⟩;rw[<-hW9] at hX9 f1 f2 f3 f5 hK9 hB9 hv9b ⊢;have HA9:Hid (ew W9 ⟨a1,l1,y1,some ⟨gk,0,none⟩,l2,y2,q3,m3,z3,some ⟨gx,0,none⟩,l4,y4,a5,l5,y5⟩ (c_ c i x (aW t kc.z)).raw (fun k=>S k\/w.heap.size<=k)):=by
  exact Dn
 have HK9:=aa hK9;have HB9:=aa hB9;clear hW9 hX9 f1 f2 f3 f5 hK9 hB9;obtain⟨v0,v1,v2,v3,v4,v5,v6,v7⟩:=cs8 hv9b;have hvl9:=ae hv9b;clear hv9b;go_wp2;exact bodyPost_ret (v:=.tuple #[.string (aD++x.n),.int .i64 0]) sd rfl (.inr ⟨HNO.out,.inr ⟨HMV.out,HH.out,by omega,rfl,q3,m3,z3,HB9.out,HA9.out,HK9.out⟩⟩)):p:=h
theorem iA {p:Prop} (h:p:=by
 exact eu):p:=h
theorem jT {p:Prop} (h:p:=by
 clear hf;obtain⟨k0,k1,k2,k3,k4,k5⟩:=cs6 ((hW.block _ (ae Bk.out)).trans Bk.out);exact aT):p:=h
theorem lY {p:Prop} (h:p:=by
 refine Obl.plain rfl ?_;intro ac wg K hsz hW hf hK;clear hsz;have e9:=hf 9 aj;simp[ai,Fp] at e9;clear hf;exact aT):p:=h
theorem qd {p:Prop} (h:p:=by
 refine Obl.plain rfl ?_;intro ac wg K hsz hW hf hK;clear hsz;have e8:=hf 8 aj;simp[ai,Fp] at e8;clear hf;exact aT):p:=h
theorem xm {p:Prop} (h:p:=by
 refine Gi.Obl.plain rfl ?_;intro ac wg K lo hi hsz hW hpr hf hap hK;clear hsz hap hpr;have hW:wr.grownBy wg v.ownBlock:=hW;have e3:=hf 3 aj;simp[Gi.ai,Fp] at e3;clear hf;exact jM):p:=h
theorem pY {p:Prop} (h:p:=by
 clear hf;obtain⟨k0,k1,k2,k3,k4,k5⟩:=cs6 ((hW.block _ (ae Bc2.out)).trans Bc2.out);exact aT):p:=h
theorem xb {p:Prop} (h:p:=by
 refine Obl.plain rfl ?_;intro ac wg K hsz hW hf hK;clear hsz;have e37:=hf 37 aj;simp[ai,Fp] at e37;clear hf;exact aT):p:=h
theorem wO {p:Prop} (h:p:=by
 clear hf;obtain⟨k0,k1,k2,k3,k4,k5⟩:=cs6 ((hW.block _ (ae Bc5.out)).trans Bc5.out);exact aT):p:=h
theorem wM {p:Prop} (h:p:=by
 clear hf;obtain⟨x0,x1,x2,x3,x4⟩:=cs5 ((hW.block _ (ae Bx2.out)).trans Bx2.out);exact aT):p:=h
theorem wH {p:Prop} (h:p:=by
 obtain⟨u9,hu9,hun9⟩:=dq hh;have HU:=aa (Fl hu9 hun9);have HH:=aa hh;obtain⟨j9,hj9⟩:∃j9,j9=pl Vd.n c.vs (aD++x.n):=⟨_,rfl⟩;rw[<-hj9] at HU;clear hu9 hun9 hh hj9;rename_i K0 hK0;refine bo (back:=none) ar (GA _).symm ar ?_;refine' au.an _ rfl ?_ ?_;rotate_left 1
 ·exact jN
 refine' au.an _ rfl ?_ ?_;rotate_left 1
 ·exact pP
 refine' au.an _ rfl ?_ ?_;rotate_left 1
 ·exact vQ
 refine' au.an _ rfl ?_ ?_;rotate_left 1
 ·exact pQ
 refine' au.an _ rfl ?_ ?_;rotate_left 1
 ·exact pU
 refine au.step (fun v _=>v=.int .i64 (j9:Nat)) rfl (Fact.cv _) ?_ ?_
 ·exact D_
 refine' au.an (.bool true) rfl ?_ ?_
 ·exact pO
 refine' au.an _ rfl ?_ ?_;rotate_left 1
 ·exact jN
 refine' au.an _ rfl ?_ ?_;rotate_left 1
 ·exact pM
 refine' au.an _ rfl ?_ ?_;rotate_left 1
 ·exact pN
 refine' au.an _ rfl ?_ ?_;rotate_left 1
 ·exact vR
 refine' au.an (.int .i64 l3) rfl ?_ ?_
 ·exact pS
 refine au.step (fun v _=>v=.int .i64 7) rfl (Fact.cv _) ?_ ?_
 ·exact Dp
 refine' au.an _ rfl ?_ ?_;rotate_left 1
 ·exact pR
 refine au.done ?_;intro q wy hW hf;simp only[FJ] at hf;obtain⟨h13,h103,h102,h101,h100,h99,h98,h97,h96,h95,h94,h93,h92,h91,-⟩:=hf;have HWY:=aa hW;clear hW;refine hK0 _ _ ?_;simp only[aE,Gd,GG,Fy,FF,FL,h13,h103,h102,h101,h100,h99,h98,h97,h96,h95,h94,h93,h92,h91];clear hK0;go_wp2;exact bodyPost_ret (v:=.tuple #[.string ⟨#[]⟩,.int .i64 7]) sd rfl (.inr ⟨HNO.out,.inl ⟨7,by decide,.inr (.inl ⟨HMV.out,HH.out,rfl⟩),rfl,HBW.trans (HWY.mono HBW.size)⟩⟩)):p:=h
theorem wG {p:Prop} (h:p:=by
 rename_i K0 hK0;refine bo (back:=none) ar (GA _).symm ar ?_;refine' au.an _ rfl ?_ ?_;rotate_left 1
 ·exact jN
 refine' au.an _ rfl ?_ ?_;rotate_left 1
 ·exact pP
 refine' au.an _ rfl ?_ ?_;rotate_left 1
 ·exact vQ
 refine' au.an _ rfl ?_ ?_;rotate_left 1
 ·exact pQ
 refine' au.an _ rfl ?_ ?_;rotate_left 1
 ·exact pU
 refine au.step (fun v _=>v=.int .i64 (-1)) rfl (Fact.cv _) ?_ ?_
 ·exact yI
 refine' au.an (.bool false) rfl ?_ ?_
 ·exact pO
 refine' au.an _ rfl ?_ ?_;rotate_left 1
 ·exact jN
 refine' au.an _ rfl ?_ ?_;rotate_left 1
 ·exact pM
 refine' au.an _ rfl ?_ ?_;rotate_left 1
 ·exact pN
 refine' au.an _ rfl ?_ ?_;rotate_left 1
 ·exact vR
 refine' au.an (.int .i64 l3) rfl ?_ ?_
 ·exact pS
 refine au.step (fun v _=>v=.int .i64 9) rfl (Fact.cv _) ?_ ?_
 ·exact Dq
 refine' au.an _ rfl ?_ ?_;rotate_left 1
 ·exact pR
 refine au.done ?_;intro q wy hW hf;simp only[FJ] at hf;obtain⟨h13,h103,h102,h101,h100,h99,h98,h97,h96,h95,h94,h93,h92,h91,-⟩:=hf;have HWY:=aa hW;clear hW;refine hK0 _ _ ?_;simp only[aE,Gd,GG,Fy,FF,FL,h13,h103,h102,h101,h100,h99,h98,h97,h96,h95,h94,h93,h92,h91];clear hK0;go_wp2;exact bodyPost_ret (v:=.tuple #[.string ⟨#[]⟩,.int .i64 9]) sd rfl (.inr ⟨HNO.out,.inl ⟨9,by decide,.inr (.inr ⟨HMV.out,HH.out,by omega,rfl⟩),rfl,HBW.trans (HWY.mono HBW.size)⟩⟩)):p:=h
theorem eu {p:Prop} (h:p:=by
 exact jN):p:=h
theorem pV {p:Prop} (h:p:=by
 exact pT):p:=h
theorem wF {p:Prop} (h:p:=by
 exact pU):p:=h
theorem lU {p:Prop} (h:p:=by
 exact pQ):p:=h
theorem wE {p:Prop} (h:p:=by
 exact pS):p:=h
theorem wD {p:Prop} (h:p:=by
 exact pR):p:=h
theorem wC {p:Prop} (h:p:=by
 exact pP):p:=h
theorem wB {p:Prop} (h:p:=by
 exact pO):p:=h
theorem wA {p:Prop} (h:p:=by
 exact pN):p:=h
theorem wv {p:Prop} (h:p:=by
 exact pM):p:=h
theorem wq {p:Prop} (h:p:=by
 rintro e w7 ⟨q3,z3,rfl,ho7,hb7⟩;have hs7:=HB6.size;have hs8:=hW.size;exact hK _ _ hb7 ⟨q3,_,z3,rfl,ho7.bA (fun k _ s=>by rcases s with (s|s)|s;exact .inl s;exact s.elim;exact .inr (by have s1:wg.heap.size<=k:=s;omega))⟩):p:=h
theorem wk {p:Prop} (h:p:=by
 refine Obl.plain rfl ?_;intro ac wg K hsz hW hf hK;clear hsz;have e11:=hf 11 aj;simp[ai,Fp] at e11;clear hf;obtain⟨v0,v1,v2,v3,v4,v5,v6,v7⟩:=cs8 ((hW.block _ (ae Bv6.out)).trans Bv6.out);exact aT):p:=h
theorem wj {p:Prop} (h:p:=by
 refine Obl.plain rfl ?_;intro ac wg K hsz hW hf hK;clear hsz;have e110:=hf 110 aj;simp[ai,Fp] at e110;clear hf;obtain⟨k0,k1,k2,k3,k4,k5⟩:=cs6 ((hW.block _ (ae Bc6.out)).trans Bc6.out);exact aT):p:=h
theorem wi {p:Prop} (h:p:=by
 rintro e w5 ⟨rfl,hb⟩;have HNM:Hid (¬ed x kc t):=fun h=>hm (by have h1:=h.2;rw[HZO.out] at h1;exact h1);have HB5:=upB HB3 hb;clear hb hm;exact vL):p:=h
theorem wh {p:Prop} (h:p:=by
 refine Obl.plain rfl ?_;intro ac wg K hsz hW hf hK;clear hsz;have e107:=hf 107 aj;simp[ai,Fp] at e107;clear hf;exact aT):p:=h
theorem we {p:Prop} (h:p:=by
 refine Obl.plain rfl ?_;intro ac wg K hsz hW hf hK;clear hsz;have e108:=hf 108 aj;simp[ai,Fp] at e108;clear hf;exact aT):p:=h
theorem wc {p:Prop} (h:p:=by
 refine Obl.plain rfl ?_;intro ac wg K hsz hW hf hK;clear hsz;have e114:=hf 114 aj;simp[ai,Fp] at e114;clear hf;exact aT):p:=h
theorem wb {p:Prop} (h:p:=by
 refine Obl.plain rfl ?_;intro ac wg K hsz hW hf hK;clear hsz;have e109:=hf 109 aj;simp[ai,Fp] at e109;clear hf;exact aT):p:=h
theorem vU {p:Prop} (h:p:=by
 refine Obl.plain rfl ?_;intro ac wg K hsz hW hf hK;clear hsz;have e2:=hf 2 aj;simp[ai,Fp] at e2;exact jT):p:=h
theorem jN {p:Prop} (h:p:=by
 refine Obl.plain rfl ?_;intro ac wg K hsz hW hf hK;clear hsz;have e0:=hf 0 aj;simp[ai,Fp] at e0;clear hf;exact aT):p:=h
theorem pU {p:Prop} (h:p:=by
 refine Obl.plain rfl ?_;intro ac wg K hsz hW hf hK;clear hsz;have e94:=hf 94 aj;simp[ai,Fp] at e94;exact vP):p:=h
theorem pT {p:Prop} (h:p:=by
 clear hf;obtain⟨k0,k1,k2,k3,k4,k5⟩:=cs6 ((hW.block _ (ae BcW.out)).trans BcW.out);exact aT):p:=h
theorem pS {p:Prop} (h:p:=by
 refine Obl.plain rfl ?_;intro ac wg K hsz hW hf hK;clear hsz;have e101:=hf 101 aj;simp[ai,Fp] at e101;clear hf;exact aT):p:=h
theorem pR {p:Prop} (h:p:=by
 refine Obl.plain rfl ?_;intro ac wg K hsz hW hf hK;clear hsz;have e103:=hf 103 aj;simp[ai,Fp] at e103;clear hf;exact aT):p:=h
theorem pQ {p:Prop} (h:p:=by
 refine Obl.plain rfl ?_;intro ac wg K hsz hW hf hK;clear hsz;have e11:=hf 11 aj;simp[ai,Fp] at e11;clear hf;exact aT):p:=h
theorem pP {p:Prop} (h:p:=by
 refine Obl.plain rfl ?_;intro ac wg K hsz hW hf hK;clear hsz;have e91:=hf 91 aj;simp[ai,Fp] at e91;clear hf;exact aT):p:=h
theorem pO {p:Prop} (h:p:=by
 refine Obl.plain rfl ?_;intro ac wg K hsz hW hf hK;clear hsz;have e96:=hf 96 aj;simp[ai,Fp] at e96;clear hf;exact aT):p:=h
theorem pN {p:Prop} (h:p:=by
 refine Obl.plain rfl ?_;intro ac wg K hsz hW hf hK;clear hsz;have e99:=hf 99 aj;simp[ai,Fp] at e99;clear hf;exact aT):p:=h
theorem pM {p:Prop} (h:p:=by
 refine Obl.plain rfl ?_;intro ac wg K hsz hW hf hK;clear hsz;have e98:=hf 98 aj;simp[ai,Fp] at e98;clear hf;exact aT):p:=h
theorem vT {p:Prop} (h:p:=by
 refine Obl.plain rfl ?_;intro ac wg K hsz hW hf hK;clear hsz;have e100:=hf 100 aj;simp[ai,Fp] at e100;exact pV):p:=h
theorem vS {p:Prop} (h:p:=by
 refine Obl.plain rfl ?_;intro ac wg K hsz hW hf hK;clear hsz;have e92:=hf 92 aj;simp[ai,Fp] at e92;exact pV):p:=h
theorem vR {p:Prop} (h:p:=by
 refine Obl.plain rfl ?_;intro ac wg K hsz hW hf hK;clear hsz;have e100:=hf 100 aj;simp[ai,Fp] at e100;exact pT):p:=h
theorem vQ {p:Prop} (h:p:=by
 refine Obl.plain rfl ?_;intro ac wg K hsz hW hf hK;clear hsz;have e92:=hf 92 aj;simp[ai,Fp] at e92;exact pT):p:=h
theorem Cd {p:Prop} (h:p:=by
 have kp:∀{a l cp m T rs},az w a l cp m T rs S->az (wx.setCell ⟨b,2,none⟩ (.slice q3 m3 z3)) a l cp m T rs (fun k=>S k\/w.heap.size<=k):=fun h=>h.aM (fun k hk s=>(Fm _ _ _ _ (hnb k (.inl s))).trans (HWX.block k hk)) (fun _ _ s=>.inl s);have f1:=kp HO.n;have f2:=kp HO.k;have f4:=kp HO.x;have f5:=kp HO.p;have f3:=HO7.aM (w':=wx.setCell ⟨b,2,none⟩ (.slice q3 m3 z3)) (fun k hk s=>Fm _ _ _ _ (hnb k s)) (fun _ _ s=>s);have hB8:(wx.setCell ⟨b,2,none⟩ (.slice q3 m3 z3)).heap[b]?=some (.cells (clo6 a1 l1 y1 (some ⟨gk,0,none⟩) l2 y2 q3 m3 z3 (some ⟨gx,0,none⟩) l4 y4 a5 l5 y5 c.now) 36 (0,0)):=aA Bc7.out _;exact Fl @kp (Fl f1 (Fl f2 (Fl f4 (Fl f5 (Fl f3 hB8)))))):p:=h
theorem vm {p:Prop} (h:p:=by
 have hXs:=HBX.size;have HBW:=aa (HBX.trans (HK.low (X:=w.heap.size) hXs (fun k s=>by rcases s with rfl|s <;> omega)));have BkR:=aa ((HK.block w.heap.size af (fun s=>by rcases s with s|s <;> omega)).trans Bk.out);have hKs:=HK.size;exact Fl hXs (Fl HBW (Fl BkR hKs))):p:=h
theorem BT {p:Prop} (h:p:=by
 have hxo:=HT.2.1.2.2.2.1.2.1 i x HX.out;have hZ1:x.n.size<=9223372036854775807:=HZX.1;have hZ2:x.k.size<=9223372036854775807:=HZX.2.1;have hZ0:(aD++x.n).size<=9223372036854775807:=by have h1:=hxo.1.2.1;rw[ByteArray.size_append];have h2:aD.size<=10:=aj;omega
 exact Fl hxo (Fl hZ1 (Fl hZ2 hZ0))):p:=h
theorem BO {p:Prop} (h:p:=by
 have HOW:Hid ((q2.w.alloc (.cells #[] 99)).ownsRow q2.w.heap.size 99 8 (.slice (some ⟨q2.w.heap.size,0,none⟩) 0 0) 0 []):=World.ownsRow_made q2.w #[] 0 (Fq _) (Nat.zero_le _) aR;have hik:(k:Int)<=n:=af
 have hkn:k<=n:=af
 exact Fl HOW (Fl hik hkn)):p:=h
theorem BM {p:Prop} (h:p:=by
 have HOW:Hid ((w.alloc (.cells #[] 9)).ownsRow w.heap.size 9 1 (.slice (some ⟨w.heap.size,0,none⟩) 0 0) 0 []):=World.ownsRow_made w #[] 0 (Fq _) (Nat.zero_le _) aR;have hik:(k:Int)<=cap:=af
 have hkn:k<=cap:=af
 exact Fl HOW (Fl hik hkn)):p:=h
theorem BC {p:Prop} (h:p:=by
 have hs2:wr.heap.size+1<w2.heap.size:=by have:=hb2.size;simp at this;omega
 have hsl:∀k,(k=wr.heap.size+1\/wr.heap.size+1+1<=k)->wr.heap.size+1<=k:=fun k s=>by omega
 exact Fl hs2 hsl):p:=h
theorem vx {p:Prop} (h:p:=by
 have HG:Hid (∀zs:List ByteArray,x.zs=zs->zs≠[]->wr.heap.size<=g):=fun zs e hz=>by subst e;have:=hsl _ (hg.lt hz).1;omega
 have HB4:=aa hb4;have HO4:=aa (bM HO.out hb4);exact Fl HG (Fl HB4 HO4)):p:=h
theorem vv {p:Prop} (h:p:=by
 have Gx:Hid (wr.heap[w.heap.size]?=some (.cells (vov x va vl vc) 99 (0,0))):=Bx.out;have HW:=HB;have x0:=fun q:Wd wr=>q.slot (o:=0) Gx.out rfl;have yn:=fun q:Wd wr=>(q.cell hbw).trans hc0;have hne0:=Wd.ne wr;exact Fl Gx (Fl HW (Fl x0 (Fl yn hne0)))):p:=h
end Go.Proofs.YtpejepeekdjfoaaGreatDoor
namespace Go.Proofs.YtpejepeekdjfoaaGreatDoor
open Go.RowKit
namespace Rc
open Mk

theorem r9 {w w':World} {o p:Obj} (h:Below (w.heap.size+1+1) ((w.alloc o).alloc p) w'):w'.heap[w.heap.size]?=some o/\w'.heap[w.heap.size+1]?=some p/\Below w.heap.size w w':=cG (by rw[dH,dH];exact h)
theorem fU (w:World) (n:Nat) (hn:w.heap.size=n) (vs:List Value) (T:TypeId):∀(j:Nat) u,vs[j]?=some u->(w.alloc (.cells vs.toArray T)).cell? ((⟨n,0,none⟩:Addr).add j)=some u:=by
 subst hn;exact dd w vs T
theorem E0 {w:World} {b:Nat} {T:TypeId} {u0 u1 u2 u3 u4 u5 v0 v1 v2 v3 v4 v5:Value} (h:w.heap[b]?=some (.cells #[u0,u1,u2,u3,u4,u5] T (0,0))):
  ((((((w.setCell ⟨b,0,none⟩ v0).setCell ⟨b,1,none⟩ v1).setCell ⟨b,2,none⟩ v2).setCell ⟨b,3,none⟩ v3).setCell ⟨b,4,none⟩ v4).setCell ⟨b,5,none⟩ v5).heap[b]?=some (.cells #[v0,v1,v2,v3,v4,v5] T (0,0)):=
 aA (aA (aA (aA (aA (aA h v0) v1) v2) v3) v4) v5
theorem eK {w:World} {b k:Nat} {v0 v1 v2 v3 v4 v5:Value} (hk:¬k=b):
  ((((((w.setCell ⟨b,0,none⟩ v0).setCell ⟨b,1,none⟩ v1).setCell ⟨b,2,none⟩ v2).setCell ⟨b,3,none⟩ v3).setCell ⟨b,4,none⟩ v4).setCell ⟨b,5,none⟩ v5).heap[k]?=w.heap[k]?:=by
 rw[Fm _ _ _ _ hk,Fm _ _ _ _ hk,Fm _ _ _ _ hk,Fm _ _ _ _ hk,Fm _ _ _ _ hk,Fm _ _ _ _ hk]
theorem az.gn {w:World} {a:Option Addr} {len cap m:Nat} {T T':TypeId} {rs:List (List Fv)} {S:Nat->Prop} (h:az w a len cap m T rs S) {b:Nat} {cs:Array Value} (hb:w.heap[b]?=some (.cells cs T' (0,0))) (h1:¬T'=T) (h2:¬T'=9):az w a len cap m T rs (fun k=>S k/\¬k=b):=by
 obtain⟨a1,a2,a3,a4⟩:=h;refine⟨a1,a2,a3,a4.imp id ?_⟩;rintro⟨g,cur,H,e,h5⟩;refine⟨g,cur,H,e,h5.blk,⟨h5.inS,fun q=>?_⟩,h5.len,fun j r hj i f hi=>?_,h5.inj⟩
 ·subst q;have:=h5.blk;rw[hb] at this;cases this;exact h1 rfl
 ·obtain⟨v,q1,q2⟩:=h5.cell j r hj i f hi;refine⟨v,q1,?_⟩;cases f with
  | l zs=>
   obtain⟨a',l',c',k1,k2,k3,k4,k5,k6⟩:=q2;refine⟨a',l',c',k1,k2,k3,k4,k5,k6.imp id ?_⟩;rintro⟨z1,z2,z3,cu,z4,z5⟩;refine⟨z1,⟨z2,fun q=>?_⟩,z3,cu,z4,z5⟩;rw[q] at z4;rw[hb] at z4
   cases z4
   exact h2 rfl
  | _=>exact q2
theorem om {w:World} {base n m:Nat} {T T':TypeId} {v u:Value} {xs:List Value} {b i:Nat} {cs:Array Value} (h:w.ownsRow base T m v n xs) (hb:w.heap[b]?=some (.cells cs T' (0,0))) (hT:¬T'=T):(w.setCell ⟨b,i,none⟩ u).ownsRow base T m v n xs:=by
 refine⟨h.1,h.2.imp id ?_⟩;rintro⟨g,cap,cur,h1,h2,h3,h4⟩;refine⟨g,cap,cur,h1,h2,(Fm _ _ _ _ (fun e=>?_)).trans h3,h4⟩;subst e;rw[hb] at h3;cases h3;exact hT rfl
theorem aX.set {w:World} {S:Nat->Prop} {m:Nat} {rs:List (List Fv)} {vss:List (List Value)} {H:Nat->Nat->Nat} (h:aX w S m rs vss H) {b i:Nat} {cs:Array Value} {T':TypeId} {u:Value} (hb:w.heap[b]?=some (.cells cs T' (0,0))) (hT:¬T'=9):aX (w.setCell ⟨b,i,none⟩ u) S m rs vss H:=
 h.aM (fun k cu _ q=>Fm _ _ _ _ (fun e=>by subst e;rw[hb] at q;cases q;exact hT rfl)) (fun _ _ s=>s)
theorem aC.ou {S:Nat->Prop} {W w:World} {vb:Option Nat} (hg:W.grownBy w vb) (h:∀g,vb=some g->S g):aC S W w:=⟨hg.os,hg.tape,hg.output,hg.size,fun k hk hn=>hg.block k hk (fun e=>hn (h k e.symm))⟩
theorem bu {w:World} {base n m:Nat} {T:TypeId} {v:Value} {xs:List Value} (h:w.ownsRow base T m v n xs):∃a l c,v=.slice a l c:=by
 rcases h.2 with ⟨rfl,_⟩|⟨g,cap,cur,rfl,_⟩
 ·exact⟨_,_,_,rfl⟩
 ·exact⟨_,_,_,rfl⟩
abbrev Cps (b:Nat) (X:World):Nat->Prop:=fun k=>k=b\/X.heap.size<=k
theorem rN {X wr W w5:World} {b3 k m:Nat} {T TC:TypeId} {v:Value} {xs:List Value} {cs:Array Value} (hO:wr.ownsRow X.heap.size T m v k xs) (hBo:wr.heap[b3]?=some (.cells cs TC (0,0))) (hb3:b3<X.heap.size) (hb:Below wr.heap.size wr W) (hg:W.grownBy w5 v.ownBlock):w5.heap[b3]?=some (.cells cs TC (0,0)):=
 (hg.block b3 (FC (ae hBo) hb.size) (fun e=>by have:=(hO.lt b3 e.symm).1;omega)).trans ((hb.block _ (ae hBo)).trans hBo)
theorem sN {X wr W w5:World} {b3 k m f:Nat} {T TC:TypeId} {v v':Value} {rs:List (List Fv)} {vss:List (List Value)} {H:Nat->Nat->Nat} {cs:Array Value} {r:List Fv} {vs:List Value} {hh:Nat} (hK:aC (Cps b3 X) X wr) (hO:wr.ownsRow X.heap.size T m v k vss.flatten) (hV:aX wr (fun k=>X.heap.size<=k) m rs vss H) (hBo:wr.heap[b3]?=some (.cells cs TC (0,0))) (hb3:b3<X.heap.size)
  (hb:Below wr.heap.size wr W) (hown:w5.ownsRow X.heap.size T m v' (k+1) (vss.flatten++vs)) (hg:W.grownBy w5 v.ownBlock) (hT:¬T=9) (hTC:¬TC=T) (hTS:¬TC=9) (hr:r.length=m) (hvs:vs.length=m) (hc:∀(i:Nat) f,r[i]?=some f->∃v,vs[i]?=some v/\f.Fr W hh (fun k=>X.heap.size<=k) v) (hfr:∀(i:Nat) zs,r[i]?=some (.l zs)->zs≠[]->wr.heap.size<=hh)
  (h1:∀(i i':Nat) zs zs',r[i]?=some (.l zs)->zs≠[]->r[i']?=some (.l zs')->zs'≠[]->i=i'):
  aC (Cps b3 X) X (w5.setCell ⟨b3,f,none⟩ v')/\(w5.setCell ⟨b3,f,none⟩ v').ownsRow X.heap.size T m v' (k+1) (vss++[vs]).flatten/\(∃H',aX (w5.setCell ⟨b3,f,none⟩ v') (fun k=>X.heap.size<=k) m (rs++[r]) (vss++[vs]) H')/\(w5.setCell ⟨b3,f,none⟩ v').heap[b3]?=some (.cells (cs.setIfInBounds f v') TC (0,0)):=by
 have hb5:=rN hO hBo hb3 hb hg;refine⟨?_,?_,⟨_,(hV.app hb (bM hO hb) hT hg hr hvs hc hfr h1).set hb5 hTS⟩,aA hb5 v'⟩
 ·exact ((hK.trans (aC.bZ hb)).trans (aC.ou hg (fun g e=>.inr (hO.lt g e).1))).set (.inl rfl)
 ·rw[List.flatten_append];refine om ?_ hb5 hTC;simpa using hown
structure ew (w:World) (d:Ad) (c:Cr) (S:Nat->Prop):Prop where
 n:az w d.a1 d.l1 d.c1 7 57 c.n S
 k:az w d.a2 d.l2 d.c2 4 102 c.k S
 v:az w d.a3 d.l3 d.c3 8 99 c.v S
 x:az w d.a4 d.l4 d.c4 5 105 c.x S
 p:az w d.a5 d.l5 d.c5 6 64 c.p S
theorem ew.row {w:World} {d:Ad} {c:Cr} {S:Nat->Prop} (h:ew w d c S):aJ w d c:=⟨h.n.row,h.k.row,h.v.row,h.x.row,h.p.row⟩
def EmF (B:Nat) (T:TypeId):Fact:=fun v w=> ∃b,v=.slice (some ⟨b,0,none⟩) 0 0/\B<=b/\w.heap[b]?=some (.cells #[] T (0,0))
theorem EmF.mono (B:Nat) (T:TypeId):Fact.bD (EmF B T):=by
 exact qt
def RwF (B len m:Nat) (T:TypeId) (rs:List (List Fv)):Fact:=fun v w=> ∃a c,v=.slice a len c/\az w a len c m T rs (fun k=>B<=k)
theorem RwF.mono (B len m:Nat) (T:TypeId) (rs:List (List Fv)):Fact.bD (RwF B len m T rs):=by
 rintro v w w' ⟨a,c,h1,h2⟩ hb;exact⟨a,c,h1,h2.below hb⟩
def CpF (B l2 l4:Nat) (c:Cl):Fact:=fun v w=> ∃a2 c2 a4 c4,v=.agg #[.slice none 0 0,.slice a2 l2 c2,.slice none 0 0,.slice a4 l4 c4,.slice none 0 0,.int .i64 c.now]/\az w a2 l2 c2 4 102 (c.ks.map kdF) (fun k=>B<=k)/\az w a4 l4 c4 5 105 (c.xs.map xdF) (fun k=>B<=k)
theorem CpF.mono (B l2 l4:Nat) (c:Cl):Fact.bD (CpF B l2 l4 c):=by
 rintro v w w' ⟨a2,c2,a4,c4,h1,h2,h3⟩ hb;exact⟨a2,c2,a4,c4,h1,h2.below hb,h3.below hb⟩
def FrF (B:Nat):Fact:=fun v w=> ∃b,v=.pointer (some ⟨b,0,none⟩)/\B<=b/\w.heap[b]?=some (.cells #[.slice none 0 0,.slice none 0 0,.slice none 0 0,.slice none 0 0,.slice none 0 0,.int .i64 0] 36 (0,0))
theorem FrF.mono (B:Nat):Fact.bD (FrF B):=by
 exact qt

def Rv (vb:Option Nat) (sp:Tmp):Gi.Rs:=fun s w w'=>match s with
 | none=>w.grownBy w' vb
 | some t=>if t=sp then w.grownBy w' vb else Below w.heap.size w w'
theorem bR {w w':World} (vb:Option Nat) (h:Below w.heap.size w w'):w.grownBy w' vb:=⟨h.os,h.tape,h.output,h.size,fun k hk _=>h.block k hk⟩
theorem Rv.below {vb:Option Nat} {sp:Tmp} {s:Option Tmp} {w w':World} (h:Rv vb sp s w w') (h1:¬s=none) (h2:¬s=some sp):Below w.heap.size w w':=by
 cases s with
 | none=>exact absurd rfl h1
 | some t=>
  simp only[Rv] at h;rw[if_neg (fun e=>h2 (by rw[e]))] at h;exact h
theorem Rv.rel (vb:Option Nat) (sp:Tmp):Gi.Rel (Rv vb sp) sp:=by
 refine⟨fun w=>bR vb (Ft _ _),fun {a b c} h k=>?_,fun h=>World.grownBy.size h,fun w=>bR vb (Ft _ _).drew,fun s {a b} h=>?_,fun s {a b} h1 h2 h=>Rv.below h h1 h2⟩
 ·have h:World.grownBy a b vb:=h;have k:World.grownBy b c vb:=k;exact⟨k.os.trans h.os,k.tape.trans h.tape,k.output.trans h.output,Fx h.size k.size,fun i hi hn=>(k.block i (FC hi h.size) hn).trans (h.block i hi hn)⟩
 ·cases s with
  | none=>exact h
  | some t=>
   show World.grownBy a b vb
   simp only[Rv] at h
   split at h
   ·exact h
   ·exact bR vb h
theorem Rv.other {vb:Option Nat} {sp t:Tmp} {w w':World} (ht:¬t=sp) (h:Below w.heap.size w w'):Rv vb sp (some t) w w':=by
 show (if t=sp then w.grownBy w' vb else Below w.heap.size w w');rw[if_neg ht];exact h
theorem Rv.this {vb:Option Nat} {sp:Tmp} {w w':World} (h:w.grownBy w' vb):Rv vb sp (some sp) w w':=by
 show (if sp=sp then w.grownBy w' vb else Below w.heap.size w w');rw[if_pos rfl];exact h
theorem yW {w:World} {b:Nat} {vs:List Value} {T:TypeId} (h:w.heap[b]?=some (.cells vs.toArray T (0,0))):∀(j:Nat) u,vs[j]?=some u->w.cell? ((⟨b,0,none⟩:Addr).add j)=some u:=by
 intro j u hu;rw[FQ,aw h,FV];simpa using hu
def TvF (B:Nat) (x:Vd):Gi.Fact:=fun u w _ _=> ∃a l c,u=.agg #[.string x.n,.int .i64 x.c,.string x.z,.string x.k,.bool x.x,.string x.m,.bool x.y,.slice a l c]/\cy w a l c x.zs (fun k=>B<=k)
def BsF (B:Nat) (x:Vd):Gi.Fact:=fun u w _ _=> ∃b a l c,u=.slice (some ⟨b,0,none⟩) 1 1/\B<=b/\w.heap[b]?=some (.cells #[.string x.n,.int .i64 x.c,.string x.z,.string x.k,.bool x.x,.string x.m,.bool x.y,.slice a l c] 99 (0,0))/\cy w a l c x.zs (fun k=>B<=k)
def ApF (B k:Nat) (rs:List (List Fv)) (vss:List (List Value)):Gi.Fact:=fun u w _ _=> ∃H' vs,w.ownsRow B 99 8 u (k+1) (vss++[vs]).flatten/\aX w (fun k=>B<=k) 8 rs (vss++[vs]) H'
theorem TvF.mono {vb:Option Nat} {sp:Tmp} {ex:Gi.Ex} {d:Option Tmp} {B:Nat} {x:Vd} (hv:∀g,vb=some g->g<B):Gi.Fact.bD (Rv vb sp) ex d (TvF B x):=by
 rintro s _ _ _ v w w' l h ⟨a,l,c,h1,h2⟩ hb;have hb:w.grownBy w' vb:=(Rv.rel vb sp).sub s hb;exact⟨a,l,c,h1,h2.aM (fun k hk s=>hb.block k hk (fun e=>by have s1:B<=k:=s;have:=hv k e.symm;omega)) (fun _ _ s=>s)⟩
theorem BsF.mono {vb:Option Nat} {sp:Tmp} {ex:Gi.Ex} {d:Option Tmp} {B:Nat} {x:Vd} (hv:∀g,vb=some g->g<B):Gi.Fact.bD (Rv vb sp) ex d (BsF B x):=by
 rintro s _ _ _ v w w' l h ⟨b,a,l,c,h1,h2,h3,h4⟩ hb;have hb:w.grownBy w' vb:=(Rv.rel vb sp).sub s hb;exact⟨b,a,l,c,h1,h2,(hb.block _ (ae h3) (fun e=>by have:=hv b e.symm;omega)).trans h3,h4.aM (fun k hk s=>hb.block k hk (fun e=>by have s1:B<=k:=s;have:=hv k e.symm;omega)) (fun _ _ s=>s)⟩
theorem ApF.mono {vb:Option Nat} {sp:Tmp} {ex:Gi.Ex} {B k:Nat} {rs:List (List Fv)} {vss:List (List Value)} :Gi.Fact.bD (Rv vb sp) ex (some sp) (ApF B k rs vss):=by
 rintro s h1 h2 _ v w w' l h ⟨H',vs,h3,h4⟩ hb;have hb:=Rv.below hb h1 h2;exact⟨H',vs,bM h3 hb,h4.below hb⟩

theorem pA (d:Ad) (c:Cl) (w:World) (hr:aJ w d c.raw) (hs:Sm c):
  Calls Tryz.prog 23 #[.agg #[.slice d.a1 d.l1 d.c1,.slice d.a2 d.l2 d.c2,.slice d.a3 d.l3 d.c3,.slice d.a4 d.l4 d.c4,.slice d.a5 d.l5 d.c5,.int .i64 c.now]] w fun e w'=> ∃d',e=.returned (.agg #[.slice d'.a1 d'.l1 d'.c1,.slice d'.a2 d'.l2 d'.c2,.slice d'.a3 d'.l3 d'.c3,.slice d'.a4 d'.l4 d'.c4,.slice d'.a5 d'.l5 d'.c5,.int .i64 c.now])/\ew w' d' c.raw (fun k=>w.heap.size<=k)/\Below w.heap.size w w':=by
 obtain⟨a1,l1,y1,a2,l2,y2,a3,l3,y3,a4,l4,y4,a5,l5,y5⟩:=d;dsimp only;obtain⟨HR,hl1,hm1,hl2,hm2,hl3,hm3,hl4,hm4,hl5,hm5⟩:=pL;clear hr;have HS:=aa hs;clear hs;obtain⟨i2,hi2⟩:=FG.1 rv;obtain⟨i4,hi4⟩:=FG.1 iH;obtain⟨i1,hi1⟩:=FG.1 mv;obtain⟨i3,hi3⟩:=FG.1 gh;obtain⟨i5,hi5⟩:=FG.1 iI;have HI1:=aa hi1;have HI2:=aa hi2;have HI3:=aa hi3;have HI4:=aa hi4;have HI5:=aa hi5;clear hi1 hi2 hi3 hi4 hi5;obtain⟨W,hW0⟩:∃W,W=(w.alloc (.cells (clo6 a1 l1 y1 a2 l2 y2 a3 l3 y3 a4 l4 y4 a5 l5 y5 c.now) 36)).alloc (.cells (clo6 none 0 0 none 0 0 none 0 0 none 0 0 none 0 0 0) 36):=⟨_,rfl⟩;have HB:Hid (Below w.heap.size w W):=by rw[hW0];exact aF _ _ _
 have Bk:Hid (W.heap[w.heap.size]?=some (.cells (clo6 a1 l1 y1 a2 l2 y2 a3 l3 y3 a4 l4 y4 a5 l5 y5 c.now) 36 (0,0))):=by rw[hW0];exact cS _ _ _
 obtain⟨Br,hWs⟩:=BH;go_enter Tryz.func23,Tryz.ntmps23;go_wp2_with fail;rw[<-hW0];clear hW0;rename_i K0 hK0;refine aU ar rfl rfl ar ?_;refine au.step (EmF W.heap.size 102) rfl (EmF.mono _ _) ?_ ?_
 ·exact nW
 refine' au.an _ rfl ?_ ?_;rotate_left 1
 ·exact ga
 refine' au.an _ rfl ?_ ?_;rotate_left 1
 ·refine Obl.plain rfl ?_;intro ac wg K hsz hW hf hK;clear hsz;have e10:=hf 10 aj;simp[ai,Fp] at e10;exact jT
 refine au.step (RwF W.heap.size l2 4 102 (c.ks.map kdF)) rfl (RwF.mono _ _ _ _ _) ?_ ?_
 ·refine Obl.plain rfl ?_;intro ac wg K hsz hW hf hK;clear hsz;have e9:=hf 9 aj;simp[ai,Fp] at e9;have e11:=hf 11 aj;simp[ai,Fp] at e11;clear hf;obtain⟨b0,e9,hB0,hg0⟩:=e9;have hz:i2.zero=some (.agg #[.string ⟨#[]⟩,.bool false,.bool false,.string ⟨#[]⟩])/\i2.size=4/\i2.bytes=40:=by have:=HI2.2;simp only[Hp] at this;exact this
  refine mJ (.tmp 9) (.tmp 11) 31 102 rfl i2 (.agg #[.string ⟨#[]⟩,.bool false,.bool false,.string ⟨#[]⟩]) Tryz.underlying31 HI2.1 hz.1 hz.2.1 hz.2.2 rfl aj aj (by simpa[Act.eval] using e9) hg0 (by simpa[Act.eval] using e11) (HR.k.below (HB.trans (hW.mono HB.size))) (gV sF _) (show l2<=8 by have:=HS.k;omega) aj ?_;exact yj
 refine au.step (EmF W.heap.size 105) rfl (EmF.mono _ _) ?_ ?_
 ·exact nW
 refine' au.an _ rfl ?_ ?_;rotate_left 1
 ·exact ga
 refine' au.an _ rfl ?_ ?_;rotate_left 1
 ·refine Obl.plain rfl ?_;intro ac wg K hsz hW hf hK;clear hsz;have e14:=hf 14 aj;simp[ai,Fp] at e14;exact jT
 refine au.step (RwF W.heap.size l4 5 105 (c.xs.map xdF)) rfl (RwF.mono _ _ _ _ _) ?_ ?_
 ·refine Obl.plain rfl ?_;intro ac wg K hsz hW hf hK;clear hsz;have e13:=hf 13 aj;simp[ai,Fp] at e13;have e15:=hf 15 aj;simp[ai,Fp] at e15;clear hf;obtain⟨b0,e13,hB0,hg0⟩:=e13;have hz:i4.zero=some (.agg #[.string ⟨#[]⟩,.int .i64 0,.string ⟨#[]⟩,.bool false,.string ⟨#[]⟩])/\i4.size=5/\i4.bytes=64:=by have:=HI4.2;simp only[Hp] at this;exact this
  refine mJ (.tmp 13) (.tmp 15) 33 105 rfl i4 (.agg #[.string ⟨#[]⟩,.int .i64 0,.string ⟨#[]⟩,.bool false,.string ⟨#[]⟩]) Tryz.underlying33 HI4.1 hz.1 hz.2.1 hz.2.2 rfl aj aj (by simpa[Act.eval] using e13) hg0 (by simpa[Act.eval] using e15) (HR.x.below (HB.trans (hW.mono HB.size))) (gV rV _) (show l4<=8 by have:=HS.x;omega) aj ?_;exact yj
 refine' au.an _ rfl ?_ ?_;rotate_left 1
 ·exact ga
 refine' au.an _ rfl ?_ ?_;rotate_left 1
 ·refine Obl.plain rfl ?_;intro ac wg K hsz hW hf hK;clear hsz;have e17:=hf 17 aj;simp[ai,Fp] at e17;exact jT
 refine au.step (CpF W.heap.size l2 l4 c) rfl (CpF.mono _ _ _ _) ?_ ?_
 ·refine Obl.plain rfl ?_;intro ac wg K hsz hW hf hK;clear hsz;have e12:=hf 12 aj;simp[ai,Fp] at e12;have e16:=hf 16 aj;simp[ai,Fp] at e16;have e18:=hf 18 aj;simp[ai,Fp] at e18;clear hf;obtain⟨p2,q2,e12,h12⟩:=e12;obtain⟨p4,q4,e16,h16⟩:=e16;have H12:=aa h12;have H16:=aa h16;clear h12 h16;go_simp;exact hK _ _ (Ft _ _) ⟨p2,q2,p4,q4,rfl,H12.out,H16.out⟩
 refine au.step (FrF W.heap.size) rfl (FrF.mono _) ?_ ?_
 ·exact nW
 refine au.done ?_;intro q wz hW hf;simp only[FJ] at hf;obtain⟨⟨b3,h3,hb3,hg3⟩,⟨p2,q2,p4,q4,h19,hR2,hR4⟩,-⟩:=hf;obtain⟨t0,t1,t2,t3,t4,t5⟩:=cs6 hg3;have f0:=av hg3 0;have f1:=av hg3 1;have f2:=av hg3 2;have f3:=av hg3 3;have f4:=av hg3 4;have f5:=av hg3 5;have BoX:=aa (E0 (v0:=.slice none 0 0) (v1:=.slice p2 l2 q2) (v2:=.slice none 0 0) (v3:=.slice p4 l4 q4) (v4:=.slice none 0 0) (v5:=.int .i64 c.now) hg3);have HWX:Hid (Below W.heap.size W ((((((wz.setCell ⟨b3,0,none⟩ (.slice none 0 0)).setCell ⟨b3,1,none⟩ (.slice p2 l2 q2)).setCell ⟨b3,2,none⟩ (.slice none 0 0)).setCell ⟨b3,3,none⟩ (.slice p4 l4 q4)).setCell ⟨b3,4,none⟩ (.slice none 0 0)).setCell ⟨b3,5,none⟩ (.int .i64 c.now))):=ah hb3 (ah hb3 (ah hb3 (ah hb3 (ah hb3 (ah hb3 hW)))));have R2:Hid (az ((((((wz.setCell ⟨b3,0,none⟩ (.slice none 0 0)).setCell ⟨b3,1,none⟩ (.slice p2 l2 q2)).setCell ⟨b3,2,none⟩ (.slice none 0 0)).setCell ⟨b3,3,none⟩ (.slice p4 l4 q4)).setCell ⟨b3,4,none⟩ (.slice none 0 0)).setCell ⟨b3,5,none⟩ (.int .i64 c.now)) p2 l2 q2 4 102 (c.ks.map kdF) (fun k=>W.heap.size<=k/\¬k=b3)):=(hR2.gn hg3 aj aj).aM (fun k hk s=>eK s.2) (fun k _ s=>s);have R4:Hid (az ((((((wz.setCell ⟨b3,0,none⟩ (.slice none 0 0)).setCell ⟨b3,1,none⟩ (.slice p2 l2 q2)).setCell ⟨b3,2,none⟩ (.slice none 0 0)).setCell ⟨b3,3,none⟩ (.slice p4 l4 q4)).setCell ⟨b3,4,none⟩ (.slice none 0 0)).setCell ⟨b3,5,none⟩ (.int .i64 c.now)) p4 l4 q4 5 105 (c.xs.map xdF) (fun k=>W.heap.size<=k/\¬k=b3)):=(hR4.gn hg3 aj aj).aM (fun k hk s=>eK s.2) (fun k _ s=>s);clear hg3 hR2 hR4 hW;intro K hK;rw[if_pos bJ];simp only[aE,Gd,GG,Fy,FF,FL,h3,h19];simp only[List.getLast];go_simp;refine hK _ _ ?_;refine hK0 _ _ ?_;clear hK hK0 K K0;generalize ((((((wz.setCell ⟨b3,0,none⟩ (.slice none 0 0)).setCell ⟨b3,1,none⟩ (.slice p2 l2 q2)).setCell ⟨b3,2,none⟩ (.slice none 0 0)).setCell ⟨b3,3,none⟩ (.slice p4 l4 q4)).setCell ⟨b3,4,none⟩ (.slice none 0 0)).setCell ⟨b3,5,none⟩ (.int .i64 c.now))=X at BoX HWX R2 R4 ⊢;clear t0 t1 t2 t3 t4 t5 f0 f1 f2 f3 f4 f5;have HBX:=aa (HB.trans (HWX.mono HB.size));replace Bk:=aa ((HWX.block _ (ae Bk.out)).trans Bk.out);replace Br:=aa ((HWX.block _ (ae Br.out)).trans Br.out);have hb3X:=ae BoX.out;clear HB;go_wp2;go_loopw [4] (fun vi wr=> ∃(k:Nat) (vss:List (List Value)) (H:Nat->Nat->Nat) (v:Value),k<=l1/\vi=.int .i64 k/\Hid (aC (Cps b3 X) X wr)/\Hid (wr.ownsRow X.heap.size 57 7 v k vss.flatten)/\Hid (aX wr (fun k=>X.heap.size<=k) 7 ((c.ns.take k).map ndF) vss H)/\Hid (wr.heap[b3]?=some (.cells #[v,.slice p2 l2 q2,.slice none 0 0,.slice p4 l4 q4,.slice none 0 0,.int .i64 c.now] 36 (0,0)))) (fun vi _=>l1 - (intOf vi).toNat);case atStart=>exact⟨0,[],fun _ _=>0,.slice none 0 0,by omega,rfl,aC.refl _ _,Ge _ _ _ _,aX.nil _ _ _ _,BoX⟩
 case round=>
  obtain⟨k,vss,H,v,hk,rfl,HK,HO,HV,Bo⟩:=hrel;obtain⟨hXs,HBW,BkR,hKs⟩:=vm;by_cases hlt:k<l1
  ·obtain⟨b,o,x,rfl,hb0,hx,hat⟩:=cA HR.n hlt;obtain⟨va,vl,vc,hvr,z0,z1,c0,c1,c2,c3,c4,c5,c6⟩:=aZ hat;have hz8:vl<=8001:=by have h1:=hvr.1;have h2:=HS.ns k x hx;omega
   have HX:=aa hx;have HT:=aa hvr;have HZz0:=aa z0;have HZz1:=aa z1;clear hat hx hvr z0 z1;replace c0:=(ak HBW.out hb0).trans c0;replace c1:=(ak HBW.out hb0).trans c1;replace c2:=(ak HBW.out hb0).trans c2;replace c3:=(ak HBW.out hb0).trans c3;replace c4:=(ak HBW.out hb0).trans c4;replace c5:=(ak HBW.out hb0).trans c5;replace c6:=(ak HBW.out hb0).trans c6;have hbr:=FC hb0 HBW.size;have hkr:=ae BkR.out;have hor:=ae Bo.out;have hz:i1.zero=some (.agg #[.string ⟨#[]⟩,.string ⟨#[]⟩,.int .i64 0,.int .i64 0,.int .i64 0,.bool false,.slice none 0 0])/\i1.size=7/\i1.bytes=88:=by have:=HI1.2;simp only[Hp] at this;exact this
   obtain⟨k0,k1,k2,k3,k4,k5⟩:=cs6 BkR;go_wp2_with (first|(at_builtin;refine gy rfl _ _ rfl (wr.heap.size+1) rfl (bE _ _ _) va vl vc rfl x.zs (HT.below (HBW.trans ((aF _ _ _).mono HBW.size))) hz8 ?_));intro a' l' c' w2 hT2 hb2;obtain⟨hn2,-,hbx⟩:=r9 hb2;obtain⟨g,hg⟩:=hT2.fr;obtain⟨hs2,hsl⟩:=BC;have hb4:Below wr.heap.size wr ((w2.setCell ⟨wr.heap.size,6,none⟩ (.slice a' l' c')).alloc (.cells (nov x a' l' c') 57)):=(ah (Fq _) hbx).alloc jH _;have HF4:Hid (LFr ((w2.setCell ⟨wr.heap.size,6,none⟩ (.slice a' l' c')).alloc (.cells (nov x a' l' c') 57)) g (fun k=>X.heap.size<=k) x.zs (.slice a' l' c')):=hg.aM (fun cu _ q=>(Fw _ _ _ (by simp[Gc];exact ae q)).trans (Fm _ _ _ _ (fun e=>by subst e;rw[hn2] at q;cases q))) (fun _ s=>by have:=hsl _ s;show X.heap.size<=g;omega);obtain⟨HG,HB4,HO4⟩:=vx;obtain⟨n0,n1,n2,n3,n4,n5,n6⟩:=cs7 hn2;have fn3:=av hn2 3;have fn6:=av hn2 6;have bo2:=(hbx.block _ hor).trans Bo.out;obtain⟨o0,o1,o2,o3,o4,o5⟩:=cs6 bo2;clear hn2 hbx hT2 hg hb2 hsl hb4 bo2 k0 k1 k2 k3 k4 k5 c0 c1 c2 c3 c4 c5 c6;go_wp2_with (first|(at_builtin;refine wpList_append_own _ rfl _ _ 30 rfl X.heap.size 57 i1 (.agg #[.string ⟨#[]⟩,.string ⟨#[]⟩,.int .i64 0,.int .i64 0,.int .i64 0,.bool false,.slice none 0 0]) 7 88 Tryz.underlying30 HI1.1 hz.1 hz.2.1 hz.2.2 rfl aj _ _ _ rfl HO4.out ⟨w2.heap.size,0,none⟩ 1 1 [.string x.n,.string x.z,.int .i64 x.c,.int .i64 x.s,.int .i64 x.u,.bool x.d,.slice a' l' c'] rfl rfl ?c1 ?c2 ?c3 ?c4 ?c5 ?_));case c1=>exact fU _ _ (by simp[Gc]) _ _
   case c2=>intro u hu;simp only[Gf,GJ,or_false] at hu;rcases hu with rfl|rfl|rfl|rfl|rfl|rfl|rfl <;> rfl
   case c3=>unfold maxLen;have:=HS.n;omega
   case c4=>have:=HS.n;omega
   case c5=>simp[Gc];omega
   rintro v' w5 hown5 hgrow -;obtain⟨v1',v2',v3',rfl⟩:=bu hown5;clear n0 n1 n2 n3 fn3 n4 n5 n6 fn6 o0 o1 o2 o3 o4 o5;have bo5:=rN HO.out Bo.out hb3X HB4.out hgrow;obtain⟨hs1,hs2',⟨H',hs3⟩,hs4⟩:=sN (f:=0) (r:=ndF x) (vs:=[.string x.n,.string x.z,.int .i64 x.c,.int .i64 x.s,.int .i64 x.u,.bool x.d,.slice a' l' c']) (hh:=g) HK.out HO.out HV.out Bo.out hb3X HB4.out hown5 hgrow aj aj aj rfl rfl (C5 HZz0.out HZz1.out HF4.out) (fun i zs hi hz=>HG.out zs (tr hi).2.symm hz) (fun i i' zs zs' h1 _ h2 _=>(tr h1).1.trans (tr h2).1.symm);have e1:(c.ns.take (k+1)).map ndF=(c.ns.take k).map ndF++[ndF x]:=by rw[FZ,HX.out];simp
   exact Cs
  ·have hkl:k=l1:=af
   have h5:=HV.out;rw[FD af] at h5;obtain⟨p1,q1,hv,hR⟩:=h5.own HO.out bF aj (fun g hg=>(HO.lt g hg).1);have hl5:(c.ns.map ndF).length=l1:=by simpa using hl1
   rw[hl5] at hv hR;subst hv;have R1:=aa (hR.gn Bo.out aj aj);replace R2:=aa (R2.aM (fun k hk s=>HK.block k hk (fun q9=>by rcases q9 with q9|q9;exact s.2 q9;omega)) (fun _ _ s=>s));replace R4:=aa (R4.aM (fun k hk s=>HK.block k hk (fun q9=>by rcases q9 with q9|q9;exact s.2 q9;omega)) (fun _ _ s=>s));replace Br:=aa ((HK.block (w.heap.size+1) af (fun s=>by rcases s with s|s <;> omega)).trans Br.out);replace Bk:=BkR;replace BoX:=Bo;replace HBX:=HBW;have hb3X1:=ae BoX.out;clear BkR Bo HBW h5 hR HV HO HK hl5 hkl hk hKs hXs;generalize wr=X1 at*;obtain⟨k0,k1,k2,k3,k4,k5⟩:=cs6 Bk;go_wp2;clear k0 k1 k2 k3 k4 k5 hlt;go_loopw [6] (fun vi wr=> ∃(k:Nat) (vss:List (List Value)) (H:Nat->Nat->Nat) (v:Value),k<=l3/\vi=.int .i64 k/\Hid (aC (Cps b3 X1) X1 wr)/\Hid (wr.ownsRow X1.heap.size 99 8 v k vss.flatten)/\Hid (aX wr (fun k=>X1.heap.size<=k) 8 ((c.vs.take k).map vdF) vss H)/\Hid (wr.heap[b3]?=some (.cells #[.slice p1 l1 q1,.slice p2 l2 q2,v,.slice p4 l4 q4,.slice none 0 0,.int .i64 c.now] 36 (0,0)))) (fun vi _=>l3 - (intOf vi).toNat);case atStart=>exact⟨0,[],fun _ _=>0,.slice none 0 0,by omega,rfl,aC.refl _ _,Ge _ _ _ _,aX.nil _ _ _ _,BoX⟩
   case round=>
    obtain⟨k,vss,H,v,hk,rfl,HK,HO,HV,Bo⟩:=hrel;obtain⟨hXs,HBW,BkR,hKs⟩:=vm;by_cases hlt:k<l3
    ·obtain⟨b,o,x,rfl,hb0,hx,hat⟩:=bN HR.v hlt;obtain⟨va,vl,vc,hvr,z0,z2,z3,z5,c0,c1,c2,c3,c4,c5,c6,c7⟩:=aK hat;have hz8:vl<=8001:=by have h1:=hvr.1;have h2:=HS.vs k x hx;omega
     have HX:=aa hx;have HT:=aa hvr;have HZz0:=aa z0;have HZz2:=aa z2;have HZz3:=aa z3;have HZz5:=aa z5;clear hat hx hvr z0 z2 z3 z5;replace c0:=(ak HBW.out hb0).trans c0;replace c1:=(ak HBW.out hb0).trans c1;replace c2:=(ak HBW.out hb0).trans c2;replace c3:=(ak HBW.out hb0).trans c3;replace c4:=(ak HBW.out hb0).trans c4;replace c5:=(ak HBW.out hb0).trans c5;replace c6:=(ak HBW.out hb0).trans c6;replace c7:=(ak HBW.out hb0).trans c7;have hbr:=FC hb0 HBW.size;have hkr:=ae BkR.out;have hor:=ae Bo.out;have hz:i3.zero=some (.agg #[.string ⟨#[]⟩,.int .i64 0,.string ⟨#[]⟩,.string ⟨#[]⟩,.bool false,.string ⟨#[]⟩,.bool false,.slice none 0 0])/\i3.size=8/\i3.bytes=112:=by have:=HI3.2;simp only[Hp] at this;exact this
     obtain⟨k0,k1,k2,k3,k4,k5⟩:=cs6 BkR;have hvb:=fun g hg=>(HO.lt g hg).2;go_wp2_with fail;clear k0 k1 k2 k3 k4 k5;rename_i K0 hK0;refine Gi.aU (R:=Rv v.ownBlock 59) (ex:=fun _=>none) (Rv.rel _ _) ar rfl rfl ar ar ?_;refine' Gi.au.an _ rfl ?_ ?_;rotate_left 1
     ·exact xm
     refine' Gi.au.an _ rfl ?_ ?_;rotate_left 1
     ·refine Gi.Obl.plain rfl ?_;intro ac wg K lo hi hsz hW hpr hf hap hK;clear hsz hap hpr;have hW:wr.grownBy wg v.ownBlock:=hW;have e50:=hf 50 aj;simp[Gi.ai,Fp] at e50;clear hf;obtain⟨o0,o1,o2,o3,o4,o5⟩:=cs6 ((hW.block b3 hor (fun e=>by have:=(HO.lt _ e.symm).1;omega)).trans Bo.out);exact jM
     refine' Gi.au.an _ rfl ?_ ?_;rotate_left 1
     ·refine Gi.Obl.plain rfl ?_;intro ac wg K lo hi hsz hW hpr hf hap hK;clear hsz hap hpr;have hW:wr.grownBy wg v.ownBlock:=hW;have e1:=hf 1 aj;simp[Gi.ai,Fp] at e1;clear hf;exact jM
     refine' Gi.au.an _ rfl ?_ ?_;rotate_left 1
     ·refine Gi.Obl.plain rfl ?_;intro ac wg K lo hi hsz hW hpr hf hap hK;clear hsz hap hpr;have hW:wr.grownBy wg v.ownBlock:=hW;have e52:=hf 52 aj;simp[Gi.ai,Fp] at e52;clear hf;obtain⟨k0,k1,k2,k3,k4,k5⟩:=cs6 ((hW.block w.heap.size hkr (fun e=>by have:=(HO.lt _ e.symm).1;omega)).trans BkR.out);exact jM
     refine' Gi.au.an _ rfl ?_ ?_;rotate_left 1
     ·refine Gi.Obl.plain rfl ?_;intro ac wg K lo hi hsz hW hpr hf hap hK;clear hsz hap hpr;have hW:wr.grownBy wg v.ownBlock:=hW;have e6:=hf 6 aj;simp[Gi.ai,Fp] at e6;clear hf;exact jM
     refine' Gi.au.an _ rfl ?_ ?_;rotate_left 1
     ·refine Gi.Obl.plain rfl ?_;intro ac wg K lo hi hsz hW hpr hf hap hK;clear hsz hap hpr;have hW:wr.grownBy wg v.ownBlock:=hW;have e53:=hf 53 aj;simp[Gi.ai,Fp] at e53;have e54:=hf 54 aj;simp[Gi.ai,Fp] at e54;clear hf;exact jM
     refine' Gi.au.an _ rfl ?_ ?_;rotate_left 1
     ·refine Gi.Obl.plain rfl ?_;intro ac wg K lo hi hsz hW hpr hf hap hK;clear hsz hap hpr;have hW:wr.grownBy wg v.ownBlock:=hW;have e55:=hf 55 aj;simp[Gi.ai,Fp] at e55;clear hf;have c0g:=(F8 (hW.block b hbr (fun e=>by have:=(HO.lt _ e.symm).1;omega))).trans c0;have c1g:=(F8 (hW.block b hbr (fun e=>by have:=(HO.lt _ e.symm).1;omega))).trans c1;have c2g:=(F8 (hW.block b hbr (fun e=>by have:=(HO.lt _ e.symm).1;omega))).trans c2;have c3g:=(F8 (hW.block b hbr (fun e=>by have:=(HO.lt _ e.symm).1;omega))).trans c3;have c4g:=(F8 (hW.block b hbr (fun e=>by have:=(HO.lt _ e.symm).1;omega))).trans c4;have c5g:=(F8 (hW.block b hbr (fun e=>by have:=(HO.lt _ e.symm).1;omega))).trans c5;have c6g:=(F8 (hW.block b hbr (fun e=>by have:=(HO.lt _ e.symm).1;omega))).trans c6;have c7g:=(F8 (hW.block b hbr (fun e=>by have:=(HO.lt _ e.symm).1;omega))).trans c7;exact jM
     refine Gi.au.step (TvF wr.heap.size x) rfl (TvF.mono hvb) ?_ ?_
     ·refine Gi.Obl.plain rfl ?_;intro ac wg K lo hi hsz hW hpr hf hap hK;clear hsz hap hpr;have hW:wr.grownBy wg v.ownBlock:=hW;have e56:=hf 56 aj;simp[Gi.ai,Fp] at e56;clear hf;have hBg:=HBW.grown hW HBW.size (fun g hg=>by have:=(HO.lt g hg).1;omega);go_simp;refine (Ap.D4 x.n x.c x.z x.k x.x x.m x.y va vl vc x.zs _ (HT.below hBg) hz8).mono ?_;rintro e w6 ⟨a',l',c',rfl,ho1,ho2,hb6⟩;have hws:=hW.size;exact hK _ _ (Rv.other aj hb6) ⟨a',l',c',rfl,cy.bA ⟨ho1,ho2⟩ (fun k _ s=>Fx hws s)⟩
     refine Gi.au.step (BsF wr.heap.size x) rfl (BsF.mono hvb) ?_ ?_
     ·refine Gi.Obl.plain rfl ?_;intro ac wg K lo hi hsz hW hpr hf hap hK;clear hsz hap hpr;have hW:wr.grownBy wg v.ownBlock:=hW;have e57:=hf 57 aj;simp[Gi.ai,Fp] at e57;clear hf;obtain⟨a',l',c',e57,ho⟩:=e57;have HO7:=aa ho;clear ho;go_simp;exact hK _ _ (Rv.other aj (al _ _)) ⟨_,a',l',c',rfl,hW.size,FB,HO7.below (al _ _)⟩
     refine Gi.au.step (ApF X1.heap.size k ((c.vs.take (k+1)).map vdF) vss) rfl (ApF.mono) ?_ ?_
     ·refine Gi.Obl.plain rfl ?_;intro ac wg K lo hi hsz hW hpr hf hap hK;clear hsz hap;have hW:wr.grownBy wg v.ownBlock:=hW;have e51:=hf 51 aj;simp[Gi.ai,Fp] at e51;have e58:=hf 58 aj;simp[Gi.ai,Fp] at e58;clear hf;have hbW:=hpr rfl;clear hpr;obtain⟨b5,a',l',c',e58,hb5,hg5,ho5⟩:=e58;obtain⟨g,hg⟩:=ho5.fr;have hws:=hW.size;refine wp_append_own wg (.tmp 51) (.tmp 58) 32 rfl X1.heap.size 99 i3 (.agg #[.string ⟨#[]⟩,.int .i64 0,.string ⟨#[]⟩,.string ⟨#[]⟩,.bool false,.string ⟨#[]⟩,.bool false,.slice none 0 0]) 8 112 Tryz.underlying32 HI3.1 hz.1 hz.2.1 hz.2.2 rfl aj v k vss.flatten (by simpa[Act.eval] using e51) (bM HO.out hbW) ⟨b5,0,none⟩ 1 1 [.string x.n,.int .i64 x.c,.string x.z,.string x.k,.bool x.x,.string x.m,.bool x.y,.slice a' l' c'] (by simpa[Act.eval] using e58) rfl (yW hg5) (by intro u hu;simp only[Gf,GJ,or_false] at hu;rcases hu with rfl|rfl|rfl|rfl|rfl|rfl|rfl|rfl <;> rfl) (by unfold maxLen;have:=HS.v;omega) (by have:=HS.v;omega) af ?_;intro v' w' hown hgr _;have hV:=HV.app (r:=vdF x) (vs:=[.string x.n,.int .i64 x.c,.string x.z,.string x.k,.bool x.x,.string x.m,.bool x.y,.slice a' l' c']) (hh:=g) hbW (bM HO.out hbW) aj hgr rfl rfl (ug HZz0.out HZz2.out HZz3.out HZz5.out (hg.aM (S':=fun k=>X1.heap.size<=k) (fun cu _ q=>rfl) (fun _ s=>by have s1:wr.heap.size<=g:=s;show X1.heap.size<=g;omega))) (fun i zs hi hz=>by obtain⟨_,rfl⟩:=sY hi;exact (hg.lt hz).1) (fun i i' zs zs' h1 _ h2 _=>(sY h1).1.trans (sY h2).1.symm);have e1:(c.vs.take (k+1)).map vdF=(c.vs.take k).map vdF++[vdF x]:=by rw[FZ,HX.out];simp
      rw[<-e1] at hV;exact hK _ _ (Rv.this hgr) ⟨_,[.string x.n,.int .i64 x.c,.string x.z,.string x.k,.bool x.x,.string x.m,.bool x.y,.slice a' l' c'],by rw[List.flatten_append];simpa using hown,hV⟩
     refine' Gi.au.an _ rfl ?_ ?_;rotate_left 1
     ·exact xm
     refine Gi.au.done ?_;intro q wz lo hi hW hf hap;clear hap;have hW:wr.grownBy wz v.ownBlock:=hW;simp only[FJ] at hf;obtain⟨h60,h59,-⟩:=hf;have h60:=h60 ct;obtain⟨H',vs',hs2,hs3⟩:=h59 ct;obtain⟨v',hv'⟩:∃v',q 59=v':=⟨_,rfl⟩;rw[hv'] at hs2;obtain⟨v1',v2',v3',rfl⟩:=bu hs2;have bo5:=(hW.block b3 hor (fun e=>by have:=(HO.lt _ e.symm).1;omega)).trans Bo.out;have HS1:=aa (((HK.trans (aC.ou hW (fun g e=>.inr (HO.lt g e).1))).set (i:=2) (v:=.slice v1' v2' v3') (.inl rfl)));have HS2:=aa (om (i:=2) (u:=.slice v1' v2' v3') hs2 bo5 aj);have HS3:=aa (hs3.set (i:=2) (u:=.slice v1' v2' v3') bo5 aj);have HS4:=aa (aA (i:=2) bo5 (.slice v1' v2' v3'));obtain⟨o0,o1,o2,o3,o4,o5⟩:=cs6 bo5;have fo0:=av bo5 0;have fo2:=av bo5 2;have fo4:=av bo5 4;clear bo5 hs2 hs3 hW c0 c1 c2 c3 c4 c5 c6 c7;intro K hK;rw[if_pos bJ];simp only[Gi.aE,Gd,GG,Fy,FF,FL,h60,hv'];simp only[List.getLast];go_simp;refine hK _ _ ?_;refine hK0 _ _ ?_;clear hK hK0 K K0;go_wp2;exact⟨⟨k+1,_,H',_,by omega,by go_num,HS1,HS2,HS3,HS4⟩,by simp[intOf];omega⟩
    ·have hkl:k=l3:=af
     have h5:=HV.out;rw[FD af] at h5;obtain⟨p3,q3,hv,hR⟩:=h5.own HO.out bF aj (fun g hg=>(HO.lt g hg).1);have hl5:(c.vs.map vdF).length=l3:=by simpa using hl3
     rw[hl5] at hv hR;subst hv;have R3:=aa (hR.gn Bo.out aj aj);replace R2:=aa (R2.aM (fun k hk s=>HK.block k hk (fun q9=>by rcases q9 with q9|q9;exact s.2 q9;omega)) (fun _ _ s=>s));replace R4:=aa (R4.aM (fun k hk s=>HK.block k hk (fun q9=>by rcases q9 with q9|q9;exact s.2 q9;omega)) (fun _ _ s=>s));replace R1:=aa (R1.aM (fun k hk s=>HK.block k hk (fun q9=>by rcases q9 with q9|q9;exact s.2 q9;omega)) (fun _ _ s=>s));replace Br:=aa ((HK.block (w.heap.size+1) af (fun s=>by rcases s with s|s <;> omega)).trans Br.out);replace Bk:=BkR;replace BoX:=Bo;replace HBX:=HBW;have hb3X2:=ae BoX.out;clear BkR Bo HBW h5 hR HV HO HK hl5 hkl hk hKs hXs;generalize wr=X2 at*;obtain⟨k0,k1,k2,k3,k4,k5⟩:=cs6 Bk;go_wp2;clear k0 k1 k2 k3 k4 k5 hlt;go_loopw [7] (fun vi wr=> ∃(k:Nat) (vss:List (List Value)) (H:Nat->Nat->Nat) (v:Value),k<=l5/\vi=.int .i64 k/\Hid (aC (Cps b3 X2) X2 wr)/\Hid (wr.ownsRow X2.heap.size 64 6 v k vss.flatten)/\Hid (aX wr (fun k=>X2.heap.size<=k) 6 ((c.ps.take k).map pdF) vss H)/\Hid (wr.heap[b3]?=some (.cells #[.slice p1 l1 q1,.slice p2 l2 q2,.slice p3 l3 q3,.slice p4 l4 q4,v,.int .i64 c.now] 36 (0,0)))) (fun vi _=>l5 - (intOf vi).toNat);case atStart=>exact⟨0,[],fun _ _=>0,.slice none 0 0,by omega,rfl,aC.refl _ _,Ge _ _ _ _,aX.nil _ _ _ _,BoX⟩
     case round=>
      obtain⟨k,vss,H,v,hk,rfl,HK,HO,HV,Bo⟩:=hrel;obtain⟨hXs,HBW,BkR,hKs⟩:=vm;by_cases hlt:k<l5
      ·obtain⟨b,o,x,rfl,hb0,hx,hat⟩:=bY HR.p hlt;obtain⟨va,vl,vc,hvr,z0,z2,z4,c0,c1,c2,c3,c4,c5⟩:=aS hat;have hz8:vl<=8001:=by have h1:=hvr.1;have h2:=HS.ps k x hx;omega
       have HX:=aa hx;have HT:=aa hvr;have HZz0:=aa z0;have HZz2:=aa z2;have HZz4:=aa z4;clear hat hx hvr z0 z2 z4;replace c0:=(ak HBW.out hb0).trans c0;replace c1:=(ak HBW.out hb0).trans c1;replace c2:=(ak HBW.out hb0).trans c2;replace c3:=(ak HBW.out hb0).trans c3;replace c4:=(ak HBW.out hb0).trans c4;replace c5:=(ak HBW.out hb0).trans c5;have hbr:=FC hb0 HBW.size;have hkr:=ae BkR.out;have hor:=ae Bo.out;have hz:i5.zero=some (.agg #[.string ⟨#[]⟩,.int .i64 0,.string ⟨#[]⟩,.slice none 0 0,.string ⟨#[]⟩,.int .i64 0])/\i5.size=6/\i5.bytes=88:=by have:=HI5.2;simp only[Hp] at this;exact this
       obtain⟨k0,k1,k2,k3,k4,k5⟩:=cs6 BkR;go_wp2_with (first|(at_builtin;refine gy rfl _ _ rfl (wr.heap.size+1) rfl (bE _ _ _) va vl vc rfl x.zs (HT.below (HBW.trans ((aF _ _ _).mono HBW.size))) hz8 ?_));intro a' l' c' w2 hT2 hb2;obtain⟨hn2,-,hbx⟩:=r9 hb2;obtain⟨g,hg⟩:=hT2.fr;obtain⟨hs2,hsl⟩:=BC;have hb4:Below wr.heap.size wr ((w2.setCell ⟨wr.heap.size,3,none⟩ (.slice a' l' c')).alloc (.cells (pov x a' l' c') 64)):=(ah (Fq _) hbx).alloc jH _;have HF4:Hid (LFr ((w2.setCell ⟨wr.heap.size,3,none⟩ (.slice a' l' c')).alloc (.cells (pov x a' l' c') 64)) g (fun k=>X2.heap.size<=k) x.zs (.slice a' l' c')):=hg.aM (fun cu _ q=>(Fw _ _ _ (by simp[Gc];exact ae q)).trans (Fm _ _ _ _ (fun e=>by subst e;rw[hn2] at q;cases q))) (fun _ s=>by have:=hsl _ s;show X2.heap.size<=g;omega);obtain⟨HG,HB4,HO4⟩:=vx;obtain⟨n0,n1,n2,n3,n4,n5⟩:=cs6 hn2;have fn3:=av hn2 3;have bo2:=(hbx.block _ hor).trans Bo.out;obtain⟨o0,o1,o2,o3,o4,o5⟩:=cs6 bo2;clear hn2 hbx hT2 hg hb2 hsl hb4 bo2 k0 k1 k2 k3 k4 k5 c0 c1 c2 c3 c4 c5;go_wp2_with (first|(at_builtin;refine wpList_append_own _ rfl _ _ 34 rfl X2.heap.size 64 i5 (.agg #[.string ⟨#[]⟩,.int .i64 0,.string ⟨#[]⟩,.slice none 0 0,.string ⟨#[]⟩,.int .i64 0]) 6 88 Tryz.underlying34 HI5.1 hz.1 hz.2.1 hz.2.2 rfl aj _ _ _ rfl HO4.out ⟨w2.heap.size,0,none⟩ 1 1 [.string x.n,.int .i64 x.c,.string x.z,.slice a' l' c',.string x.d,.int .i64 x.p] rfl rfl ?c1 ?c2 ?c3 ?c4 ?c5 ?_));case c1=>exact fU _ _ (by simp[Gc]) _ _
       case c2=>intro u hu;simp only[Gf,GJ,or_false] at hu;rcases hu with rfl|rfl|rfl|rfl|rfl|rfl <;> rfl
       case c3=>unfold maxLen;have:=HS.p;omega
       case c4=>have:=HS.p;omega
       case c5=>simp[Gc];omega
       rintro v' w5 hown5 hgrow -;obtain⟨v1',v2',v3',rfl⟩:=bu hown5;clear n0 n1 n2 n3 fn3 n4 n5 o0 o1 o2 o3 o4 o5;have bo5:=rN HO.out Bo.out hb3X2 HB4.out hgrow;obtain⟨hs1,hs2',⟨H',hs3⟩,hs4⟩:=sN (f:=4) (r:=pdF x) (vs:=[.string x.n,.int .i64 x.c,.string x.z,.slice a' l' c',.string x.d,.int .i64 x.p]) (hh:=g) HK.out HO.out HV.out Bo.out hb3X2 HB4.out hown5 hgrow aj aj aj rfl rfl (C0 HZz0.out HZz2.out HZz4.out HF4.out) (fun i zs hi hz=>HG.out zs (tl hi).2.symm hz) (fun i i' zs zs' h1 _ h2 _=>(tl h1).1.trans (tl h2).1.symm);have e1:(c.ps.take (k+1)).map pdF=(c.ps.take k).map pdF++[pdF x]:=by rw[FZ,HX.out];simp
       exact Cs
      ·have hkl:k=l5:=af
       have h5:=HV.out;rw[FD af] at h5;obtain⟨p5,q5,hv,hR⟩:=h5.own HO.out bF aj (fun g hg=>(HO.lt g hg).1);have hl5:(c.ps.map pdF).length=l5:=by simpa using hl5
       rw[hl5] at hv hR;subst hv;have R5:=aa (hR.gn Bo.out aj aj);replace R2:=aa (R2.aM (fun k hk s=>HK.block k hk (fun q9=>by rcases q9 with q9|q9;exact s.2 q9;omega)) (fun _ _ s=>s));replace R4:=aa (R4.aM (fun k hk s=>HK.block k hk (fun q9=>by rcases q9 with q9|q9;exact s.2 q9;omega)) (fun _ _ s=>s));replace R1:=aa (R1.aM (fun k hk s=>HK.block k hk (fun q9=>by rcases q9 with q9|q9;exact s.2 q9;omega)) (fun _ _ s=>s));replace R3:=aa (R3.aM (fun k hk s=>HK.block k hk (fun q9=>by rcases q9 with q9|q9;exact s.2 q9;omega)) (fun _ _ s=>s));replace Br:=aa ((HK.block (w.heap.size+1) af (fun s=>by rcases s with s|s <;> omega)).trans Br.out);replace Bk:=BkR;replace BoX:=Bo;replace HBX:=HBW;clear BkR Bo HBW h5 hR HV HO HK hl5 hkl hk hKs hXs;generalize wr=X3 at*;obtain⟨k0,k1,k2,k3,k4,k5⟩:=cs6 Bk;obtain⟨o0,o1,o2,o3,o4,o5⟩:=cs6 BoX;obtain⟨r0,r1,r2,r3,r4,r5⟩:=cs6 Br;have hXs:=HBX.size;obtain⟨fr0,fr1,fr2,fr3,fr4,fr5⟩:=gI;go_wp2;refine bodyPost_ret (v:=.agg #[.slice p1 l1 q1,.slice p2 l2 q2,.slice p3 l3 q3,.slice p4 l4 q4,.slice p5 l5 q5,.int .i64 c.now]) (by simp[results,Tryz.results23,go_sem, *]) rfl ⟨⟨p1,l1,q1,p2,l2,q2,p3,l3,q3,p4,l4,q4,p5,l5,q5⟩,rfl,⟨?_,?_,?_,?_,?_⟩,sb1 (sb1 (sb1 (sb1 (sb1 (sb1 (HBX.out))))))⟩
       ·exact (R1.aM (S':=fun k=>w.heap.size<=k) (fun k hk s=>eK (by have s1:X.heap.size<=k:=s.1;omega)) (fun k _ s=>by have s1:X.heap.size<=k:=s.1;show w.heap.size<=k;omega))
       ·exact (R2.aM (S':=fun k=>w.heap.size<=k) (fun k hk s=>eK (by have s1:W.heap.size<=k:=s.1;omega)) (fun k _ s=>by have s1:W.heap.size<=k:=s.1;show w.heap.size<=k;omega))
       ·exact (R3.aM (S':=fun k=>w.heap.size<=k) (fun k hk s=>eK (by have s1:X1.heap.size<=k:=s.1;omega)) (fun k _ s=>by have s1:X1.heap.size<=k:=s.1;show w.heap.size<=k;omega))
       ·exact (R4.aM (S':=fun k=>w.heap.size<=k) (fun k hk s=>eK (by have s1:W.heap.size<=k:=s.1;omega)) (fun k _ s=>by have s1:W.heap.size<=k:=s.1;show w.heap.size<=k;omega))
       ·exact (R5.aM (S':=fun k=>w.heap.size<=k) (fun k hk s=>eK (by have s1:X2.heap.size<=k:=s.1;omega)) (fun k _ s=>by have s1:X2.heap.size<=k:=s.1;show w.heap.size<=k;omega))

theorem ey {m:Nat} {vss:List (List Value)} (hl:∀(j:Nat) vs,vss[j]?=some vs->vs.length=m) {k:Nat} (hk:k<=vss.length):(vss.take k).flatten.length=k*m:=by
 rw[dr (m:=m) (fun j vs h=>?_),FO,Nat.min_eq_left hk];rw[FP] at h;split at h
 ·exact hl j vs h
 ·cases h
theorem iL {m:Nat} {vss:List (List Value)} (hl:∀(j:Nat) vs,vss[j]?=some vs->vs.length=m) {k:Nat} :(vss.drop k).flatten.length=(vss.length - k)*m:=by
 rw[dr (m:=m) (fun j vs h=>?_),GD];rw[Gj] at h;exact hl _ vs h
theorem lM {vss:List (List Value)} {k i:Nat} {u:Value} (h:(vss.take k).flatten[i]?=some u):vss.flatten[i]?=some u:=by
 have h1:vss.flatten=(vss.take k).flatten++(vss.drop k).flatten:=sg
 rw[h1,FK (Fk.1 h).1];exact h
theorem mA {m:Nat} {vss:List (List Value)} (hl:∀(j:Nat) vs,vss[j]?=some vs->vs.length=m) {k i:Nat} {u:Value} (hk:k<=vss.length) (h:(vss.drop k).flatten[i]?=some u):vss.flatten[k*m+i]?=some u:=by
 have h1:vss.flatten=(vss.take k).flatten++(vss.drop k).flatten:=sg
 rw[h1,List.getElem?_append_right (by rw[ey hl hk];omega),ey hl hk,Nat.add_sub_cancel_left];exact h
theorem cP {P:Value->Prop} {vss:List (List Value)} (h:∀u∈vss.flatten,P u) (k:Nat):(∀u∈(vss.take k).flatten,P u)/\∀u∈(vss.drop k).flatten,P u:=by
 have h1:vss.flatten=(vss.take k).flatten++(vss.drop k).flatten:=sg
 exact⟨fun u hu=>h u (by rw[h1];exact List.mem_append_left _ hu),fun u hu=>h u (by rw[h1];exact List.mem_append_right _ hu)⟩

theorem uG (p:Int) (w:World):
  Calls Tryz.prog 22 #[.int .i64 p] w fun e w'=>e=.returned (.agg #[.slice none 0 0,.slice none 0 0,.slice none 0 0,.slice none 0 0,.slice none 0 0,.int .i64 0,.string ⟨#[]⟩,.int .i64 p])/\Below w.heap.size w w':=by
 go_enter Tryz.func22,Tryz.ntmps22;go_wp2;exact bodyPost_ret (v:=.agg #[.slice none 0 0,.slice none 0 0,.slice none 0 0,.slice none 0 0,.slice none 0 0,.int .i64 0,.string ⟨#[]⟩,.int .i64 p]) (by simp[results,Tryz.results22,go_sem]) rfl ⟨rfl,al _ _⟩

end Rc
end Go.Proofs.YtpejepeekdjfoaaGreatDoor

namespace Go.Proofs.YtpejepeekdjfoaaGreatDoor
open Go.RowKit

theorem Al (n:ByteArray) (c:Int) (z:ByteArray) (k:ByteArray) (x:Bool) (m:ByteArray) (y:Bool) (a:Option Addr) (len cap:Nat) (n':ByteArray) (c':Int) (k':ByteArray) (x':Bool) (v':ByteArray) (t:ByteArray) (w:World):
  Calls Tryz.prog 172 #[.agg #[.string n,.int .i64 c,.string z,.string k,.bool x,.string m,.bool y,.slice a len cap],.agg #[.string n',.int .i64 c',.string k',.bool x',.string v'],.string t] w fun e w'=>e=.returned (.bool (svB c z k x m y c' k' x' t))/\Below w.heap.size w w':=by
 have HB:=aa (aF w (.cells #[.string n,.int .i64 c,.string z,.string k,.bool x,.string m,.bool y,.slice a len cap] 99) (.cells #[.string n',.int .i64 c',.string k',.bool x',.string v'] 105));unfold svB;cases h0:(k.toList==k'.toList)
 ·exact k_
 cases h1:(x==x')
 ·exact k_
 cases y;case true=>
  exact k_
 cases h2:m.toList.isEmpty
 ·exact k_
 by_cases h3:c'<=c;case neg=>
  have h3':decide (c'<=c)=false:=by simpa using h3
  rw[h3'];exact k_
 have h3':decide (c'<=c)=true:=by simpa using h3
 rw[h3'];cases h4:t.toList.isEmpty
 ·cases h5:(z.toList==t.toList);all_goals (
   go_enter Tryz.func172,Tryz.ntmps172
   go_wp2_with fail;go_ret
   exact⟨rfl,HB.out⟩)
 ·exact k_

theorem eS {sv:Vd->Bool} {vs:List Vd} {i:Nat} {v:Vd} (h:vs[i]?=some v):db sv (vs.take (i+1))=de sv (db sv (vs.take i)) v:=by
 unfold db;rw[FZ,h];simp
def cX (sv:Vd->Bool) (vs:List Vd) (i:Nat) (r:Int):Prop:=
 (r= -1/\db sv (vs.take i)=none)\/∃(j:Nat) (u:Vd),r=j/\j<vs.length/\vs[j]?=some u/\db sv (vs.take i)=some u
theorem cX.no {sv:Vd->Bool} {vs:List Vd} {i:Nat} {r:Int} {v:Vd} (h:cX sv vs i r) (hv:vs[i]?=some v) (hs:sv v=false):cX sv vs (i+1) r:=by
 unfold cX;rw[eS hv];simp only[de,hs,Bool.false_and,Bool.false_eq_true,if_false];exact h
theorem cX.first {sv:Vd->Bool} {vs:List Vd} {i:Nat} {v:Vd} (h:db sv (vs.take i)=none) (hv:vs[i]?=some v) (hs:sv v=true):cX sv vs (i+1) i:=by
 refine .inr ⟨i,v,rfl,(Fk.1 hv).1,hv,?_⟩;rw[eS hv,h];simp[de,hs]
theorem cX.new {sv:Vd->Bool} {vs:List Vd} {i:Nat} {v u:Vd} (h:db sv (vs.take i)=some u) (hv:vs[i]?=some v) (hs:sv v=true) (hb:eY v u=true):cX sv vs (i+1) i:=by
 refine .inr ⟨i,v,rfl,(Fk.1 hv).1,hv,?_⟩;rw[eS hv,h];simp[de,hs,hb]
theorem cX.old {sv:Vd->Bool} {vs:List Vd} {i j:Nat} {v u:Vd} (hj:vs[j]?=some u) (h:db sv (vs.take i)=some u) (hv:vs[i]?=some v) (hb:eY v u=false):cX sv vs (i+1) j:=by
 refine .inr ⟨j,u,rfl,(Fk.1 hj).1,hj,?_⟩;rw[eS hv,h];simp[de,hb]

theorem uA (v:Vd) (va:Option Addr) (vl vc:Nat) (n':ByteArray) (c':Int) (k':ByteArray) (x':Bool) (v':ByteArray) (t:ByteArray) (w:World) {b:Bool} (h:svV c' k' x' t v=b):
  Calls Tryz.prog 172 #[.agg #[.string v.n,.int .i64 v.c,.string v.z,.string v.k,.bool v.x,.string v.m,.bool v.y,.slice va vl vc],.agg #[.string n',.int .i64 c',.string k',.bool x',.string v'],.string t] w fun e w'=>e=.returned (.bool b)/\Below w.heap.size w w':=by
 subst h;exact Al v.n v.c v.z v.k v.x v.m v.y va vl vc n' c' k' x' v' t w

theorem pD (a:Option Addr) (len cap:Nat) (vs:List Vd) (n':ByteArray) (c':Int) (k':ByteArray) (x':Bool) (v':ByteArray) (t:ByteArray) (w:World) (hr:eE w a len cap vs):
  Calls Tryz.prog 134 #[.slice a len cap,.agg #[.string n',.int .i64 c',.string k',.bool x',.string v'],.string t] w fun e w'=> ∃r:Int,e=.returned (.int .i64 r)/\cX (svV c' k' x' t) vs len r/\Below w.heap.size w w':=by
 have HR:=aa hr;have hvl:=hr.1;have hlc:=Fx hr.2.1 hr.2.2.1;clear hr;go_enter Tryz.func134,Tryz.ntmps134;go_wp2;go_loopw [7,8] (fun vk vi wr=> ∃(i:Nat) (r:Int),i<=len/\vk=.int .i64 r/\vi=.int .i64 i/\Hid (cX (svV c' k' x' t) vs i r)/\Hid (wr.heap[w.heap.size]?=some (.cells #[.string n',.int .i64 c',.string k',.bool x',.string v'] 105 (0,0)))/\Hid (Below w.heap.size w wr)) (fun _ vi _=>len - (intOf vi).toNat);case atStart=>exact⟨0,-1,by omega,rfl,rfl,.inl ⟨rfl,rfl⟩,FB,al _ _⟩
 case round=>
  obtain⟨i,r,hi,rfl,rfl,HA,HG,HB⟩:=hrel;by_cases hlt:i<len;case neg=>
   obtain rfl:i=len:=af
   go_wp2;go_ret;exact⟨r,rfl,HA.out,HB.out⟩
  obtain⟨b,o,v,rfl,hb,hv,-,va,vl,vc,-,p0,p1,p2,p3,p4,p5,p6,p7⟩:=(HR.below HB.out).at hlt;have hgl:=ae HG.out;have HV:=aa hv;have hne:=Wd.ne wr;have e0:∀q:Wd wr,q.w.cell? ⟨b,o+i*8,none⟩=some (.string v.n):=fun q=>(q.cell hb).trans p0;have e1:∀q:Wd wr,q.w.cell? ⟨b,o+i*8+1,none⟩=some (.int .i64 v.c):=fun q=>(q.cell hb).trans p1;have e2:∀q:Wd wr,q.w.cell? ⟨b,o+i*8+2,none⟩=some (.string v.z):=fun q=>(q.cell hb).trans p2;have e3:∀q:Wd wr,q.w.cell? ⟨b,o+i*8+3,none⟩=some (.string v.k):=fun q=>(q.cell hb).trans p3;have e4:∀q:Wd wr,q.w.cell? ⟨b,o+i*8+4,none⟩=some (.bool v.x):=fun q=>(q.cell hb).trans p4;have e5:∀q:Wd wr,q.w.cell? ⟨b,o+i*8+5,none⟩=some (.string v.m):=fun q=>(q.cell hb).trans p5;have e6:∀q:Wd wr,q.w.cell? ⟨b,o+i*8+6,none⟩=some (.bool v.y):=fun q=>(q.cell hb).trans p6;have e7:∀q:Wd wr,q.w.cell? ⟨b,o+i*8+7,none⟩=some (.slice va vl vc):=fun q=>(q.cell hb).trans p7;have d0:∀q:Wd wr,q.w.cell? ⟨w.heap.size,0,none⟩=some (.string n'):=fun q=>q.slot HG.out rfl;have d1:∀q:Wd wr,q.w.cell? ⟨w.heap.size,1,none⟩=some (.int .i64 c'):=fun q=>q.slot HG.out rfl;have d2:∀q:Wd wr,q.w.cell? ⟨w.heap.size,2,none⟩=some (.string k'):=fun q=>q.slot HG.out rfl;have d3:∀q:Wd wr,q.w.cell? ⟨w.heap.size,3,none⟩=some (.bool x'):=fun q=>q.slot HG.out rfl;have d4:∀q:Wd wr,q.w.cell? ⟨w.heap.size,4,none⟩=some (.string v'):=fun q=>q.slot HG.out rfl;clear hv p2 p3 p4 p5 p6 p7;cases hs:svV c' k' x' t v
  ·have HF:=aa (fun q:Wd wr=>uA v va vl vc n' c' k' x' v' t q.w hs);have HS:=aa hs;clear hs p0 p1;go_wp2_with fail;refine ag ar ar ?_;repeat (go_big_quiet_step (first|(go_at_call 172;exact Calls.wide (HF.out _))|fail))
   refine wpQuiet_nil ?_;rintro _ ⟨q,rfl⟩;go_wp2_with fail;exact⟨⟨i+1,_,by omega,rfl,by go_num,HA.no HV.out HS.out,(q.b.block _ hgl).trans HG.out,HB.trans (q.b.mono HB.size)⟩,by simp[intOf];omega⟩
  have HF:=aa (fun q:Wd wr=>uA v va vl vc n' c' k' x' v' t q.w hs);have HS:=aa hs;clear hs;rcases HA.out with ⟨rfl,hn⟩|⟨j,u,rfl,hj,hu,hbu⟩
  ·have HN:=aa hn;clear hn p0 p1;go_wp2_with fail;refine ag ar ar ?_;repeat (go_big_quiet_step (first|(go_at_call 172;exact Calls.wide (HF.out _))|fail))
   refine wpQuiet_nil ?_;rintro _ ⟨q,rfl⟩;go_wp2_with fail;exact⟨⟨i+1,_,by omega,rfl,by go_num,cX.first HN.out HV.out HS.out,(q.b.block _ hgl).trans HG.out,HB.trans (q.b.mono HB.size)⟩,by simp[intOf];omega⟩
  obtain⟨b2,o2,u2,e2,hb2,hu2,-,ua,ul,uc,-,s0,s1,-,-,-,-,-,-⟩:=(HR.below HB.out).at (j:=j) af;rw[hu] at hu2;obtain rfl:=Fo hu2;cases e2;have g0:∀q:Wd wr,q.w.cell? ⟨b,o+j*8,none⟩=some (.string u.n):=fun q=>(q.cell hb).trans s0;have g1:∀q:Wd wr,q.w.cell? ⟨b,o+j*8+1,none⟩=some (.int .i64 u.c):=fun q=>(q.cell hb).trans s1;have HBU:=aa hbu;have HU:=aa hu;have hj0:¬(j:Int)<0:=af
  have hj1:decide ((j:Int)<0)=false:=aR
  have hjl:(j:Int)<len:=af
  clear hu hu2 hbu s0 s1 p0 p1 hb2;by_cases h1:v.c<u.c
  ·have q1:decide (v.c<u.c)=true:=by simpa using h1
   have HX:=aa (show eY v u=true by simp[eY,h1]);exact CH
  have q1:decide (v.c<u.c)=false:=by simpa using h1
  by_cases h2:v.c=u.c;case neg=>
   have q2:(v.c==u.c)=false:=by simpa using h2
   have HX:=aa (show eY v u=false by simp[eY,h1,h2]);exact CI
  have q2:(v.c==u.c)=true:=by simpa using h2
  cases q3:Fz v.n.toList u.n.toList
  ·have HX:=aa (show eY v u=false by simp[eY,h1,q3]);exact CI
  ·have HX:=aa (show eY v u=true by simp[eY,h2,q3]);clear h2;exact CH

theorem zf {n':ByteArray} (h:n'.size<=18):(⟨#[118,95]⟩:ByteArray).size+n'.size<=9223372036854775807:=by rw[show (⟨#[118,95]⟩:ByteArray).size=2 from rfl];omega

theorem uC (n':ByteArray) (c':Int) (k':ByteArray) (x':Bool) (v':ByteArray) (n:ByteArray) (x:Bool) (y:Bool) (z:ByteArray) (t:ByteArray) (w:World) (hn':n'.size<=9223372036854775807) (hm:¬ia n' k' v' n z t):
  Calls Tryz.prog 135 #[.agg #[.string n',.int .i64 c',.string k',.bool x',.string v'],.agg #[.string n,.bool x,.bool y,.string z],.string t] w fun e w'=>e=.returned (.tuple #[.agg #[.string ⟨#[]⟩,.int .i64 0,.string ⟨#[]⟩,.string ⟨#[]⟩,.bool false,.string ⟨#[]⟩,.bool false,.slice none 0 0],.bool false])/\Below w.heap.size w w':=by
 have HM:=aa hm;clear hm;by_cases h0:k'=n;case neg=>
  have q0:=bB h0;clear h0;exact lg
 have q0:=a9 h0;have H0:=aa h0;clear h0;by_cases h1:v'=⟨#[]⟩;case neg=>
  have q1:=bc h1;clear h1;exact lg
 have q1:=(dP v').2 h1;have H1:=aa h1;clear h1;by_cases h3:18<n'.size
 ·by_cases h2:z=⟨#[]⟩
  ·have q2:=(dP z).2 h2;clear h2;exact lg
  ·have q2:=bc h2;by_cases h4:z=t
   ·have q4:=a9 h4;clear h4 h2;exact lg
   ·have q4:=bB h4;clear h4 h2;exact lg
 by_cases h2:z=⟨#[]⟩
 ·exact absurd ⟨H0.out,H1.out,.inl h2,by omega⟩ HM.out
 have q2:=bc h2;by_cases h4:z=t
 ·exact absurd ⟨H0.out,H1.out,.inr h4,by omega⟩ HM.out
 have q4:=bB h4;clear h4 h2;exact lg

theorem rZ (n':ByteArray) (c':Int) (k':ByteArray) (x':Bool) (v':ByteArray) (n:ByteArray) (x:Bool) (y:Bool) (z:ByteArray) (t:ByteArray) (w:World) (hm:ia n' k' v' n z t):
  Calls Tryz.prog 135 #[.agg #[.string n',.int .i64 c',.string k',.bool x',.string v'],.agg #[.string n,.bool x,.bool y,.string z],.string t] w fun e w'=>e=.returned (.tuple #[.agg #[.string (aD++n'),.int .i64 c',.string t,.string k',.bool x',.string n',.bool false,.slice none 0 0],.bool true])/\Below w.heap.size w w':=by
 obtain⟨h0,h1,h2,h3⟩:=hm;have q0:=a9 h0;have q1:=(dP v').2 h1;have q5:=zf h3;clear h0 h1;by_cases h4:z=⟨#[]⟩
 ·have q2:=(dP z).2 h4;exact yS
 ·have q2:=bc h4;have q4:=a9 (h2.resolve_left h4);exact yS

end Go.Proofs.YtpejepeekdjfoaaGreatDoor

namespace Go.Proofs.YtpejepeekdjfoaaGreatDoor
open Go.RowKit
namespace Rc
open Mk

theorem gE (w:World) (t t' ty e e':TypeId) (i:TypeInfo) (ht:Tryz.prog.underlying t=some (.slice e)) (ht':Tryz.prog.underlying t'=some (.slice e')) (hi:Tryz.prog.info? e=some i) (a:Option Addr) (l c:Nat) (b:Value):(Gw #[t,t'] ty #[.slice a l c,b]).run Tryz.prog w=(Gw #[t,t] ty #[.slice a l c,b]).run Tryz.prog w:=by
 simp[Gw,run_underlying ht,run_underlying ht',sizeOf,typeInfo,hi]
theorem fY {w:World} {ops:Array Oper} {rest:List Oper} {o:Oper} {a:Act} {Q:Exit->Act->World->Prop} (hgd:o.guard=none) (s x:Operand) (t t':TypeId)
  (ho:o.op=.call { callee:=.builtin .append,args:=#[s,x],argTypes:=#[t,t'] })
  (base:Nat) (e e':TypeId) (i:TypeInfo) (z:Value) (size bytes:Nat) (ht:Tryz.prog.underlying t=some (.slice e)) (ht':Tryz.prog.underlying t'=some (.slice e')) (hi:Tryz.prog.info? e=some i) (hz:i.zero=some z)
  (hsize:i.size=size) (hby:i.bytes=bytes) (hzs:z.cells.size=size) (hsz:0<size)
  (v:Value) (n:Nat) (xs:List Value) (hs:a.eval s=v) (hown:w.ownsRow base e size v n xs)
  (ad:Addr) (m c:Nat) (news:List Value) (hx:a.eval x=.slice (some ad) m c) (hl:news.length=m*size) (hnews:∀j u,news[j]?=some u->w.cell? (ad.add j)=some u) (h1:∀u∈news,u.oneCell'=true)
  (h63:n+m<=maxLen) (hbytes:(n+m)*bytes<=140737488355328) (hbase:base<=w.heap.size)
  (h:∀v' w',w'.ownsRow base e size v' (n+m) (xs++news)->w.grownBy w' v.ownBlock->wpList Tryz.prog ops Q rest (a.put o.dst v') w'):wpList Tryz.prog ops Q (o ::rest) a w:=by
 refine wpList_plain hgd fun K hK=>?_;obtain⟨v',w',hr,h2,h3,h4⟩:=run_append_own (P:=Tryz.prog) w base t o.type e i z size bytes ht hi hz hsize hby hzs hsz v n xs hown ad m c news hl hnews h1 h63 hbytes hbase;obtain⟨va,vl,vc,rfl⟩:∃a l c,v=.slice a l c:=by
  exact wL
 rw[<-gE w t t' o.type e e' i ht ht' hi] at hr;exact ym
theorem gF {w:World} {base:Nat} {t ty e:TypeId} {i:TypeInfo} {size:Nat} (ht:Tryz.prog.underlying t=some (.slice e)) (hi:Tryz.prog.info? e=some i) {v:Value} {n:Nat} {xs:List Value} (hown:w.ownsRow base e size v n xs) (ax:Option Addr) (cx:Nat):
  (Gw #[t,t] ty #[v,.slice ax 0 cx]).run Tryz.prog w=.ok v w:=by
 exact Cq
theorem ba {w:World} {ops:Array Oper} {rest:List Oper} {o:Oper} {a:Act} {Q:Exit->Act->World->Prop} (hgd:o.guard=none) (s x:Operand) (t:TypeId)
  (ho:o.op=.call { callee:=.builtin .append,args:=#[s,x],argTypes:=#[t,t] })
  (base:Nat) (e:TypeId) (i:TypeInfo) (z:Value) (size bytes:Nat) (ht:Tryz.prog.underlying t=some (.slice e)) (hi:Tryz.prog.info? e=some i) (hz:i.zero=some z)
  (hsize:i.size=size) (hby:i.bytes=bytes) (hzs:z.cells.size=size) (hsz:0<size)
  (v:Value) (n:Nat) (xs:List Value) (hs:a.eval s=v) (hown:w.ownsRow base e size v n xs)
  (ax:Option Addr) (l c:Nat) (news:List Value) (hx:a.eval x=.slice ax l c) (hl:news.length=l*size) (hnews:∀(j:Nat) u,news[j]?=some u->∃ad:Addr,ax=some ad/\w.cell? (ad.add j)=some u) (h1:∀u∈news,u.oneCell'=true)
  (h63:n+l<=maxLen) (hbytes:(n+l)*bytes<=140737488355328) (hbase:base<=w.heap.size)
  (h:∀v' w',w'.ownsRow base e size v' (n+l) (xs++news)->w.grownBy w' v.ownBlock->wpList Tryz.prog ops Q rest (a.put o.dst v') w'):wpList Tryz.prog ops Q (o ::rest) a w:=by
 rcases news with _|⟨u,news⟩
 ·have hl0:l=0:=by
   rcases Nat.eq_zero_or_pos l with e|e
   ·exact e
   ·have:=Nat.mul_pos e hsz;simp at hl;omega
  subst hl0;refine wpList_plain hgd fun K hK=>?_;have hr:=gF (ty:=o.type) ht hi hown ax c;exact yA
 ·obtain⟨ad,rfl,_⟩:=hnews 0 u rfl;exact fY hgd s x t t ho base e e i z size bytes ht ht hi hz hsize hby hzs hsz v n xs hs hown ad l c (u ::news) hx hl (fun j y hy=>by
   obtain⟨ad',e,h2⟩:=hnews j y hy
   cases e
   exact h2) h1 h63 hbytes hbase h

def RT (zs:List ByteArray):Prop:=zs.Pairwise fun a b=>Fz a.toList b.toList=true
theorem zg {x t:ByteArray} (h:Fz x.toList t.toList=false) (hn:¬x=t):Fz t.toList x.toList=true:=by
 exact xN
def Put (t:ByteArray) (zs zs':List ByteArray):Prop:=(t∈zs/\zs'=zs)\/∃k,k<=zs.length/\zs'=zs.take k++[t]++zs.drop k/\(∀(j:Nat) y,j<k->zs[j]?=some y->Fz y.toList t.toList=true)/\∀y,zs[k]?=some y->Fz t.toList y.toList=true
theorem Put.mem {t:ByteArray} {zs zs':List ByteArray} (h:Put t zs zs') (s:ByteArray):s∈zs'↔s∈zs\/s=t:=by
 rcases h with ⟨h,rfl⟩|⟨k,_,rfl,_,_⟩
 ·exact⟨.inl,fun h1=>h1.elim id (fun e=>e ▸ h)⟩
 ·have h1:s∈zs↔s∈zs.take k\/s∈zs.drop k:=by rw[<-G0,List.take_append_drop]
  rw[G0,G0,GS,h1];constructor
  ·rintro ((h|h)|h)
   ·exact .inl (.inl h)
   ·exact .inr h
   ·exact .inl (.inr h)
  ·rintro ((h|h)|h)
   ·exact .inl (.inl h)
   ·exact .inr h
   ·exact .inl (.inr h)
theorem Put.len {t:ByteArray} {zs zs':List ByteArray} (h:Put t zs zs'):zs'.length<=zs.length+1:=by
 rcases h with ⟨_,rfl⟩|⟨k,hk,rfl,_,_⟩
 ·omega
 ·simp only[F5,FO,GD,List.length_singleton];omega
theorem Put.Fh {t:ByteArray} {zs zs':List ByteArray} (h:Put t zs zs') (hr:RT zs):RT zs':=by
 rcases h with ⟨_,rfl⟩|⟨k,hk,rfl,hlt,hgt⟩
 ·exact hr
 ·have h1:RT (zs.take k++zs.drop k):=by rw[List.take_append_drop];exact hr
  obtain⟨h2,h3,h4⟩:=Hb.1 h1;have h5:∀a∈zs.take k,Fz a.toList t.toList=true:=fun a ha=>by
   obtain⟨j,hj⟩:=FU ha;rw[FP] at hj;split at hj
   ·next hjk=>exact hlt j a hjk hj
   ·cases hj
  have h6:∀a∈zs.drop k,Fz t.toList a.toList=true:=fun a ha=>by
   cases hd:zs.drop k with
   | nil=>rw[hd] at ha;cases ha
   | cons b r=>
    have hb:zs[k]?=some b:=by rw[<-Nat.add_zero k,<-Gj,hd];rfl
    have h7:=hgt b hb;rw[hd] at ha h3
    rcases Gf.1 ha with rfl|ha
    ·exact h7
    ·exact cg _ _ _ h7 ((List.pairwise_cons.1 h3).1 a ha)
  refine Hb.2 ⟨Hb.2 ⟨h2,List.pairwise_singleton _ _,fun a ha b hb=>?_⟩,h3,fun a ha b hb=>?_⟩
  ·rw[GS.1 hb];exact h5 a ha
  ·rcases G0.1 ha with ha|ha
   ·exact cg _ _ _ (h5 a ha) (h6 b hb)
   ·rw[GS.1 ha];exact h6 b hb
def DY (t:ByteArray) (zs:List ByteArray) (w:World) (e:Ending) (w':World):Prop:=∃a' l' c' zs',e=.returned (.slice a' l' c')/\ay w' a' l' c' zs'/\Put t zs zs'/\Below w.heap.size w w'
theorem RT.ext:∀{xs ys:List ByteArray},RT xs->RT ys->(∀s,s∈xs↔s∈ys)->xs=ys
 | [],[],_,_,_=>rfl
 | [],b ::ys,_,_,h=>by have:=(h b).2 (G6 ..);cases this
 | a ::xs,[],_,_,h=>by have:=(h a).1 (G6 ..);cases this
 | a ::xs,b ::ys,hx,hy,h=>by
  obtain⟨x1,x2⟩:=List.pairwise_cons.1 hx;obtain⟨y1,y2⟩:=List.pairwise_cons.1 hy;have hab:a=b:=by
   rcases Gf.1 ((h a).1 (G6 ..)) with e|ha
   ·exact e
   ·rcases Gf.1 ((h b).2 (G6 ..)) with e|hb
    ·exact e.symm
    ·have h9:=cg _ _ _ (y1 a ha) (x1 b hb);rw[da] at h9;cases h9
  subst hab;have ne:∀{l:List ByteArray},(∀s∈l,Fz a.toList s.toList=true)->∀s∈l,¬s=a:=fun hl s hs e=>by
   have h9:=hl s hs;rw[e,da] at h9;cases h9
  rw[RT.ext x2 y2 (fun s=>⟨fun hs=>(Gf.1 ((h s).1 (List.mem_cons_of_mem _ hs))).resolve_left (ne x1 s hs),fun hs=>(Gf.1 ((h s).2 (List.mem_cons_of_mem _ hs))).resolve_left (ne y1 s hs)⟩)]

theorem jy {α:Type} {l:List α} {k j:Nat} {u:α} (h:(l.take k)[j]?=some u):l[j]?=some u:=by
 rw[FP] at h;split at h
 ·exact h
 ·cases h

theorem kO (a:Option Addr) (len cap:Nat) (zs:List ByteArray) (t:ByteArray) (w:World) (hr:ay w a len cap zs) (hl:len<=64) (ht:t.size<=9223372036854775807):
  Calls Tryz.prog 107 #[.slice a len cap,.string t] w (DY t zs w):=by
 have HR:=aa hr;have hlc:=hr.2.1;have hcm:=hr.2.2.1;have hzl:=hr.1;obtain⟨i0,hi,hz0,hz1,hz2⟩:=info_parts fC;have HI0:=aa (Fl hi (Fl hz0 (Fl hz1 hz2)));clear hi hz0 hz1 hz2;have HC:Hid (∀(j:Nat) u,(zs.map FH)[j]?=some u->∃g o9,a=some ⟨g,o9,none⟩/\g<w.heap.size/\w.cell? ⟨g,o9+j,none⟩=some u):=fun j u hu=>by
  rw[FA,FG] at hu;obtain⟨z,hz,rfl⟩:=hu;obtain⟨b,o,x,rfl,hb,hx,hc,hsz⟩:=hr.at (k:=j) cZ;rw[hz] at hx;cases hx;exact⟨b,o,rfl,hb,hc⟩
 have HZS:Hid (∀(k j:Nat) z,(zs.take k++[t]++zs.drop k)[j]?=some z->z.size<=9223372036854775807):=fun k j z hz=>by
  have h1:=FX hz;simp only[G0,GS] at h1;rcases h1 with (h1|rfl)|h1
  ·obtain⟨i,hi⟩:=FU (List.mem_of_mem_take h1);exact hr.2.2.2.1 i z hi
  ·exact ht
  ·obtain⟨i,hi⟩:=FU (List.mem_of_mem_drop h1);exact hr.2.2.2.1 i z hi
 have HON:Hid (∀(l:List ByteArray) u,u∈l.map FH->u.oneCell'=true):=fun l u hu=>by obtain⟨z,_,rfl⟩:=List.mem_map.1 hu;rfl
 have HW:Hid (Below w.heap.size w w):=Ft _ _;clear hr;go_enter Tryz.func107,Tryz.ntmps107;go_wp2;go_loop [5] (fun i=> ∃k:Nat,k<=len/\i=.int .i64 k/\Hid (∀(j:Nat) y,j<k->zs[j]?=some y->Fz y.toList t.toList=true)) (fun i=>len - (intOf i).toNat);case atStart=>exact⟨0,by omega,rfl,fun j y hj=>by omega⟩
 case round=>
  obtain⟨k,hk,rfl,HE⟩:=hrel;by_cases hlt:k<len
  ·obtain⟨b,o,x,rfl,hb,hx,hc,hsz⟩:=HR.at hlt;have HX:=aa hx;clear hx hsz;have hk1:(k:Int)<len:=af
   cases hless:Fz x.toList t.toList
   ·by_cases he:x=t
    ·have HP:Hid (Put t zs zs):=.inl ⟨he ▸ FX HX.out,rfl⟩;have hq:=a9 he;clear he;go_wp2;go_ret;exact⟨_,_,_,_,rfl,HR.out,HP.out,HW.out⟩
    have HP:Hid (Put t zs (zs.take k++[t]++zs.drop k)):=.inr ⟨k,by omega,rfl,HE.out,fun y hy=>by rw[HX.out] at hy;cases hy;exact zg hless he⟩;have hq:=bB he;clear he;obtain⟨HOW,hik,hkn⟩:=BM;have hcap:¬cap=k:=af
    all_goals (
     go_wp2_with (first|(at_builtin;refine ba rfl _ _ 55 rfl w.heap.size 9 i0 (.string ⟨#[]⟩) 1 16 Tryz.underlying55 HI0.1 HI0.2.1 HI0.2.2.1 HI0.2.2.2 rfl aj _ _ _ rfl (HOW.out) _ k _ ((zs.take k).map FH) rfl uO (fun j u hu=>by rw[List.map_take] at hu;obtain⟨g9,o9,e,hgl,h3⟩:=HC.out j u (jy hu);cases e <;> exact⟨_,rfl,by simp only[FQ];exact (ak (al w _) hgl).trans h3⟩) (HON.out _) cC af aR ?_))
     intro v5 w5 hown5 hgr5
     replace hown5:w5.ownsRow w.heap.size 9 1 v5 k ((zs.take k).map FH):=kT
     have hb5:=(al w (.cells #[] 9)).grown hgr5 aR (fun g hg=>by simp[GX] at hg;omega);obtain⟨s1,s2,s3,rfl⟩:=bu hown5;have HO5:=aa hown5;have H5:=aa hb5;have hs5:=hb5.size;clear hown5 hgr5 hb5 HOW
     go_wp2_with (first|(at_builtin;refine ba rfl _ _ 55 rfl w.heap.size 9 i0 (.string ⟨#[]⟩) 1 16 Tryz.underlying55 HI0.1 HI0.2.1 HI0.2.2.1 HI0.2.2.2 rfl aj _ _ _ rfl (HO5.alloc _) _ 1 _ [.string t] rfl rfl (fun j u hu=>⟨_,rfl,by rw[FQ,FV,aw (heap_alloc_new w5 _)];simpa using hu⟩) eT cC af bF ?_))
     intro v6 w6 hown6 hgr6;have hb6:=(H5.alloc H5.size _).grown hgr6 bF (fun g hg=>(HO5.lt g hg).1);obtain⟨r1,r2,r3,rfl⟩:=bu hown6;have HO6:=aa hown6;have H6:=aa hb6;have hs6:=hb6.size;clear hown6 hgr6 hb6
     go_wp2_with (first|(at_builtin;refine ba rfl _ _ 55 rfl w.heap.size 9 i0 (.string ⟨#[]⟩) 1 16 Tryz.underlying55 HI0.1 HI0.2.1 HI0.2.2.1 HI0.2.2.2 rfl aj _ _ _ rfl (HO6.out) _ (len - k) _ ((zs.drop k).map FH) rfl uN (fun j u hu=>by first|(rw[List.drop_eq_nil_of_le af] at hu;simp at hu;done)|(rw[List.map_drop,Gj] at hu;obtain⟨g9,o9,e,hgl,h3⟩:=HC.out _ u hu;cases e <;> exact⟨_,rfl,by simp only[FQ,Nat.add_assoc];exact (ak H6.out hgl).trans h3⟩)) (HON.out _) cC af af ?_))
     intro v7 w7 hown7 hgr7;have hb7:=H6.grown hgr7 af (fun g hg=>(HO6.lt g hg).1)
     replace hown7:w7.ownsRow w.heap.size 9 1 v7 (len+1) ((zs.take k++[t]++zs.drop k).map FH):=by
      have e9:k+1+(len - k)=len+1:=af
      try rw[e9] at hown7
      simpa using hown7
     obtain⟨a',p',rfl,hT⟩:=cy.j6 hown7 (HZS.out k);have HT7:=aa hT;have HB7:=aa hb7;clear hown7 hgr7 hb7 hT hik hkn
     go_wp2
     go_ret
     exact⟨_,_,_,_,rfl,HT7.row,HP.out,HB7.out⟩)
   ·go_wp2;refine⟨⟨k+1,by omega,by go_num,fun j z hj hz=>?_⟩,by simp[intOf];omega⟩;by_cases e:j=k
    ·subst e;rw[HX.out] at hz;obtain rfl:=Fo hz;exact hless
    ·exact HE.out j z af hz
  ·have hk1:¬(k:Int)<len:=af
   have HP:Hid (Put t zs (zs.take k++[t]++zs.drop k)):=.inr ⟨k,by omega,rfl,HE.out,fun y hy=>by have:=(Fk.1 hy).1;omega⟩;obtain⟨HOW,hik,hkn⟩:=BM;rcases a with _|⟨b,o,sp⟩
   ·have hl0:len=0:=GO fun hne0=>by
     obtain⟨g9,o9,e,_⟩:=HC.out 0 _ (by rw[FA,Fs (show 0<zs.length by omega)];rfl);cases e
    obtain rfl:k=0:=af
    subst hl0;by_cases hcap:cap=0;all_goals (
     go_wp2_with (first|(at_builtin;refine ba rfl _ _ 55 rfl w.heap.size 9 i0 (.string ⟨#[]⟩) 1 16 Tryz.underlying55 HI0.1 HI0.2.1 HI0.2.2.1 HI0.2.2.2 rfl aj _ _ _ rfl (HOW.out) _ 0 _ ((zs.take 0).map FH) rfl uO (fun j u hu=>by rw[List.map_take] at hu;obtain⟨g9,o9,e,hgl,h3⟩:=HC.out j u (jy hu);cases e <;> exact⟨_,rfl,by simp only[FQ];exact (ak (al w _) hgl).trans h3⟩) (HON.out _) cC af aR ?_))
     intro v5 w5 hown5 hgr5
     replace hown5:w5.ownsRow w.heap.size 9 1 v5 0 ((zs.take 0).map FH):=kT
     have hb5:=(al w (.cells #[] 9)).grown hgr5 aR (fun g hg=>by simp[GX] at hg;omega);obtain⟨s1,s2,s3,rfl⟩:=bu hown5;have HO5:=aa hown5;have H5:=aa hb5;have hs5:=hb5.size;clear hown5 hgr5 hb5 HOW
     go_wp2_with (first|(at_builtin;refine ba rfl _ _ 55 rfl w.heap.size 9 i0 (.string ⟨#[]⟩) 1 16 Tryz.underlying55 HI0.1 HI0.2.1 HI0.2.2.1 HI0.2.2.2 rfl aj _ _ _ rfl (HO5.alloc _) _ 1 _ [.string t] rfl rfl (fun j u hu=>⟨_,rfl,by rw[FQ,FV,aw (heap_alloc_new w5 _)];simpa using hu⟩) eT cC af bF ?_))
     intro v6 w6 hown6 hgr6;have hb6:=(H5.alloc H5.size _).grown hgr6 bF (fun g hg=>(HO5.lt g hg).1);obtain⟨r1,r2,r3,rfl⟩:=bu hown6;have HO6:=aa hown6;have H6:=aa hb6;have hs6:=hb6.size;clear hown6 hgr6 hb6
     go_wp2_with (first|(at_builtin;refine ba rfl _ _ 55 rfl w.heap.size 9 i0 (.string ⟨#[]⟩) 1 16 Tryz.underlying55 HI0.1 HI0.2.1 HI0.2.2.1 HI0.2.2.2 rfl aj _ _ _ rfl (HO6.out) _ (0 - 0) _ ((zs.drop 0).map FH) rfl uN (fun j u hu=>by first|(rw[List.drop_eq_nil_of_le af] at hu;simp at hu;done)|(rw[List.map_drop,Gj] at hu;obtain⟨g9,o9,e,hgl,h3⟩:=HC.out _ u hu;cases e <;> exact⟨_,rfl,by simp only[FQ,Nat.add_assoc];exact (ak H6.out hgl).trans h3⟩)) (HON.out _) cC af af ?_))
     intro v7 w7 hown7 hgr7;have hb7:=H6.grown hgr7 af (fun g hg=>(HO6.lt g hg).1)
     replace hown7:w7.ownsRow w.heap.size 9 1 v7 (0+1) ((zs.take 0++[t]++zs.drop 0).map FH):=by
      have e9:0+1+(0 - 0)=0+1:=af
      try rw[e9] at hown7
      simpa using hown7
     obtain⟨a',p',rfl,hT⟩:=cy.j6 hown7 (HZS.out 0);have HT7:=aa hT;have HB7:=aa hb7;clear hown7 hgr7 hb7 hT hik hkn
     go_wp2
     go_ret
     exact⟨_,_,_,_,rfl,HT7.row,HP.out,HB7.out⟩)
   by_cases hcap:cap=k;all_goals (
    go_wp2_with (first|(at_builtin;refine ba rfl _ _ 55 rfl w.heap.size 9 i0 (.string ⟨#[]⟩) 1 16 Tryz.underlying55 HI0.1 HI0.2.1 HI0.2.2.1 HI0.2.2.2 rfl aj _ _ _ rfl (HOW.out) _ k _ ((zs.take k).map FH) rfl uO (fun j u hu=>by rw[List.map_take] at hu;obtain⟨g9,o9,e,hgl,h3⟩:=HC.out j u (jy hu);cases e <;> exact⟨_,rfl,by simp only[FQ];exact (ak (al w _) hgl).trans h3⟩) (HON.out _) cC af aR ?_))
    intro v5 w5 hown5 hgr5
    replace hown5:w5.ownsRow w.heap.size 9 1 v5 k ((zs.take k).map FH):=kT
    have hb5:=(al w (.cells #[] 9)).grown hgr5 aR (fun g hg=>by simp[GX] at hg;omega);obtain⟨s1,s2,s3,rfl⟩:=bu hown5;have HO5:=aa hown5;have H5:=aa hb5;have hs5:=hb5.size;clear hown5 hgr5 hb5 HOW
    go_wp2_with (first|(at_builtin;refine ba rfl _ _ 55 rfl w.heap.size 9 i0 (.string ⟨#[]⟩) 1 16 Tryz.underlying55 HI0.1 HI0.2.1 HI0.2.2.1 HI0.2.2.2 rfl aj _ _ _ rfl (HO5.alloc _) _ 1 _ [.string t] rfl rfl (fun j u hu=>⟨_,rfl,by rw[FQ,FV,aw (heap_alloc_new w5 _)];simpa using hu⟩) eT cC af bF ?_))
    intro v6 w6 hown6 hgr6;have hb6:=(H5.alloc H5.size _).grown hgr6 bF (fun g hg=>(HO5.lt g hg).1);obtain⟨r1,r2,r3,rfl⟩:=bu hown6;have HO6:=aa hown6;have H6:=aa hb6;have hs6:=hb6.size;clear hown6 hgr6 hb6
    go_wp2_with (first|(at_builtin;refine ba rfl _ _ 55 rfl w.heap.size 9 i0 (.string ⟨#[]⟩) 1 16 Tryz.underlying55 HI0.1 HI0.2.1 HI0.2.2.1 HI0.2.2.2 rfl aj _ _ _ rfl (HO6.out) _ (len - k) _ ((zs.drop k).map FH) rfl uN (fun j u hu=>by first|(rw[List.drop_eq_nil_of_le af] at hu;simp at hu;done)|(rw[List.map_drop,Gj] at hu;obtain⟨g9,o9,e,hgl,h3⟩:=HC.out _ u hu;cases e <;> exact⟨_,rfl,by simp only[FQ,Nat.add_assoc];exact (ak H6.out hgl).trans h3⟩)) (HON.out _) cC af af ?_))
    intro v7 w7 hown7 hgr7;have hb7:=H6.grown hgr7 af (fun g hg=>(HO6.lt g hg).1)
    replace hown7:w7.ownsRow w.heap.size 9 1 v7 (len+1) ((zs.take k++[t]++zs.drop k).map FH):=by
     have e9:k+1+(len - k)=len+1:=af
     try rw[e9] at hown7
     simpa using hown7
    obtain⟨a',p',rfl,hT⟩:=cy.j6 hown7 (HZS.out k);have HT7:=aa hT;have HB7:=aa hb7;clear hown7 hgr7 hb7 hT hik hkn
    go_wp2
    go_ret
    exact⟨_,_,_,_,rfl,HT7.row,HP.out,HB7.out⟩)

def fL (c:Cl) (zs:List ByteArray) (s:ByteArray):Prop:=∃(j:Nat) (t:ByteArray) (v:Vd),zs[j]?=some t/\bI c t v/\v.n=s
theorem bI.name {c:Cl} {t:ByteArray} {v v':Vd} (hx:aP Xd.n c.xs) (h:bI c t v) (h':bI c t v'):v.n=v'.n:=by
 obtain⟨i,j,x,h1,h2,h3,h4⟩:=h;obtain⟨i',j',x',k1,k2,k3,k4⟩:=h';obtain⟨_,rfl⟩:=hx.inj h1 k1 (h2.trans k2.symm);rw[h4,k4]
theorem fL.snoc {c:Cl} {cs:List ByteArray} {t s:ByteArray} :fL c (cs++[t]) s↔fL c cs s\/∃v,bI c t v/\v.n=s:=by
 constructor
 ·rintro⟨j,t',v,h1,h2,h3⟩;rw[List.getElem?_append] at h1;split at h1
  ·exact .inl ⟨j,t',v,h1,h2,h3⟩
  ·have h4:=FX h1;rw[GS] at h4;subst h4;exact .inr ⟨v,h2,h3⟩
 ·rintro (⟨j,t',v,h1,h2,h3⟩|⟨v,h2,h3⟩)
  ·exact⟨j,t',v,by rw[FK (Fk.1 h1).1];exact h1,h2,h3⟩
  ·exact⟨cs.length,t,v,by simp,h2,h3⟩
theorem zT {c:Cl} {cs zs:List ByteArray} {t:ByteArray} {v:Vd} {s:ByteArray} (hx:aP Xd.n c.xs) (hb:bI c t v):((s∈zs\/fL c cs s)\/s=v.n)↔(s∈zs\/fL c (cs++[t]) s):=by
 rw[fL.snoc];constructor
 ·rintro ((h|h)|rfl)
  ·exact .inl h
  ·exact .inr (.inl h)
  ·exact .inr (.inr ⟨v,hb,rfl⟩)
 ·rintro (h|h|⟨v',h1,rfl⟩)
  ·exact .inl (.inl h)
  ·exact .inl (.inr h)
  ·exact .inr (h1.name hx hb)
theorem A9 {c:Cl} {cs zs:List ByteArray} {t s:ByteArray} (hb:∀v,¬bI c t v):(s∈zs\/fL c cs s)↔(s∈zs\/fL c (cs++[t]) s):=by
 rw[fL.snoc];constructor
 ·rintro (h|h)
  ·exact .inl h
  ·exact .inr (.inl h)
 ·rintro (h|h|⟨v',h1,_⟩)
  ·exact .inl h
  ·exact .inr h
  ·exact absurd h1 (hb v')
theorem kQ (d:Ad) (c:Cl) (t:ByteArray) (w:World) (hr:aJ w d c.raw) (hT:aB c) {j:Nat} {v:Vd} (hv:c.vs[j]?=some v) (hb:bI c t v):
  Calls Tryz.prog 102 #[.agg #[.slice d.a1 d.l1 d.c1,.slice d.a2 d.l2 d.c2,.slice d.a3 d.l3 d.c3,.slice d.a4 d.l4 d.c4,.slice d.a5 d.l5 d.c5,.int .i64 c.now],.string t] w fun e w'=>e=.returned (.int .i64 j)/\Below w.heap.size w w':=by
 refine (fA d c t w hr hT.2.1.2.2.2.1.2.2 hT.2.1.2.2.1.2.2 (fun j v hv e=>by have h9:=(hT.2.1.2.2.1.2.1 j v hv).1;rw[e] at h9;have h8:=h9.1;revert h8;decide)).mono ?_;rintro e w' ⟨hb2,⟨j',v',h1,h2,rfl⟩|⟨hno,rfl⟩⟩
 ·obtain⟨rfl,_⟩:=hT.2.1.2.2.1.2.2.inj h1 hv (h2.name hT.2.1.2.2.2.1.2.2 hb);exact⟨rfl,hb2⟩
 ·exact absurd hb (hno v)
theorem m_ (d:Ad) (c:Cl) (t:ByteArray) (w:World) (hr:aJ w d c.raw) (hT:aB c) (hno:∀v,¬bI c t v):
  Calls Tryz.prog 102 #[.agg #[.slice d.a1 d.l1 d.c1,.slice d.a2 d.l2 d.c2,.slice d.a3 d.l3 d.c3,.slice d.a4 d.l4 d.c4,.slice d.a5 d.l5 d.c5,.int .i64 c.now],.string t] w fun e w'=>e=.returned (.int .i64 (-1))/\Below w.heap.size w w':=by
 refine (fA d c t w hr hT.2.1.2.2.2.1.2.2 hT.2.1.2.2.1.2.2 (fun j v hv e=>by have h9:=(hT.2.1.2.2.1.2.1 j v hv).1;rw[e] at h9;have h8:=h9.1;revert h8;decide)).mono ?_;rintro e w' ⟨hb2,⟨j',v',h1,h2,rfl⟩|⟨_,rfl⟩⟩
 ·exact absurd h2 (hno v')
 ·exact⟨rfl,hb2⟩
def D3 (c:Cl) (zs cs:List ByteArray) (w:World) (e:Ending) (w':World):Prop:=∃a' l' c' zs',e=.returned (.slice a' l' c')/\ay w' a' l' c' zs'/\RT zs'/\(∀s,s∈zs'↔s∈zs\/fL c cs s)/\zs'.length<=zs.length+cs.length/\Below w.heap.size w w'

theorem kR (d:Ad) (c:Cl) (a:Option Addr) (len cap:Nat) (zs:List ByteArray) (p:Pd) (va:Option Addr) (vl vc:Nat) (w:World) (hr:aJ w d c.raw) (hT:aB c) (hz:ay w a len cap zs) (hri:RT zs) (hp:ay w va vl vc p.zs) (hl:len+vl<=60):
  Calls Tryz.prog 82 #[.agg #[.slice d.a1 d.l1 d.c1,.slice d.a2 d.l2 d.c2,.slice d.a3 d.l3 d.c3,.slice d.a4 d.l4 d.c4,.slice d.a5 d.l5 d.c5,.int .i64 c.now],.slice a len cap,.agg #[.string p.n,.int .i64 p.c,.string p.z,.slice va vl vc,.string p.d,.int .i64 p.p]] w (D3 c zs p.zs w):=by
 obtain⟨a1,l1,y1,a2,l2,y2,a3,l3,y3,a4,l4,y4,a5,l5,y5⟩:=d;dsimp only;have HR:=aa hr;have HT:=aa hT;have HP:=aa hp;have hpl:=hp.1;have hzl:=hz.1;have HZ0:=aa hz;have HRI:=aa hri;have hll:c.vs.length=l3:=kY
 clear hr hT hp hz hri;go_enter Tryz.func82,Tryz.ntmps82;go_wp2;go_loopw [1,7] (fun vl0 vi wr=> ∃(k:Nat) (ca:Option Addr) (cl cc:Nat) (ys:List ByteArray),k<=vl/\vi=.int .i64 k/\vl0=.slice ca cl cc/\Hid (ay wr ca cl cc ys/\RT ys/\(∀s,s∈ys↔s∈zs\/fL c (p.zs.take k) s)/\ys.length<=zs.length+k)/\Hid (Below ((w.alloc (.cells #[.slice a1 l1 y1,.slice a2 l2 y2,.slice a3 l3 y3,.slice a4 l4 y4,.slice a5 l5 y5,.int .i64 c.now] 36)).alloc (.cells #[.string p.n,.int .i64 p.c,.string p.z,.slice va vl vc,.string p.d,.int .i64 p.p] 64)).heap.size ((w.alloc (.cells #[.slice a1 l1 y1,.slice a2 l2 y2,.slice a3 l3 y3,.slice a4 l4 y4,.slice a5 l5 y5,.int .i64 c.now] 36)).alloc (.cells #[.string p.n,.int .i64 p.c,.string p.z,.slice va vl vc,.string p.d,.int .i64 p.p] 64)) wr)) (fun _ vi _=>vl - (intOf vi).toNat);case atStart=>exact⟨0,a,len,cap,zs,by omega,rfl,rfl,⟨HZ0.below (aF _ _ _),HRI.out,fun s=>⟨.inl,fun h=>h.elim id (fun ⟨j,t,v,h,_⟩=>by simp at h)⟩,by omega⟩,Ft _ _⟩
 case round=>
  obtain⟨k,ca,cl,cc,ys,hk,rfl,rfl,HQ,HL⟩:=hrel;have hb0:=HL.out;obtain⟨HA0,HA1,hbx⟩:=cG hb0;have Bk:=aa HA0;have Bp:=aa HA1;have HB:=aa hbx;clear hb0 HA0 HA1 hbx;have hyl:=HQ.1.1;have hyb:=HQ.2.2.2;by_cases hlt:k<vl
  ·have hk1:(k:Int)<vl:=af
   obtain⟨b,o,t,rfl,hb,hx,hc,hsz⟩:=(HP.below HB.out).at hlt;have HX:=aa hx;clear hx hsz;have HL2:Hid (Bw wr wr):=Bw.refl _;rcases Classical.em (∃v,bI c t v) with ⟨v,hbd⟩|hno
   ·obtain⟨i9,j,x9,h91,h92,hv,h94⟩:=hbd;have hbd:bI c t v:=⟨i9,j,x9,h91,h92,hv,h94⟩;have HVJ:=aa hv;have HBD:=aa hbd;clear h91 h92 h94 hbd hv;obtain⟨k0,k1,k2,k3,k4,k5⟩:=cs6 Bk;obtain⟨p0,p1,p2,p3,p4,p5⟩:=cs6 Bp;go_wp2_with fail;clear k0 k1 k2 k3 k4 k5 p0 p1 p2 p3 p4 p5;have Gk:=Bk;have Gp:=Bp;have HW:=HB;obtain⟨k0,k1,k2,k3,k4,k5⟩:=sl6 Gk;obtain⟨p0,p1,p2,p3,p4,p5⟩:=sl6 Gp;have tc:=fun q:Wd wr=>(q.cell hb).trans hc;have hne0:=Wd.ne wr;have HC0:=aa (fun q:Wd wr=>kQ ⟨a1,l1,y1,a2,l2,y2,a3,l3,y3,a4,l4,y4,a5,l5,y5⟩ c t q.w (HR.below (HW.trans (q.b.mono HW.size))) HT.out HVJ.out HBD.out);go_wp2_with fail;refine ag ar ar ?_;repeat (go_big_quiet_step (first|(go_at_call 102;exact Calls.wide (HC0.out _))|fail))
    refine wpQuiet_nil ?_;rintro _ ⟨q1,rfl⟩;obtain⟨HB1,Ck⟩:=cL;have Cp:=upK Gp q1.b;have CHL2:=aa ((HL2.out).below q1.b);clear hne0 HW HB HC0 k0 k1 k2 k3 k4 k5 p0 p1 p2 p3 p4 p5 tc Gk Gp Bk Bp HL2 hb hc;have HB:=HB1;clear HB1;have HL2:=CHL2;clear CHL2;have Bk:=Ck;clear Ck;have Bp:=Cp;clear Cp;have hv:=HVJ.out;have hj3:j<l3:=by have:=(Fk.1 hv).1;omega
    have hj1:(0:Int)<=j:=af
    have hj2:(j:Int)<l3:=af
    obtain⟨b3,o3,y,rfl,hb3,hy,hat⟩:=bN (HR.v.below HB.out) hj3;rw[hv] at hy;obtain rfl:=Fo hy;obtain⟨ya,yl,yc,-,hz0,-,-,-,hc0,-,-,-,-,-,-,-⟩:=aK hat;clear hv hy hat;obtain⟨k0,k1,k2,k3,k4,k5⟩:=cs6 Bk;obtain⟨p0,p1,p2,p3,p4,p5⟩:=cs6 Bp;go_wp2_with fail;refine (kO ca cl cc ys v.n _ (HQ.1.below HL2.out) af hz0).mono ?_;rintro e w2 ⟨sa,sl,sc,zs2,rfl,htx,hput,hb2⟩;clear k0 k1 k2 k3 k4 k5 p0 p1 p2 p3 p4 p5;replace Bk:=upK Bk hb2;replace Bp:=upK Bp hb2;replace HL2:=aa (HL2.below hb2);replace HB:=upB HB hb2;clear hb2;have HTX:=aa htx;have HPU:=aa hput;clear htx hput hc0 hz0 hb3;obtain⟨k0,k1,k2,k3,k4,k5⟩:=cs6 Bk;obtain⟨p0,p1,p2,p3,p4,p5⟩:=cs6 Bp;go_wp2;refine⟨⟨k+1,sa,sl,sc,zs2,by omega,by go_num,rfl,⟨HTX.out,HPU.Fh HQ.2.1,fun s=>?_,by have h9:=HPU.len;omega⟩,HL.trans (HL2.out.mono HL.size)⟩,by simp[intOf];omega⟩;rw[HPU.mem,HQ.2.2.1,FZ,HX.out,Option.toList_some];exact zT HT.2.1.2.2.2.1.2.2 HBD.out
   ·have HNO:Hid (∀v,¬bI c t v):=fun v h=>hno ⟨v,h⟩;clear hno;obtain⟨k0,k1,k2,k3,k4,k5⟩:=cs6 Bk;obtain⟨p0,p1,p2,p3,p4,p5⟩:=cs6 Bp;go_wp2_with fail;clear k0 k1 k2 k3 k4 k5 p0 p1 p2 p3 p4 p5;have Gk:=Bk;have Gp:=Bp;have HW:=HB;obtain⟨k0,k1,k2,k3,k4,k5⟩:=sl6 Gk;obtain⟨p0,p1,p2,p3,p4,p5⟩:=sl6 Gp;have tc:=fun q:Wd wr=>(q.cell hb).trans hc;have hne0:=Wd.ne wr;have HC0:=aa (fun q:Wd wr=>m_ ⟨a1,l1,y1,a2,l2,y2,a3,l3,y3,a4,l4,y4,a5,l5,y5⟩ c t q.w (HR.below (HW.trans (q.b.mono HW.size))) HT.out HNO.out);go_wp2_with fail;refine ag ar ar ?_;repeat (go_big_quiet_step (first|(go_at_call 102;exact Calls.wide (HC0.out _))|fail))
    refine wpQuiet_nil ?_;rintro _ ⟨q1,rfl⟩;obtain⟨HB1,Ck⟩:=cL;have Cp:=upK Gp q1.b;have CHL2:=aa ((HL2.out).below q1.b);clear hne0 HW HB HC0 k0 k1 k2 k3 k4 k5 p0 p1 p2 p3 p4 p5 tc Gk Gp Bk Bp HL2 hb hc;have HB:=HB1;clear HB1;have HL2:=CHL2;clear CHL2;have Bk:=Ck;clear Ck;have Bp:=Cp;clear Cp;obtain⟨k0,k1,k2,k3,k4,k5⟩:=cs6 Bk;obtain⟨p0,p1,p2,p3,p4,p5⟩:=cs6 Bp;go_wp2;refine⟨⟨k+1,ca,cl,cc,ys,by omega,by go_num,rfl,⟨HQ.1.below HL2.out,HQ.2.1,fun s=>?_,by omega⟩,HL.trans (HL2.out.mono HL.size)⟩,by simp[intOf];omega⟩;rw[HQ.2.2.1,FZ,HX.out,Option.toList_some];exact A9 HNO.out
  have hk1:¬(k:Int)<vl:=af
  have HQ2:=HQ;rw[FD (show p.zs.length<=k by omega)] at HQ2;obtain⟨k0,k1,k2,k3,k4,k5⟩:=cs6 Bk;obtain⟨p0,p1,p2,p3,p4,p5⟩:=cs6 Bp;go_wp2;go_ret;exact⟨_,_,_,ys,rfl,HQ2.1,HQ2.2.1,HQ2.2.2.1,by have:=HQ2.2.2.2;omega,HB.out⟩

def PBs (c:Cl) (t:ByteArray) (k:Nat) (s:ByteArray):Prop:=∃(j:Nat) (p:Pd),j<k/\c.ps[j]?=some p/\p.d=t/\fL c p.zs s
def VBs (c:Cl) (t:ByteArray) (k:Nat) (s:ByteArray):Prop:=∃(j:Nat) (v:Vd),j<k/\c.vs[j]?=some v/\InL v.zs t/\v.n=s
theorem PBs.yes {c:Cl} {t s:ByteArray} {k:Nat} {p:Pd} (hp:c.ps[k]?=some p) (hd:p.d=t):PBs c t (k+1) s↔PBs c t k s\/fL c p.zs s:=by
 constructor
 ·rintro⟨j,q,h1,h2,h3,h4⟩;by_cases e:j=k
  ·subst e;rw[hp] at h2;obtain rfl:=Fo h2;exact .inr h4
  ·exact .inl ⟨j,q,by omega,h2,h3,h4⟩
 ·rintro (⟨j,q,h1,h2,h3,h4⟩|h)
  ·exact⟨j,q,by omega,h2,h3,h4⟩
  ·exact⟨k,p,by omega,hp,hd,h⟩
theorem PBs.no {c:Cl} {t s:ByteArray} {k:Nat} {p:Pd} (hp:c.ps[k]?=some p) (hd:¬p.d=t):PBs c t (k+1) s↔PBs c t k s:=by
 exact yG
theorem VBs.yes {c:Cl} {t s:ByteArray} {k:Nat} {v:Vd} (hp:c.vs[k]?=some v) (hd:InL v.zs t):VBs c t (k+1) s↔VBs c t k s\/s=v.n:=by
 constructor
 ·rintro⟨j,q,h1,h2,h3,h4⟩;by_cases e:j=k
  ·subst e;rw[hp] at h2;obtain rfl:=Fo h2;exact .inr h4.symm
  ·exact .inl ⟨j,q,by omega,h2,h3,h4⟩
 ·rintro (⟨j,q,h1,h2,h3,h4⟩|h)
  ·exact⟨j,q,by omega,h2,h3,h4⟩
  ·exact⟨k,v,by omega,hp,hd,h.symm⟩
theorem VBs.no {c:Cl} {t s:ByteArray} {k:Nat} {v:Vd} (hp:c.vs[k]?=some v) (hd:¬InL v.zs t):VBs c t (k+1) s↔VBs c t k s:=by
 exact yG
def AdF (c:Cl) (zs cs:List ByteArray):Fact:=fun v w=> ∃a' l' c' zs',v=.slice a' l' c'/\ay w a' l' c' zs'/\RT zs'/\(∀s,s∈zs'↔s∈zs\/fL c cs s)/\zs'.length<=zs.length+cs.length
theorem AdF.mono {c:Cl} {zs cs:List ByteArray} :Fact.bD (AdF c zs cs):=by
 rintro v w w' ⟨a',l',c',zs',h1,h2,h3⟩ hb;exact⟨a',l',c',zs',h1,h2.below hb,h3⟩
def D2 (c:Cl) (t:ByteArray) (w:World) (e:Ending) (w':World):Prop:=∃a' l' c' zs',e=.returned (.slice a' l' c')/\ay w' a' l' c' zs'/\RT zs'/\(∀s,s∈zs'↔PBs c t c.ps.length s\/VBs c t c.vs.length s)/\Below w.heap.size w w'

theorem th (d:Ad) (c:Cl) (t:ByteArray) (w:World) (hr:aJ w d c.raw) (hT:aB c):
  Calls Tryz.prog 83 #[.agg #[.slice d.a1 d.l1 d.c1,.slice d.a2 d.l2 d.c2,.slice d.a3 d.l3 d.c3,.slice d.a4 d.l4 d.c4,.slice d.a5 d.l5 d.c5,.int .i64 c.now],.string t] w (D2 c t w):=by
 obtain⟨a1,l1,y1,a2,l2,y2,a3,l3,y3,a4,l4,y4,a5,l5,y5⟩:=d;dsimp only;have HR:=aa hr;have hl2:c.ks.length=l2:=by simpa using (show (c.ks.map kdF).length=l2 from hr.k.1)
 have hl3:c.vs.length=l3:=kY
 have hm3:l3<=9223372036854775807:=Fx hr.v.2.1 hr.v.2.2.1;obtain⟨hl5,hm5⟩:=jL;clear hr;have HT:=aa hT;clear hT;have h58:c.ps.length<=8:=by have:=HT.sm.p;omega
 have h38:c.vs.length<=8:=by have:=HT.sm.v;omega
 go_enter Tryz.func83,Tryz.ntmps83;go_wp2;go_loopw [5,6] (fun vo vi wr=> ∃(k:Nat) (ca:Option Addr) (cl cc:Nat) (ys:List ByteArray),k<=l5/\vi=.int .i64 k/\vo=.slice ca cl cc/\Hid (ay wr ca cl cc ys/\RT ys/\(∀s,s∈ys↔PBs c t k s)/\ys.length<=3*k)/\Hid (Below (w.heap.size+1) (w.alloc (.cells #[.slice a1 l1 y1,.slice a2 l2 y2,.slice a3 l3 y3,.slice a4 l4 y4,.slice a5 l5 y5,.int .i64 c.now] 36)) wr)) (fun _ vi _=>l5 - (intOf vi).toNat);case atStart=>exact⟨0,_,0,0,[],by omega,rfl,rfl,⟨⟨rfl,Fq _,by omega,fun j x hx=>by simp at hx,.inl rfl⟩,List.Pairwise.nil,fun s=>⟨fun h=>by simp at h,fun ⟨j,p,h,_⟩=>by omega⟩,by simp⟩,by first|exact Ft _ _|exact (al _ _).mono aR⟩
 case round=>
  obtain⟨k,ca,cl,cc,ys,hk,rfl,rfl,HQ,HL⟩:=hrel;have Bk:=aa ((HL.block w.heap.size af).trans (heap_alloc_new w (.cells (clo6 a1 l1 y1 a2 l2 y2 a3 l3 y3 a4 l4 y4 a5 l5 y5 c.now) 36)));have HB:=aa ((al w (.cells (clo6 a1 l1 y1 a2 l2 y2 a3 l3 y3 a4 l4 y4 a5 l5 y5 c.now) 36)).trans (HL.mono af));have hyl:=HQ.1.1;have hyb:=HQ.2.2.2;by_cases hlt:k<l5
  ·obtain⟨b,o,x,rfl,hb,hx,hat⟩:=bY (HR.p.below HB.out) hlt;obtain⟨va,vl,vc,hvr,z0,z2,z4,c0,c1,c2,c3,c4,c5⟩:=aS hat;have HXx:=aa hx;have HTx:=aa hvr;have HZx0:=aa z0;clear hat hx z0 z2 z4 hvr;have hbw:=hb;clear hb;have hk1:(k:Int)<l5:=af
   have HL2:Hid (Bw wr wr):=Bw.refl _;by_cases he:x.d=t
   ·have hq:=a9 he;have HHE:=aa he;clear he;obtain⟨k0,k1,k2,k3,k4,k5⟩:=cs6 Bk;go_wp2_with fail;have hv3:vl<=3:=by have h9:(x.zs.length:Int)<=3:=(HT.2.1.2.2.2.2.2.1 k x HXx.out).2.2.2.1.1;have h8:x.zs.length=vl:=HTx.1;omega
    have HCS:=aa (Fl c0 (Fl c1 (Fl c2 (Fl c3 (Fl c4 c5)))));have HBW:=aa hbw;clear c0 c1 c2 c3 c4 c5 hbw;clear k0 k1 k2 k3 k4 k5;rename_i K0 hK0;refine aU ar rfl rfl ar ?_;refine' au.an _ rfl ?_ ?_;rotate_left 1
    ·exact vU
    refine' au.an _ rfl ?_ ?_;rotate_left 1
    ·exact qe
    refine' au.an _ rfl ?_ ?_;rotate_left 1
    ·exact qb
    refine' au.an _ rfl ?_ ?_;rotate_left 1
    ·refine Obl.plain rfl ?_;intro ac wg K hsz hW hf hK;clear hsz;have e26:=hf 26 aj;simp[ai,Fp] at e26;exact jT
    refine' au.an _ rfl ?_ ?_;rotate_left 1
    ·refine Obl.plain rfl ?_;intro ac wg K hsz hW hf hK;clear hsz;have e6:=hf 6 aj;simp[ai,Fp] at e6;clear hf;exact aT
    refine' au.an _ rfl ?_ ?_;rotate_left 1
    ·refine Obl.plain rfl ?_;intro ac wg K hsz hW hf hK;clear hsz;have e27:=hf 27 aj;simp[ai,Fp] at e27;have e28:=hf 28 aj;simp[ai,Fp] at e28;clear hf;have hk1:(k:Int)<l5:=af
     exact aT
    refine' au.an _ rfl ?_ ?_;rotate_left 1
    ·refine Obl.plain rfl ?_;intro ac wg K hsz hW hf hK;clear hsz;have e29:=hf 29 aj;simp[ai,Fp] at e29;clear hf;obtain⟨d0,d1,d2,d3,d4,d5⟩:=HCS.out;replace d0:=(ak hW HBW.out).trans d0;replace d1:=(ak hW HBW.out).trans d1;replace d2:=(ak hW HBW.out).trans d2;replace d3:=(ak hW HBW.out).trans d3;replace d4:=(ak hW HBW.out).trans d4;replace d5:=(ak hW HBW.out).trans d5;exact aT
    refine au.step (AdF c ys x.zs) rfl (AdF.mono) ?_ ?_
    ·refine Obl.plain rfl ?_;intro ac wg K hsz hW hf hK;clear hsz;have e24:=hf 24 aj;simp[ai,Fp] at e24;have e25:=hf 25 aj;simp[ai,Fp] at e25;have e30:=hf 30 aj;simp[ai,Fp] at e30;clear hf;go_simp;refine (kR ⟨a1,l1,y1,a2,l2,y2,a3,l3,y3,a4,l4,y4,(some ⟨b,o,none⟩),l5,y5⟩ c ca cl cc ys x va vl vc _ (HR.below (HB.trans (hW.mono HB.size))) HT.out (HQ.1.below hW) HQ.2.1 (HTx.below hW) af).mono ?_;rintro e w6 ⟨sa,sl,sc,zs2,rfl,htx,hri2,hmm2,hl2,hb6⟩;exact hK _ _ hb6 ⟨sa,sl,sc,zs2,rfl,htx,hri2,hmm2,hl2⟩
    refine au.done ?_;intro q w1 hW hf;simp only[FJ] at hf;obtain⟨⟨sa,sl,sc,zs2,h31,htx,hri2,hmm2,hl2⟩,-⟩:=hf;have hb2:=hW;intro K hK;rw[if_pos bJ];simp only[aE,Gd,GG,Fy,FF,FL,h31];simp only[List.getLast];go_simp;refine hK _ _ ?_;refine hK0 _ _ ?_;clear hK hK0 K K0;replace Bk:=upK Bk hb2;replace HL2:=aa (HL2.below hb2);replace HB:=upB HB hb2;clear hb2;clear hW HCS HBW;have HTX:=aa (Fl htx (Fl hri2 hmm2));have hxz:=HTx.1;clear htx hri2 hmm2;obtain⟨k0,k1,k2,k3,k4,k5⟩:=cs6 Bk;go_wp2;refine⟨⟨k+1,sa,sl,sc,zs2,by omega,by go_num,rfl,⟨HTX.1,HTX.2.1,fun s=>?_,by omega⟩,HL.trans (HL2.out.mono (by have h8:=HL.size;rw[dH] at h8;exact h8))⟩,by simp[intOf];omega⟩;rw[HTX.2.2,HQ.2.2.1,PBs.yes HXx.out HHE.out]
   have hq:=bB he;have HHE:=aa he;clear he;obtain⟨k0,k1,k2,k3,k4,k5⟩:=cs6 Bk;go_wp2;refine⟨⟨k+1,ca,cl,cc,ys,by omega,by go_num,rfl,⟨HQ.1,HQ.2.1,fun s=>?_,by omega⟩,HL.out⟩,by simp[intOf];omega⟩;rw[HQ.2.2.1,PBs.no HXx.out HHE.out]
  have hkl:k=l5:=af
  have hk1:¬(k:Int)<l5:=af
  clear hlt HL;obtain⟨W1,hW1⟩:∃W1,W1=wr:=⟨_,rfl⟩;subst hW1;obtain⟨k0,k1,k2,k3,k4,k5⟩:=cs6 Bk;go_wp2;clear k0 k1 k2 k3 k4 k5;go_loopw [5,7] (fun vo vi wr=> ∃(m2:Nat) (ca:Option Addr) (cl cc:Nat) (ys:List ByteArray),m2<=l3/\vi=.int .i64 m2/\vo=.slice ca cl cc/\Hid (ay wr ca cl cc ys/\RT ys/\(∀s,s∈ys↔PBs c t k s\/VBs c t m2 s)/\ys.length<=3*k+m2)/\Hid (Below W1.heap.size W1 wr)) (fun _ vi _=>l3 - (intOf vi).toNat);case atStart=>exact⟨0,_,_,_,ys,by omega,rfl,rfl,⟨HQ.1,HQ.2.1,fun s=>by rw[HQ.2.2.1];exact⟨.inl,fun h=>h.elim id (fun ⟨j,p,h,_⟩=>by omega)⟩,by omega⟩,Ft _ _⟩
  case round=>
   clear HQ hyl hyb;obtain⟨m2,ca,cl,cc,ys,hmm2,rfl,rfl,HQ,HL⟩:=hrel;replace Bk:=aa ((HL.block _ (ae Bk.out)).trans Bk.out);replace HB:=aa (HB.trans (HL.mono HB.size));have hyl:=HQ.1.1;have hyb:=HQ.2.2.2;by_cases hlt:m2<l3
   ·obtain⟨b,o,x,rfl,hb,hx,hat⟩:=bN (HR.v.below HB.out) hlt;obtain⟨va,vl,vc,hvr,z0,z2,z3,z5,c0,c1,c2,c3,c4,c5,c6,c7⟩:=aK hat;have HXx:=aa hx;have HTx:=aa hvr;have HZx0:=aa z0;clear hat hx z0 z2 z3 z5 hvr;have hbw:=hb;clear hb;have hk3:(m2:Int)<l3:=af
    have HL2:Hid (Bw wr wr):=Bw.refl _;obtain⟨k0,k1,k2,k3,k4,k5⟩:=cs6 Bk;go_wp2_with fail;refine (di va vl vc x.zs t _ HTx.out).mono ?_;rintro e w1 ⟨r,rfl,hh,hb2⟩;have hc0:=(ak hb2 hbw).trans c0;clear c0 c1 c2 c3 c4 c5 c6 c7 hbw;clear k0 k1 k2 k3 k4 k5;replace Bk:=upK Bk hb2;replace HL2:=aa (HL2.below hb2);replace HB:=upB HB hb2;clear hb2;cases r
    ·have HHN:Hid (¬InL x.zs t):=fun h=>(by have h9:=hh.2 h;cases h9);clear hh;obtain⟨k0,k1,k2,k3,k4,k5⟩:=cs6 Bk;go_wp2;refine⟨⟨m2+1,ca,cl,cc,ys,by omega,by go_num,rfl,⟨HQ.1.below HL2.out,HQ.2.1,fun s=>?_,by omega⟩,HL.trans (HL2.out.mono HL.size)⟩,by simp[intOf];omega⟩;rw[HQ.2.2.1,VBs.no HXx.out HHN.out]
    have HHN:Hid (InL x.zs t):=hh.1 ct;clear hh;obtain⟨k0,k1,k2,k3,k4,k5⟩:=cs6 Bk;go_wp2_with fail;refine (kO ca cl cc ys x.n _ (HQ.1.below HL2.out) af HZx0.out).mono ?_;rintro e w2 ⟨sa,sl,sc,zs2,rfl,htx,hput,hb2⟩;clear k0 k1 k2 k3 k4 k5;replace Bk:=upK Bk hb2;replace HL2:=aa (HL2.below hb2);replace HB:=upB HB hb2;clear hb2;have HTX:=aa htx;have HPU:=aa hput;clear htx hput hc0;obtain⟨k0,k1,k2,k3,k4,k5⟩:=cs6 Bk;go_wp2;refine⟨⟨m2+1,sa,sl,sc,zs2,by omega,by go_num,rfl,⟨HTX.out,HPU.Fh HQ.2.1,fun s=>?_,by have h9:=HPU.len;omega⟩,HL.trans (HL2.out.mono HL.size)⟩,by simp[intOf];omega⟩;rw[HPU.mem,HQ.2.2.1,VBs.yes HXx.out HHN.out,or_assoc]
   have hk3:¬(m2:Int)<l3:=af
   have hkl2:m2=l3:=af
   obtain⟨k0,k1,k2,k3,k4,k5⟩:=cs6 Bk;go_wp2;go_ret;exact⟨_,_,_,ys,rfl,HQ.1,HQ.2.1,by rw[hl5,hl3,<-hkl,<-hkl2];exact HQ.2.2.1,HB.out⟩

theorem aP.rt {α:Type} {nm:α->ByteArray} {xs:List α} (h:aP nm xs):RT (xs.map nm):=by
 unfold RT;rw[List.pairwise_iff_getElem];intro i j hi hj hij;rw[List.getElem_map,List.getElem_map];rw[FR] at hi hj;exact h.lt hij (Fs hi) (Fs hj)
theorem dK.rt {c:Cl} {t:ByteArray} (h:aP Vd.n c.vs):RT (dK c t c.vs):=List.Pairwise.sublist (List.filter_sublist.map _) h.rt
theorem gS {x:ByteArray} (h:aO x):¬x=⟨#[]⟩:=fun e=>by
 rw[e] at h;have h8:=h.1;revert h8;decide
theorem zN {c:Cl} {t:ByteArray} {zs:List ByteArray} (hT:aB c) (hr:RT zs) (hm:∀s,s∈zs↔PBs c t c.ps.length s\/VBs c t c.vs.length s):zs=dK c t c.vs:=by
 have hv:=hT.2.1.2.2.1.2.2;refine hr.ext (dK.rt hv) (fun s=>?_);rw[hm];unfold dK;rw[List.mem_map];constructor
 ·rintro (⟨j,p,_,hp,hd,k,cl,v,hk,hb,rfl⟩|⟨j,v,_,h2,h3,rfl⟩)
  ·obtain⟨i,jv,x,h1,h2,h3,h4⟩:=hb;have hne:¬x.v=⟨#[]⟩:=by rw[<-h4];exact gS (hT.2.1.2.2.1.2.1 jv v h3).1
   obtain⟨i',j',x',v',k1,k2,k3,k4,k5,k6,_⟩:=(hT.2.2.1.2 i x h1).2.resolve_left hne;obtain⟨_,rfl⟩:=hv.inj k3 h3 (k4.trans h4.symm);refine⟨v',List.mem_filter.2 ⟨FX h3,?_⟩,rfl⟩;unfold onB;rw[Bool.or_eq_true];refine .inr (dx.2 ⟨j,p,hp,hd,k,?_⟩);rw[hk,k6,h2]
  ·exact xX
 ·rintro⟨v,h1,rfl⟩;obtain⟨h2,h3⟩:=List.mem_filter.1 h1;obtain⟨jv,hj⟩:=FU h2;unfold onB at h3;rw[Bool.or_eq_true] at h3;rcases h3 with h3|h3
  ·exact .inr ⟨jv,v,(Fk.1 hj).1,hj,eO.1 h3,rfl⟩
  ·obtain⟨j,p,hp,hd,k,hk⟩:=dx.1 h3;have hz:=(hT.2.1.2.2.2.2.2.1 j p hp).2.2.2.1.2;have hne:=gS (hz k v.m hk).1;obtain⟨i',j',x',v',k1,k2,k3,k4,k5,k6,_⟩:=(hT.2.2.1.1 jv v hj).2.resolve_left hne;exact .inl ⟨j,p,(Fk.1 hp).1,hp,hd,k,v.m,v,hk,⟨i',jv,x',k1,k2,hj,k5.symm⟩,rfl⟩

theorem ko {c:Cl} {zs:List ByteArray} {s:ByteArray} (hT:aB c) (hz:∀(k:Nat) z,zs[k]?=some z->aO z):fL c zs s↔∃(j:Nat) (v:Vd),c.vs[j]?=some v/\v.n=s/\InL zs v.m:=by
 have hv:=hT.2.1.2.2.1.2.2;constructor
 ·rintro⟨k,cl,v,hk,⟨i,jv,x,h1,h2,h3,h4⟩,rfl⟩;have hne:¬x.v=⟨#[]⟩:=by rw[<-h4];exact gS (hT.2.1.2.2.1.2.1 jv v h3).1
  obtain⟨i',j',x',v',k1,k2,k3,k4,k5,k6,_⟩:=(hT.2.2.1.2 i x h1).2.resolve_left hne;obtain⟨_,rfl⟩:=hv.inj k3 h3 (k4.trans h4.symm);exact⟨jv,v',h3,rfl,k,by rw[hk,k6,h2]⟩
 ·rintro⟨jv,v,hj,rfl,k,hk⟩;have hne:=gS (hz k v.m hk);obtain⟨i',j',x',v',k1,k2,k3,k4,k5,k6,_⟩:=(hT.2.2.1.1 jv v hj).2.resolve_left hne;exact⟨k,v.m,v,hk,⟨i',jv,x',k1,k2,hj,k5.symm⟩,rfl⟩
theorem Aw {c:Cl} {t s:ByteArray} (hT:aB c):PBs c t c.ps.length s↔∃(j:Nat) (v:Vd),c.vs[j]?=some v/\v.n=s/\∃(k:Nat) (p:Pd),c.ps[k]?=some p/\jb p t v.m:=by
 constructor
 ·rintro⟨j,p,_,hp,hd,hb⟩;obtain⟨jv,v,h1,h2,h3⟩:=(ko hT (fun k z hk=>((hT.2.1.2.2.2.2.2.1 j p hp).2.2.2.1.2 k z hk).1)).1 hb;exact⟨jv,v,h1,h2,j,p,hp,hd,h3⟩
 ·rintro⟨jv,v,h1,h2,j,p,hp,hd,h3⟩;exact⟨j,p,(Fk.1 hp).1,hp,hd,(ko hT (fun k z hk=>((hT.2.1.2.2.2.2.2.1 j p hp).2.2.2.1.2 k z hk).1)).2 ⟨jv,v,h1,h2,h3⟩⟩
theorem tA {c:Cl} {i:Nat} {p:Pd} {s:ByteArray} {zs:List ByteArray} (hT:aB c) (hp:c.ps[i]?=some p) (hd:¬p.d=s) (hr:RT zs) (hm:∀t,t∈zs↔(PBs c s c.ps.length t\/VBs c s c.vs.length t)\/fL c p.zs t):zs=dK (plC c i p s) s c.vs:=by
 have hv:=hT.2.1.2.2.1.2.2;refine hr.ext (List.Pairwise.sublist (List.filter_sublist.map _) hv.rt) (fun t=>?_);rw[hm,Aw hT,ko hT (fun k z hk=>((hT.2.1.2.2.2.2.2.1 i p hp).2.2.2.1.2 k z hk).1)];unfold dK;rw[List.mem_map];constructor
 ·rintro ((⟨j,v,h1,rfl,k,q,hq,hw⟩|⟨j,v,_,h2,h3,rfl⟩)|⟨j,v,h1,rfl,h3⟩)
  ·refine⟨v,List.mem_filter.2 ⟨FX h1,?_⟩,rfl⟩;unfold onB;rw[Bool.or_eq_true];refine .inr (dx.2 ⟨k,q,cO (fun e=>?_) hq,hw⟩);subst e;rw[hp] at hq;obtain rfl:=Fo hq;exact hd hw.1
  ·exact xX
  ·refine⟨v,List.mem_filter.2 ⟨FX h1,?_⟩,rfl⟩;unfold onB;rw[Bool.or_eq_true];exact .inr (dx.2 ⟨i,onP p s,fy hp,rfl,h3⟩)
 ·rintro⟨v,h1,rfl⟩;obtain⟨h2,h3⟩:=List.mem_filter.1 h1;obtain⟨jv,hj⟩:=FU h2;unfold onB at h3;rw[Bool.or_eq_true] at h3;rcases h3 with h3|h3
  ·exact .inl (.inr ⟨jv,v,(Fk.1 hj).1,hj,eO.1 h3,rfl⟩)
  ·obtain⟨k,q,hq,hw⟩:=dx.1 h3;rcases cY hp hq with ⟨-,rfl⟩|⟨-,hq⟩
   ·exact .inr ⟨jv,v,hj,rfl,hw.2⟩
   ·exact .inl (.inl ⟨jv,v,hj,rfl,k,q,hq,hw⟩)

theorem ib.EN {c:Cl} {i:Nat} {p:Pd} {n:Nd} (h:ib c i p n):p.c<=frN c n:=by
 obtain⟨c',h⟩:=h;rcases h with ⟨_,h⟩|⟨_,⟨_,h⟩|⟨_,⟨_,h⟩|⟨h,_⟩⟩⟩
 ·exact absurd h aj
 ·exact absurd h aj
 ·exact absurd h aj
 ·unfold kJ at h;unfold frN;omega
def ee (c:Cl) (i:Nat) (p:Pd) (k:Nat) (best most:Int):Prop:=
 (best= -1/\most= -1/\∀(j:Nat) n,j<k->c.ns[j]?=some n->¬ib c i p n)\/
 ∃(b:Nat) (n:Nd),best=b/\b<k/\most=frN c n/\c.ns[b]?=some n/\ib c i p n/\∀(j:Nat) m,j<k->c.ns[j]?=some m->ib c i p m->frN c m<frN c n\/(frN c m=frN c n/\b<=j)
theorem ee.zero {c:Cl} {i:Nat} {p:Pd} :ee c i p 0 (-1) (-1):=.inl ⟨rfl,rfl,fun _ _ h=>absurd h (by omega)⟩
theorem ee.pass {c:Cl} {i:Nat} {p:Pd} {k:Nat} {best most:Int} {n:Nd} (h:ee c i p k best most) (hn:c.ns[k]?=some n) (hp:0<=p.c) (hf:frN c n<=most):ee c i p (k+1) best most:=by
 rcases h with ⟨h1,h2,h3⟩|⟨b,m,h1,h2,h3,h4,h5,h6⟩
 ·refine .inl ⟨h1,h2,fun j x hj hx hF=>?_⟩;by_cases e:j=k
  ·subst e;rw[hn] at hx;obtain rfl:=Fo hx;have:=hF.EN;omega
  ·exact h3 j x af hx hF
 ·refine .inr ⟨b,m,h1,by omega,h3,h4,h5,fun j x hj hx hF=>?_⟩;by_cases e:j=k
  ·subst e;rw[hn] at hx;obtain rfl:=Fo hx;omega
  ·exact h6 j x af hx hF
theorem ee.no {c:Cl} {i:Nat} {p:Pd} {k:Nat} {best most:Int} {n:Nd} (h:ee c i p k best most) (hn:c.ns[k]?=some n) (hf:¬ib c i p n):ee c i p (k+1) best most:=by
 rcases h with ⟨h1,h2,h3⟩|⟨b,m,h1,h2,h3,h4,h5,h6⟩
 ·refine .inl ⟨h1,h2,fun j x hj hx hF=>?_⟩;by_cases e:j=k
  ·subst e;rw[hn] at hx;obtain rfl:=Fo hx;exact hf hF
  ·exact h3 j x af hx hF
 ·refine .inr ⟨b,m,h1,by omega,h3,h4,h5,fun j x hj hx hF=>?_⟩;by_cases e:j=k
  ·subst e;rw[hn] at hx;obtain rfl:=Fo hx;exact absurd hF hf
  ·exact h6 j x af hx hF
theorem ee.take {c:Cl} {i:Nat} {p:Pd} {k:Nat} {best most:Int} {n:Nd} (h:ee c i p k best most) (hn:c.ns[k]?=some n) (hf:¬frN c n<=most) (hF:ib c i p n):ee c i p (k+1) k (frN c n):=by
 refine .inr ⟨k,n,rfl,by omega,rfl,hn,hF,fun j x hj hx hG=>?_⟩;by_cases e:j=k
 ·subst e;rw[hn] at hx;obtain rfl:=Fo hx;exact .inr ⟨rfl,by omega⟩
 ·rcases h with ⟨_,_,h3⟩|⟨b,m,_,h2,h3,h4,h5,h6⟩
  ·exact absurd hG (h3 j x af hx)
  ·have:=h6 j x af hx hG;exact .inl af
theorem ee.done {c:Cl} {i:Nat} {p:Pd} {best most:Int} (h:ee c i p c.ns.length best most):(best= -1/\fo c i p)\/∃(b:Nat) (n:Nd),best=b/\kL c i p b n:=by
 rcases h with ⟨h1,_,h3⟩|⟨b,n,h1,_,_,h4,h5,h6⟩
 ·exact .inl ⟨h1,fun j n hn=>h3 j n (Fk.1 hn).1 hn⟩
 ·exact .inr ⟨b,n,h1,h4,h5,fun j m hm=>h6 j m (Fk.1 hm).1 hm⟩

theorem iu (d:Ad) (c:Cl) (m s:ByteArray) (w:World) (hr:aJ w d c.raw):
  Calls Tryz.prog 106 #[.agg #[.slice d.a1 d.l1 d.c1,.slice d.a2 d.l2 d.c2,.slice d.a3 d.l3 d.c3,.slice d.a4 d.l4 d.c4,.slice d.a5 d.l5 d.c5,.int .i64 c.now],.string m,.string s] w (aq (∃(j:Nat) (p:Pd),c.ps[j]?=some p/\OtP p s m) w):=by
 obtain⟨a1,l1,y1,a2,l2,y2,a3,l3,y3,a4,l4,y4,a5,l5,y5⟩:=d;dsimp only;have HR:=aa hr.p;obtain⟨hl5,hm5⟩:=jL;clear hr;go_enter Tryz.func106,Tryz.ntmps106;go_wp2;go_loopw [7] (fun i wr=> ∃k:Nat,k<=l5/\i=.int .i64 k/\Hid (∀(j:Nat) (p:Pd),j<k->c.ps[j]?=some p->¬OtP p s m)/\Hid (Below w.heap.size w wr)/\Hid (wr.heap[w.heap.size]?=some (.cells (clo6 a1 l1 y1 a2 l2 y2 a3 l3 y3 a4 l4 y4 a5 l5 y5 c.now) 36 (0,0)))) (fun i _=>l5 - (intOf i).toNat);case atStart=>exact⟨0,by omega,rfl,fun _ _ h=>absurd h af,al _ _,heap_alloc_new _ _⟩
 case round=>
  obtain⟨k,hk,rfl,HE,HB,Bk⟩:=hrel;have ltk:=ae Bk.out;by_cases hlt:k<l5
  ·have hlt2:(k:Int)<(l5:Int):=af
   obtain⟨b,o,p,rfl,hb,hx,hat⟩:=bY (HR.below HB.out) hlt;obtain⟨va,vl,vc,hvr,z0,z2,z4,c0,c1,c2,c3,c4,c5⟩:=aS hat;have HX:=aa hx;have HV:=aa hvr;have k4:=ck4 Bk;clear hat hx hvr z0 z2 z4;by_cases h0:p.d=⟨#[]⟩
   ·have hq:=cU h0;have H0:=aa h0;clear h0;go_wp2;refine⟨⟨k+1,by omega,by go_num,fun j z hj hz=>?_,HB.alloc HB.size _,(Fw _ _ _ ltk).trans Bk.out⟩,by simp[intOf];omega⟩;by_cases e:j=k
    ·subst e;rw[HX.out] at hz;obtain rfl:=Fo hz;exact fun h=>h.1 H0.out
    ·exact HE.out j z af hz
   have hq0:=bc h0;have H0:=aa h0;clear h0;by_cases h1:p.d=s
   ·have hq:=a9 h1;have H1:=aa h1;clear h1;go_wp2;refine⟨⟨k+1,by omega,by go_num,fun j z hj hz=>?_,HB.alloc HB.size _,(Fw _ _ _ ltk).trans Bk.out⟩,by simp[intOf];omega⟩;by_cases e:j=k
    ·subst e;rw[HX.out] at hz;obtain rfl:=Fo hz;exact fun h=>h.2.1 H1.out
    ·exact HE.out j z af hz
   have hq:=bB h1;have H1:=aa h1;clear h1;go_wp2_with fail;refine (di va vl vc p.zs m _ (HV.below (al _ _))).mono ?_;rintro e w1 ⟨r,rfl,hi,hb1⟩;obtain⟨HA0,hbx⟩:=aL hb1;have HI:=aa hi;have HB1:=upB HB hbx;have Bk1:=aa ((hbx.block _ ltk).trans Bk.out);clear hi hb1 hbx HA0 c0 c1 c2 c3 c4 c5 k4;cases r
   ·go_wp2;refine⟨⟨k+1,by omega,by go_num,fun j z hj hz=>?_,HB1.out,Bk1.out⟩,by simp[intOf];omega⟩;by_cases e:j=k
    ·subst e;rw[HX.out] at hz;obtain rfl:=Fo hz;exact fun h=>by have:=HI.2 h.2.2;cases this
    ·exact HE.out j z af hz
   ·go_wp2;go_ret;exact aq.t ⟨k,p,HX.out,H0.out,H1.out,HI.1 ct⟩ HB1.out
  ·obtain rfl:l5=k:=af
   have k4:=ck4 Bk;go_wp2;go_ret;exact aq.f (fun ⟨j,p,hj,hp⟩=>HE.out j p ny hj hp) HB.out

theorem ix {w:World} {base:Nat} {t ty e:TypeId} {i:TypeInfo} {size:Nat} (ht:Tryz.prog.underlying t=some (.slice e)) (hi:Tryz.prog.info? e=some i) {v:Value} {n:Nat} {xs:List Value} (hown:w.ownsRow base e size v n xs) (ax:Option Addr) (cx:Nat):
  (Gw #[t,t] ty #[v,.slice ax 0 cx]).run Tryz.prog w=.ok v w:=by
 exact Cq
theorem bf {w:World} {ops:Array Oper} {rest:List Oper} {o:Oper} {a:Act} {Q:Exit->Act->World->Prop} (hgd:o.guard=none) (s x:Operand) (t:TypeId)
  (ho:o.op=.call { callee:=.builtin .append,args:=#[s,x],argTypes:=#[t,t] })
  (base:Nat) (e:TypeId) (i:TypeInfo) (z:Value) (size bytes:Nat) (ht:Tryz.prog.underlying t=some (.slice e)) (hi:Tryz.prog.info? e=some i) (hz:i.zero=some z)
  (hsize:i.size=size) (hby:i.bytes=bytes) (hzs:z.cells.size=size) (hsz:0<size)
  (v:Value) (n:Nat) (xs:List Value) (hs:a.eval s=v) (hown:w.ownsRow base e size v n xs)
  (ax:Option Addr) (l c:Nat) (news:List Value) (hx:a.eval x=.slice ax l c) (hl:news.length=l*size) (hnews:∀(j:Nat) u,news[j]?=some u->∃ad:Addr,ax=some ad/\w.cell? (ad.add j)=some u) (h1:∀u∈news,u.oneCell'=true)
  (h63:n+l<=maxLen) (hbytes:(n+l)*bytes<=140737488355328) (hbase:base<=w.heap.size)
  (h:∀v' w',w'.ownsRow base e size v' (n+l) (xs++news)->w.grownBy w' v.ownBlock->wpList Tryz.prog ops Q rest (a.put o.dst v') w'):wpList Tryz.prog ops Q (o ::rest) a w:=by
 rcases news with _|⟨u,news⟩
 ·have hl0:l=0:=by
   rcases Nat.eq_zero_or_pos l with e|e
   ·exact e
   ·have:=Nat.mul_pos e hsz;simp at hl;omega
  subst hl0;refine wpList_plain hgd fun K hK=>?_;have hr:=ix (ty:=o.type) ht hi hown ax c;exact yA
 ·obtain⟨ad,rfl,_⟩:=hnews 0 u rfl;exact bj hgd s x t t ho base e e i z size bytes ht ht hi hz hsize hby hzs hsz v n xs hs hown ad l c (u ::news) hx hl (fun j y hy=>by
   obtain⟨ad',e,h2⟩:=hnews j y hy
   cases e
   exact h2) h1 h63 hbytes hbase h

theorem m9 (many most:Nat) (w:World):Calls Tryz.prog 136 #[.bool true,.int .i64 many,.int .i64 most] w fun e w'=>e=.returned (.int .i64 7)/\Below w.heap.size w w':=by
 exact qo

theorem pB (many most:Nat) (hm:most<=many) (w:World):Calls Tryz.prog 136 #[.bool false,.int .i64 many,.int .i64 most] w fun e w'=>e=.returned (.int .i64 9)/\Below w.heap.size w w':=by
 exact qo

theorem uH (many most:Nat) (hm:many<most) (w:World):Calls Tryz.prog 136 #[.bool false,.int .i64 many,.int .i64 most] w fun e w'=>e=.returned (.int .i64 0)/\Below w.heap.size w w':=by
 exact qo

theorem ew.below {w w':World} {d:Ad} {c:Cr} {S:Nat->Prop} (h:ew w d c S) (hb:Below w.heap.size w w'):ew w' d c S:=⟨h.n.below hb,h.k.below hb,h.v.below hb,h.x.below hb,h.p.below hb⟩
theorem ew.gQ {w w':World} {d:Ad} {c:Cr} {S:Nat->Prop} (h:ew w d c S) {b:Nat} {cs:Array Value} (hb:w.heap[b]?=some (.cells cs 38 (0,0))) (hk:∀k,¬k=b->w'.heap[k]?=w.heap[k]?):ew w' d c S:=
 ⟨(h.n.gn hb aj aj).aM (fun k _ s=>hk k s.2) (fun _ _ s=>s.1),(h.k.gn hb aj aj).aM (fun k _ s=>hk k s.2) (fun _ _ s=>s.1),(h.v.gn hb aj aj).aM (fun k _ s=>hk k s.2) (fun _ _ s=>s.1),(h.x.gn hb aj aj).aM (fun k _ s=>hk k s.2) (fun _ _ s=>s.1),(h.p.gn hb aj aj).aM (fun k _ s=>hk k s.2) (fun _ _ s=>s.1)⟩

theorem C9 {w w4:World} {v4:Value} {base n j hh:Nat} {xs:List Vd} {x:Vd} {va:Option Addr} {vl vc:Nat} {vss:List (List Value)} {H:Nat->Nat->Nat} {Q Q2:Nat->Prop} (hV:aX w Q 8 (xs.map vdF) vss H) (hxl:xs.length=n) (hj:j=pl Vd.n xs x.n) (hbs:w.heap.size<=base) (hB4:Below w.heap.size w w4)
  (hxf:∀(i:Nat) f,(vdF x)[i]?=some f->∃v,[.string x.n,.int .i64 x.c,.string x.z,.string x.k,.bool x.x,.string x.m,.bool x.y,.slice va vl vc][i]?=some v/\f.Fr w hh Q2 v) (hq:∀k,Q k->Q2 k->False) (ho4:w4.ownsRow base 99 8 v4 (n+1) (br j [.string x.n,.int .i64 x.c,.string x.z,.string x.k,.bool x.x,.string x.m,.bool x.y,.slice va vl vc] vss).flatten):
  ∃a' c',v4=.slice a' (n+1) c'/\az w4 a' (n+1) c' 8 99 ((br (pl Vd.n xs x.n) x xs).map vdF) (fun k=>(Q k\/Q2 k)\/w.heap.size<=k):=by
 have hjn:j<=n:=by rw[hj,<-hxl];exact List.findIdx_le_length
 have hV4:=(hV.below hB4).aM (w':=w4) (S':=fun k=>(Q k\/Q2 k)\/w.heap.size<=k) (fun _ _ _ _=>rfl) (fun _ _ s=>.inl (.inl s));obtain⟨H4,hV5⟩:=hV4.ins (p:=j) (r:=vdF x) (vs:=[.string x.n,.int .i64 x.c,.string x.z,.string x.k,.bool x.x,.string x.m,.bool x.y,.slice va vl vc]) (hh:=fun _=>hh) rfl rfl (fun i f hf=>by
   obtain⟨v,h1,h2⟩:=hxf i f hf
   exact⟨v,h1,h2.aM (fun cu _ q=>hB4.block _ (ae q)) (fun _ s=>.inl (.inr s))⟩) (fun i zs h hz k r i2 zs2 hr2 hz2 hne e=>by
  obtain⟨v,_,h2⟩:=hxf i _ h;obtain⟨_,_,_,_,_,_,_,_,h3⟩:=h2
  have hkv:k<vss.length:=by rw[hV.len];exact (Fk.1 hr2).1
  obtain⟨v',_,h5⟩:=hV.cell k r _ hr2 (Fs hkv) i2 _ hz2;obtain⟨_,_,_,_,_,_,_,_,h6⟩:=h5
  rcases h3 with h3|⟨_,h3,_⟩
  ·exact hz h3
  ·rcases h6 with h6|⟨_,h6,_⟩
   ·exact hne h6
   ·rw[e] at h6
    exact hq _ h6 h3) (fun i i2 zs zs2 h _ h2 _=>by
  rcases i with _|_|_|_|_|_|_|_|i <;> simp[vdF] at h <;> rcases i2 with _|_|_|_|_|_|_|_|i2 <;> simp[vdF] at h2 <;> rfl) r_
 exact CP

theorem mV (g:Option Addr) (l n:Nat) (vs:List Vd) (x:Vd) (va:Option Addr) (vl vc hh:Nat) (Q Q2:Nat->Prop) (w:World) (ho:az w g l n 8 99 (vs.map vdF) Q) (hl8:l<=8) (hxf:∀(i:Nat) f,(vdF x)[i]?=some f->∃v,[.string x.n,.int .i64 x.c,.string x.z,.string x.k,.bool x.x,.string x.m,.bool x.y,.slice va vl vc][i]?=some v/\f.Fr w hh Q2 v) (hq:∀k,Q k->Q2 k->False):
  Calls Tryz.prog 137 #[.slice g l n,.agg #[.string x.n,.int .i64 x.c,.string x.z,.string x.k,.bool x.x,.string x.m,.bool x.y,.slice va vl vc]] w fun e w'=> ∃a' c',e=.returned (.slice a' (l+1) c')/\az w' a' (l+1) c' 8 99 ((br (pl Vd.n vs x.n) x vs).map vdF) (fun k=>(Q k\/Q2 k)\/w.heap.size<=k)/\Below w.heap.size w w':=by
 have hll:vs.length=l:=jG
 have hln:=ho.2.1;have hnm:=ho.2.2.1;have HR:=aa ho.row;obtain⟨vss,H,hV,hcell⟩:=ho.lS;have hvl:vss.length=l:=by rw[hV.len,FR,hll]
 have HC:Hid (∀(j:Nat) u,vss.flatten[j]?=some u->∃b,g=some ⟨b,0,none⟩/\w.cell? ⟨b,j,none⟩=some u):=fun j u hj=>by
  obtain⟨b,e,_,h3⟩:=hcell j u hj;exact⟨b,e,h3⟩
 have HVA:=aa hV.all;have HV1:=aa hV.one;have HFIN:Hid (∀(w4:World) v4 base k,k=pl Vd.n vs x.n->w.heap.size<=base->Below w.heap.size w w4->w4.ownsRow base 99 8 v4 (l+1) (br k [.string x.n,.int .i64 x.c,.string x.z,.string x.k,.bool x.x,.string x.m,.bool x.y,.slice va vl vc] vss).flatten->∃a' c',v4=.slice a' (l+1) c'/\az w4 a' (l+1) c' 8 99 ((br (pl Vd.n vs x.n) x vs).map vdF) (fun k=>(Q k\/Q2 k)\/w.heap.size<=k)):=fun w4 v4 base k hk hbs hB4 ho4=>C9 hV hll hk hbs hB4 hxf hq ho4;obtain⟨i5,hi5',hz0,hz1,hz2⟩:=info_parts gh;have HI0:=aa (Fl hi5' (Fl hz0 (Fl hz1 hz2)));clear hi5' hz0 hz1 hz2 hV hcell ho hxf hq;go_enter Tryz.func137,Tryz.ntmps137;go_wp2;go_loopw [5] (fun vi wr=> ∃k:Nat,k<=l/\vi=.int .i64 k/\Hid (∀(j:Nat) y,j<k->vs[j]?=some y->Fz y.n.toList x.n.toList=true)/\Hid (Below (w.heap.size+1) (w.alloc (.cells #[.string x.n,.int .i64 x.c,.string x.z,.string x.k,.bool x.x,.string x.m,.bool x.y,.slice va vl vc] 99)) wr)) (fun vi _=>l - (intOf vi).toNat);case atStart=>exact⟨0,by omega,rfl,fun j y hj=>by omega,Ft _ _⟩
 case round=>
  obtain⟨k,hk,rfl,HE,HL⟩:=hrel;have hLs:w.heap.size+1<=wr.heap.size:=by have:=HL.size;simpa using this
  have HB:=aa ((al w (.cells (vov x va vl vc) 99)).trans (HL.mono af));have Bx:=aa ((HL.block w.heap.size af).trans (heap_alloc_new w (.cells (vov x va vl vc) 99)));by_cases hlt:k<l
  ·obtain⟨b,o,y,rfl,hb,hx,hat⟩:=bN (HR.below HB.out) hlt;obtain⟨ya,yl,yc,-,-,-,-,-,hc0,-,-,-,-,-,-,-⟩:=aK hat;have HXy:=aa hx;have hbw:=hb;have hk1:(k:Int)<l:=af
   have hk2:decide ((k:Int)<l)=true:=by simp;omega
   clear hb hat hx;cases hless:Fz y.n.toList x.n.toList
   ·obtain⟨Gx,HW,x0,yn,hne0⟩:=vv;go_wp2_with fail;refine ag ar ar ?_;repeat (go_big_quiet_step (first|fail))
    refine wpQuiet_nil ?_;rintro _ ⟨q2,rfl⟩;have HB1:=upB HW q2.b;have Cx:=upK Gx q2.b;clear hne0 HW HB x0 yn Gx Bx hc0 hbw;have HB:=HB1;clear HB1;have Bx:=Cx;clear Cx;have HPL:Hid (k=pl Vd.n vs x.n):=(oi HE.out HXy.out hless).symm;have HCQ:Hid (∀(j:Nat) u,vss.flatten[j]?=some u->∃b9,(some ⟨b,o,none⟩:Option Addr)=some ⟨b9,0,none⟩/\b9<q2.w.heap.size/\q2.w.cell? ⟨b9,j,none⟩=some u):=fun j u hj=>by
     exact yd
    obtain⟨HOW,hik,hkn⟩:=BO;have hcap:¬n=k:=af
    all_goals (
     go_wp2_with (first|(at_builtin;refine bf rfl _ _ 32 rfl q2.w.heap.size 99 i5 (.agg #[.string ⟨#[]⟩,.int .i64 0,.string ⟨#[]⟩,.string ⟨#[]⟩,.bool false,.string ⟨#[]⟩,.bool false,.slice none 0 0]) 8 112 Tryz.underlying32 HI0.1 HI0.2.1 HI0.2.2.1 HI0.2.2.2 rfl aj _ _ _ rfl (HOW.out) _ k _ (vss.take k).flatten rfl (ey HVA.out af) (fun j u hu=>by obtain⟨g,e,hgl,h3⟩:=HCQ.out _ _ (lM hu);cases e <;> exact⟨_,rfl,by simp only[FQ,FV];exact (ak (al q2.w _) hgl).trans h3⟩) (cP HV1.out k).1 cC af aR ?_))
     intro v5 w5 hown5 hgr5
     replace hown5:w5.ownsRow q2.w.heap.size 99 8 v5 k (vss.take k).flatten:=kT
     have hb5:=(al q2.w (.cells #[] 99)).grown hgr5 aR (fun g hg=>by simp[GX] at hg;omega);obtain⟨s1,s2,s3,rfl⟩:=bu hown5;have HO5:=aa hown5;have H5:=aa hb5;have hs6:=hb5.size;have Bx5:=upK Bx hb5;obtain⟨x0,x1,x2,x3,x4,x5,x6,x7⟩:=cs8 Bx5;clear hown5 hgr5 hb5 HOW
     go_wp2_with (first|(at_builtin;refine bf rfl _ _ 32 rfl q2.w.heap.size 99 i5 (.agg #[.string ⟨#[]⟩,.int .i64 0,.string ⟨#[]⟩,.string ⟨#[]⟩,.bool false,.string ⟨#[]⟩,.bool false,.slice none 0 0]) 8 112 Tryz.underlying32 HI0.1 HI0.2.1 HI0.2.2.1 HI0.2.2.2 rfl aj _ _ _ rfl (HO5.alloc _) _ 1 _ [.string x.n,.int .i64 x.c,.string x.z,.string x.k,.bool x.x,.string x.m,.bool x.y,.slice va vl vc] rfl rfl (fun j u hu=>⟨_,rfl,by rw[FQ,FV,aw (heap_alloc_new w5 _)];simpa using hu⟩) eT cC af bF ?_))
     intro v6 w6 hown6 hgr6;have hb6:=(H5.alloc H5.size _).grown hgr6 bF (fun g hg=>(HO5.lt g hg).1);obtain⟨r1,r2,r3,rfl⟩:=bu hown6;have HO6:=aa hown6;have H6:=aa hb6;have hs7:=hb6.size;clear hown6 hgr6 hb6 x0 x1 x2 x3 x4 x5 x6 x7
     go_wp2_with (first|(at_builtin;refine bf rfl _ _ 32 rfl q2.w.heap.size 99 i5 (.agg #[.string ⟨#[]⟩,.int .i64 0,.string ⟨#[]⟩,.string ⟨#[]⟩,.bool false,.string ⟨#[]⟩,.bool false,.slice none 0 0]) 8 112 Tryz.underlying32 HI0.1 HI0.2.1 HI0.2.2.1 HI0.2.2.2 rfl aj _ _ _ rfl (HO6.out) _ (l - k) _ (vss.drop k).flatten rfl (by rw[iL HVA.out,hvl]) (fun j u hu=>by first|(rw[List.drop_eq_nil_of_le af] at hu;simp at hu;done)|(obtain⟨g,e,hgl,h3⟩:=HCQ.out _ _ (mA HVA.out af hu);cases e <;> exact⟨_,rfl,by simp only[FQ,FV];exact (ak H6.out hgl).trans h3⟩)) (cP HV1.out k).2 cC af af ?_))
     intro v7 w7 hown7 hgr7;have hb7:=H6.grown hgr7 af (fun g hg=>(HO6.lt g hg).1)
     replace hown7:w7.ownsRow q2.w.heap.size 99 8 v7 (l+1) (br k [.string x.n,.int .i64 x.c,.string x.z,.string x.k,.bool x.x,.string x.m,.bool x.y,.slice va vl vc] vss).flatten:=by
      have e9:k+1+(l - k)=l+1:=af
      try rw[e9] at hown7
      simpa[br] using hown7
     have HB7:=upB HB hb7;obtain⟨a',c',rfl,hR⟩:=HFIN.out w7 v7 q2.w.heap.size k HPL.out HB.size HB7.out hown7;have HR7:=aa hR;clear hown7 hgr7 hb7 hR hik hkn hcap
     go_wp2
     go_ret
     exact⟨a',c',rfl,HR7.out,HB7.out⟩)
   ·obtain⟨Gx,HW,x0,yn,hne0⟩:=vv;go_wp2_with fail;refine ag ar ar ?_;repeat (go_big_quiet_step (first|fail))
    refine wpQuiet_nil ?_;rintro _ ⟨q2,rfl⟩;have HB1:=upB HW q2.b;have Cx:=upK Gx q2.b;clear hne0 HW HB x0 yn Gx Bx hc0 hbw;have HB:=HB1;clear HB1;have Bx:=Cx;clear Cx;go_wp2;refine⟨⟨k+1,by omega,by go_num,fun j z hj hz=>?_,HL.trans (q2.b.mono af)⟩,by simp[intOf];omega⟩;by_cases e:j=k
    ·subst e;rw[HXy.out] at hz;obtain rfl:=Fo hz;exact hless
    ·exact HE.out j z af hz
  ·have hk1:¬(k:Int)<l:=af
   have hk2:decide ((k:Int)<l)=false:=by simp;omega
   have Gx:=Bx;have HW:=HB;have x0:=fun q:Wd wr=>q.slot (o:=0) Gx.out rfl;have hne0:=Wd.ne wr;go_wp2_with fail;refine ag ar ar ?_;repeat (go_big_quiet_step (first|fail))
   refine wpQuiet_nil ?_;rintro _ ⟨q2,rfl⟩;have HB1:=upB HW q2.b;have Cx:=upK Gx q2.b;clear hne0 HW HB x0 Gx Bx;have HB:=HB1;clear HB1;have Bx:=Cx;clear Cx;have HPL:Hid (k=pl Vd.n vs x.n):=by show k=_;rw[gd (nm:=Vd.n) (xs:=vs) (t:=x.n) (fun j y hy=>HE.out j y kV hy)];omega
   have HCQ:Hid (∀(j:Nat) u,vss.flatten[j]?=some u->∃b9,g=some ⟨b9,0,none⟩/\b9<q2.w.heap.size/\q2.w.cell? ⟨b9,j,none⟩=some u):=fun j u hj=>by
    exact yd
   obtain⟨HOW,hik,hkn⟩:=BO;rcases g with _|⟨b2,f2,sp⟩
   ·have hl0:l=0:=GO fun hne0=>by
     have h1:vss[0]?=some (vss[0]'(by omega)):=Fs _;have h2:0<(vss[0]'(by omega)).length:=by rw[HVA.out 0 _ h1];decide
     obtain⟨g,e,_⟩:=HCQ.out _ _ (fG HVA.out h1 (Fs h2));cases e
    obtain rfl:k=0:=af
    subst hl0;by_cases hcap:n=0;all_goals (
     go_wp2_with (first|(at_builtin;refine bf rfl _ _ 32 rfl q2.w.heap.size 99 i5 (.agg #[.string ⟨#[]⟩,.int .i64 0,.string ⟨#[]⟩,.string ⟨#[]⟩,.bool false,.string ⟨#[]⟩,.bool false,.slice none 0 0]) 8 112 Tryz.underlying32 HI0.1 HI0.2.1 HI0.2.2.1 HI0.2.2.2 rfl aj _ _ _ rfl (HOW.out) _ 0 _ (vss.take 0).flatten rfl (ey HVA.out af) (fun j u hu=>by obtain⟨g,e,hgl,h3⟩:=HCQ.out _ _ (lM hu);cases e <;> exact⟨_,rfl,by simp only[FQ,FV];exact (ak (al q2.w _) hgl).trans h3⟩) (cP HV1.out 0).1 cC af aR ?_))
     intro v5 w5 hown5 hgr5
     replace hown5:w5.ownsRow q2.w.heap.size 99 8 v5 0 (vss.take 0).flatten:=kT
     have hb5:=(al q2.w (.cells #[] 99)).grown hgr5 aR (fun g hg=>by simp[GX] at hg;omega);obtain⟨s1,s2,s3,rfl⟩:=bu hown5;have HO5:=aa hown5;have H5:=aa hb5;have hs6:=hb5.size;have Bx5:=upK Bx hb5;obtain⟨x0,x1,x2,x3,x4,x5,x6,x7⟩:=cs8 Bx5;clear hown5 hgr5 hb5 HOW
     go_wp2_with (first|(at_builtin;refine bf rfl _ _ 32 rfl q2.w.heap.size 99 i5 (.agg #[.string ⟨#[]⟩,.int .i64 0,.string ⟨#[]⟩,.string ⟨#[]⟩,.bool false,.string ⟨#[]⟩,.bool false,.slice none 0 0]) 8 112 Tryz.underlying32 HI0.1 HI0.2.1 HI0.2.2.1 HI0.2.2.2 rfl aj _ _ _ rfl (HO5.alloc _) _ 1 _ [.string x.n,.int .i64 x.c,.string x.z,.string x.k,.bool x.x,.string x.m,.bool x.y,.slice va vl vc] rfl rfl (fun j u hu=>⟨_,rfl,by rw[FQ,FV,aw (heap_alloc_new w5 _)];simpa using hu⟩) eT cC af bF ?_))
     intro v6 w6 hown6 hgr6;have hb6:=(H5.alloc H5.size _).grown hgr6 bF (fun g hg=>(HO5.lt g hg).1);obtain⟨r1,r2,r3,rfl⟩:=bu hown6;have HO6:=aa hown6;have H6:=aa hb6;have hs7:=hb6.size;clear hown6 hgr6 hb6 x0 x1 x2 x3 x4 x5 x6 x7
     go_wp2_with (first|(at_builtin;refine bf rfl _ _ 32 rfl q2.w.heap.size 99 i5 (.agg #[.string ⟨#[]⟩,.int .i64 0,.string ⟨#[]⟩,.string ⟨#[]⟩,.bool false,.string ⟨#[]⟩,.bool false,.slice none 0 0]) 8 112 Tryz.underlying32 HI0.1 HI0.2.1 HI0.2.2.1 HI0.2.2.2 rfl aj _ _ _ rfl (HO6.out) _ (0 - 0) _ (vss.drop 0).flatten rfl (by rw[iL HVA.out,hvl]) (fun j u hu=>by first|(rw[List.drop_eq_nil_of_le af] at hu;simp at hu;done)|(obtain⟨g,e,hgl,h3⟩:=HCQ.out _ _ (mA HVA.out af hu);cases e <;> exact⟨_,rfl,by simp only[FQ,FV];exact (ak H6.out hgl).trans h3⟩)) (cP HV1.out 0).2 cC af af ?_))
     intro v7 w7 hown7 hgr7;have hb7:=H6.grown hgr7 af (fun g hg=>(HO6.lt g hg).1)
     replace hown7:w7.ownsRow q2.w.heap.size 99 8 v7 (1) (br 0 [.string x.n,.int .i64 x.c,.string x.z,.string x.k,.bool x.x,.string x.m,.bool x.y,.slice va vl vc] vss).flatten:=by
      have e9:0+1+(0 - 0)=1:=af
      try rw[e9] at hown7
      simpa[br] using hown7
     have HB7:=upB HB hb7;obtain⟨a',c',rfl,hR⟩:=HFIN.out w7 v7 q2.w.heap.size 0 HPL.out HB.size HB7.out hown7;have HR7:=aa hR;clear hown7 hgr7 hb7 hR hik hkn hcap
     go_wp2
     go_ret
     exact⟨a',c',rfl,HR7.out,HB7.out⟩)
   by_cases hcap:n=k;all_goals (
    go_wp2_with (first|(at_builtin;refine bf rfl _ _ 32 rfl q2.w.heap.size 99 i5 (.agg #[.string ⟨#[]⟩,.int .i64 0,.string ⟨#[]⟩,.string ⟨#[]⟩,.bool false,.string ⟨#[]⟩,.bool false,.slice none 0 0]) 8 112 Tryz.underlying32 HI0.1 HI0.2.1 HI0.2.2.1 HI0.2.2.2 rfl aj _ _ _ rfl (HOW.out) _ k _ (vss.take k).flatten rfl (ey HVA.out af) (fun j u hu=>by obtain⟨g,e,hgl,h3⟩:=HCQ.out _ _ (lM hu);cases e <;> exact⟨_,rfl,by simp only[FQ,FV];exact (ak (al q2.w _) hgl).trans h3⟩) (cP HV1.out k).1 cC af aR ?_))
    intro v5 w5 hown5 hgr5
    replace hown5:w5.ownsRow q2.w.heap.size 99 8 v5 k (vss.take k).flatten:=kT
    have hb5:=(al q2.w (.cells #[] 99)).grown hgr5 aR (fun g hg=>by simp[GX] at hg;omega);obtain⟨s1,s2,s3,rfl⟩:=bu hown5;have HO5:=aa hown5;have H5:=aa hb5;have hs6:=hb5.size;have Bx5:=upK Bx hb5;obtain⟨x0,x1,x2,x3,x4,x5,x6,x7⟩:=cs8 Bx5;clear hown5 hgr5 hb5 HOW
    go_wp2_with (first|(at_builtin;refine bf rfl _ _ 32 rfl q2.w.heap.size 99 i5 (.agg #[.string ⟨#[]⟩,.int .i64 0,.string ⟨#[]⟩,.string ⟨#[]⟩,.bool false,.string ⟨#[]⟩,.bool false,.slice none 0 0]) 8 112 Tryz.underlying32 HI0.1 HI0.2.1 HI0.2.2.1 HI0.2.2.2 rfl aj _ _ _ rfl (HO5.alloc _) _ 1 _ [.string x.n,.int .i64 x.c,.string x.z,.string x.k,.bool x.x,.string x.m,.bool x.y,.slice va vl vc] rfl rfl (fun j u hu=>⟨_,rfl,by rw[FQ,FV,aw (heap_alloc_new w5 _)];simpa using hu⟩) eT cC af bF ?_))
    intro v6 w6 hown6 hgr6;have hb6:=(H5.alloc H5.size _).grown hgr6 bF (fun g hg=>(HO5.lt g hg).1);obtain⟨r1,r2,r3,rfl⟩:=bu hown6;have HO6:=aa hown6;have H6:=aa hb6;have hs7:=hb6.size;clear hown6 hgr6 hb6 x0 x1 x2 x3 x4 x5 x6 x7
    go_wp2_with (first|(at_builtin;refine bf rfl _ _ 32 rfl q2.w.heap.size 99 i5 (.agg #[.string ⟨#[]⟩,.int .i64 0,.string ⟨#[]⟩,.string ⟨#[]⟩,.bool false,.string ⟨#[]⟩,.bool false,.slice none 0 0]) 8 112 Tryz.underlying32 HI0.1 HI0.2.1 HI0.2.2.1 HI0.2.2.2 rfl aj _ _ _ rfl (HO6.out) _ (l - k) _ (vss.drop k).flatten rfl (by rw[iL HVA.out,hvl]) (fun j u hu=>by first|(rw[List.drop_eq_nil_of_le af] at hu;simp at hu;done)|(obtain⟨g,e,hgl,h3⟩:=HCQ.out _ _ (mA HVA.out af hu);cases e <;> exact⟨_,rfl,by simp only[FQ,FV];exact (ak H6.out hgl).trans h3⟩)) (cP HV1.out k).2 cC af af ?_))
    intro v7 w7 hown7 hgr7;have hb7:=H6.grown hgr7 af (fun g hg=>(HO6.lt g hg).1)
    replace hown7:w7.ownsRow q2.w.heap.size 99 8 v7 (l+1) (br k [.string x.n,.int .i64 x.c,.string x.z,.string x.k,.bool x.x,.string x.m,.bool x.y,.slice va vl vc] vss).flatten:=by
     have e9:k+1+(l - k)=l+1:=af
     try rw[e9] at hown7
     simpa[br] using hown7
    have HB7:=upB HB hb7;obtain⟨a',c',rfl,hR⟩:=HFIN.out w7 v7 q2.w.heap.size k HPL.out HB.size HB7.out hown7;have HR7:=aa hR;clear hown7 hgr7 hb7 hR hik hkn hcap
    go_wp2
    go_ret
    exact⟨a',c',rfl,HR7.out,HB7.out⟩)

def ud (sv:Vd->Bool) (vs:List Vd):Fact:=fun v _=> ∃r:Int,v=.int .i64 r/\cX sv vs vs.length r
theorem ud.mono (sv:Vd->Bool) (vs:List Vd):Fact.bD (ud sv vs):=fun _ _ _ h _=>h
theorem az.Db {wr wz:World} {g l cp m j i:Nat} {T:TypeId} {rs:List (List Fv)} {r:List Fv} {old:Fv} {S:Nat->Prop} (hO:az wr (some ⟨g,0,none⟩) l cp m T rs S) (hb:Below wr.heap.size wr wz) (hj:rs[j]?=some r) (hi:r[i]?=some old) (t:ByteArray) (ht:t.size<=9223372036854775807):az (wz.setCell ⟨g,j*m+i,none⟩ (.string t)) (some ⟨g,0,none⟩) l cp m T (rs.set j (r.set i (.s t))) S:=by
 obtain⟨g',e,hS⟩:=(hO.below hb).st (aC.refl S wz) hj;cases e;obtain⟨⟨cur2,H2,h3,_⟩,_,_⟩:=hS.dt hi t ht;exact⟨by rw[List.length_set];exact hO.1,hO.2.1,hO.2.2.1,.inr ⟨g,cur2,H2,rfl,h3⟩⟩
theorem az.E6 {wr wz:World} {g l cp m j i:Nat} {T:TypeId} {rs:List (List Fv)} {r:List Fv} {old:Fv} {S:Nat->Prop} (hO:az wr (some ⟨g,0,none⟩) l cp m T rs S) (hb:Below wr.heap.size wr wz) (hj:rs[j]?=some r) (hi:r[i]?=some old):(∃v,wz.cell? ⟨g,j*m+i,none⟩=some v)/\wz.frozen? ⟨g,j*m+i,none⟩=false:=by
 obtain⟨g',e,hS⟩:=(hO.below hb).st (aC.refl S wz) hj;cases e;exact⟨hS.cell hi,hS.cH _⟩
theorem az.EM {w:World} {a:Option Addr} {l cp m j:Nat} {T:TypeId} {rs:List (List Fv)} {r:List Fv} {S:Nat->Prop} (hO:az w a l cp m T rs S) (hj:rs[j]?=some r):∃g cur,a=some ⟨g,0,none⟩/\S g/\g<w.heap.size/\w.heap[g]?=some (.cells cur T (0,0)):=by
 obtain⟨g',e,hS⟩:=hO.st (aC.refl S w) hj;obtain⟨⟨cur,H,h1,_⟩,_⟩:=hS;exact⟨g',cur,e,h1.inS,ae h1.blk,h1.blk⟩
theorem az.gQ {w wz:World} {a:Option Addr} {l cp m g i:Nat} {T T':TypeId} {rs:List (List Fv)} {S:Nat->Prop} {cur:Array Value} {v:Value} (h:az w a l cp m T rs S) (hb:Below w.heap.size w wz) (hg:w.heap[g]?=some (.cells cur T' (0,0))) (h1:¬T'=T) (h2:¬T'=9):az (wz.setCell ⟨g,i,none⟩ v) a l cp m T rs S:=
 (h.gn hg h1 h2).aM (fun k hk s=>(Fm _ _ _ _ s.2).trans (hb.block k hk)) (fun _ _ s=>s.1)
def Bl (B:Nat):Fact:=fun v w=> ∃b,v=.pointer (some ⟨b,0,none⟩)/\B<=b/\w.heap[b]?=some (.cells #[.string ⟨#[]⟩,.bool false,.bool false,.string ⟨#[]⟩] 102 (0,0))
theorem Bl.mono (B:Nat):Fact.bD (Bl B):=by
 exact qt
def t_ (W:World) (S:Nat->Prop) (vs:List Vd):Fact:=fun v w=> ∃a l cp,v=.slice a l cp/\az w a l cp 8 99 (vs.map vdF) (fun k=>S k\/W.heap.size<=k)
theorem t_.mono (W:World) (S:Nat->Prop) (vs:List Vd):Fact.bD (t_ W S vs):=by
 rintro v w w' ⟨a,l,cp,h1,h2⟩ hb;exact⟨a,l,cp,h1,h2.below hb⟩
def Ez (c:Cl) (i:Nat) (x:Xd) (kc:Kd) (t:ByteArray) (S:Nat->Prop) (b:Nat) (a1:Option Addr) (l1 y1:Nat) (a2:Option Addr) (l2 y2:Nat) (a3:Option Addr) (l3 y3:Nat) (a4:Option Addr) (l4 y4:Nat) (a5:Option Addr) (l5 y5:Nat) (w:World) (e:Ending) (w':World):Prop:=
 (∃(j:Nat) (u:Vd),db (svV x.z x.k x.x t) c.vs=some u/\c.vs[j]?=some u/\e=.returned (.tuple #[.string u.n,.int .i64 0])/\w'.heap[b]?=some (.cells (clo6 a1 l1 y1 a2 l2 y2 a3 l3 y3 a4 l4 y4 a5 l5 y5 c.now) 36 (0,0))/\ew w' ⟨a1,l1,y1,a2,l2,y2,a3,l3,y3,a4,l4,y4,a5,l5,y5⟩ (dw c i j x u).raw S/\aC S w w')\/
 (db (svV x.z x.k x.x t) c.vs=none/\((∃p:Int,¬p=0/\((¬ed x kc t/\p=6)\/(ed x kc t/\hit Vd.n c.vs (aD++x.n)=true/\p=7)\/(ed x kc t/\hit Vd.n c.vs (aD++x.n)=false/\¬c.vs.length<8/\p=9))/\e=.returned (.tuple #[.string ⟨#[]⟩,.int .i64 p])/\Below w.heap.size w w')\/
  (ed x kc t/\hit Vd.n c.vs (aD++x.n)=false/\c.vs.length<8/\e=.returned (.tuple #[.string (aD++x.n),.int .i64 0])/\∃(q3:Option Addr) (m3 z3:Nat),w'.heap[b]?=some (.cells (clo6 a1 l1 y1 a2 l2 y2 q3 m3 z3 a4 l4 y4 a5 l5 y5 c.now) 36 (0,0))/\ew w' ⟨a1,l1,y1,a2,l2,y2,q3,m3,z3,a4,l4,y4,a5,l5,y5⟩ (c_ c i x (aW t kc.z)).raw (fun k=>S k\/w.heap.size<=k)/\aC (fun k=>S k\/k=b) w w')))

theorem uF (c:Cl) (i:Nat) (x:Xd) (jk:Nat) (kc:Kd) (t:ByteArray) (S:Nat->Prop) (b:Nat) (a1:Option Addr) (l1 y1:Nat) (a2:Option Addr) (l2 y2:Nat) (a3:Option Addr) (l3 y3:Nat) (a4:Option Addr) (l4 y4:Nat) (a5:Option Addr) (l5 y5:Nat) (w:World) (hb:w.heap[b]?=some (.cells #[.slice a1 l1 y1,.slice a2 l2 y2,.slice a3 l3 y3,.slice a4 l4 y4,.slice a5 l5 y5,.int .i64 c.now] 36 (0,0))) (hO:ew w ⟨a1,l1,y1,a2,l2,y2,a3,l3,y3,a4,l4,y4,a5,l5,y5⟩ c.raw S) (hS:∀k,S k->k<w.heap.size/\¬k=b) (hT:aB c) (hx:c.xs[i]?=some x) (hk:c.ks[jk]?=some kc) (hkn:kc.n=x.k) (hxv:x.v=⟨#[]⟩) (ht:t=⟨#[]⟩\/aO t):
  Calls Tryz.prog 105 #[.pointer (some ⟨b,0,none⟩),.int .i64 i,.string t] w (Ez c i x kc t S b a1 l1 y1 a2 l2 y2 a3 l3 y3 a4 l4 y4 a5 l5 y5 w):=by
 have HO:=aa hO;have HS:=aa hS;have HT:=aa hT;have HX:=aa hx;have HK:=aa (Fl hk hkn);have HXV:=aa hxv;have HTZ:=aa ht;have Bc:=aa hb;have hl4:c.xs.length=l4:=by have h6:(c.xs.map xdF).length=l4:=hO.x.1;rw[FR] at h6;exact h6
 have hl3:c.vs.length=l3:=by have h6:(c.vs.map vdF).length=l3:=hO.v.1;rw[FR] at h6;exact h6
 have hl2:c.ks.length=l2:=by have h6:(c.ks.map kdF).length=l2:=hO.k.1;rw[FR] at h6;exact h6
 have hi4:i<l4:=by have:=(Fk.1 hx).1;omega
 have hii:(i:Int)<l4:=af
 have hi0:¬(i:Int)<0:=af
 obtain⟨gx,hgx,hSx⟩:=hO.x.st (aC.refl S w) (i:=i) (r:=xdF x) (show (c.xs.map xdF)[i]?=some (xdF x) by rw[FA,hx];rfl);have hgx':a4=some ⟨gx,0,none⟩:=hgx;subst hgx';have hgxS:S gx/\gx<w.heap.size:=by obtain⟨⟨cur,H,h1,_⟩,_⟩:=hSx;exact⟨h1.inS,ae h1.blk⟩
 obtain⟨b4,o4,x',e4,hb4,hx4,hat⟩:=dG hO.x.row hi4;cases e4;rw[hx] at hx4;obtain rfl:=Fo hx4;obtain⟨zx0,zx2,zx4,c0,c1,c2,c3,c4⟩:=bw hat;rw[FV] at c0 c1 c2 c3 c4;have HC:=aa (Fl c0 (Fl c1 (Fl c2 (Fl c3 c4))));have HZX:=aa (Fl zx0 (Fl zx2 zx4));have HSX:=aa hSx;have hgb:¬gx=b:=(hS gx hgxS.1).2;have HGS:=aa hgxS.1;have hgl:gx<w.heap.size:=hgxS.2;have hbl:b<w.heap.size:=ae hb;have HB:=aa (Ft w.heap.size w);obtain⟨k0,k1,k2,k3,k4,k5⟩:=cs6 hb;clear hO hS hT hx hk hkn hxv ht hSx hgx hgxS hat hx4 hb4 zx0 zx2 zx4;go_enter Tryz.func105,Tryz.ntmps105;go_wp2_with fail;clear k0 k1 k2 k3 k4 k5 c0 c1 c2 c3 c4;obtain⟨W,hW0⟩:∃W,W=(w.alloc (.cells (xov x) 105)):=⟨_,rfl⟩;have BcW:=aa ((Fw w (.cells (xov x) 105) _ hbl).trans hb);have BxW:=aa (heap_alloc_new w (.cells (xov x) 105));have HBW:=aa (al w (.cells (xov x) 105));have hws:W.heap.size=w.heap.size+1:=by rw[hW0];exact dH _ _
 rw[<-hW0] at BcW BxW HBW ⊢;clear hW0 hb;rename_i K0 hK0;refine bo (back:=none) ar (GA _).symm ar ?_;refine' au.an _ rfl ?_ ?_;rotate_left 1
 ·exact iA
 refine' au.an _ rfl ?_ ?_;rotate_left 1
 ·refine Obl.plain rfl ?_;intro ac wg K hsz hW hf hK;clear hsz;have e21:=hf 21 aj;simp[ai,Fp] at e21;clear hf;exact aT
 refine' au.an _ rfl ?_ ?_;rotate_left 1
 ·refine Obl.plain rfl ?_;intro ac wg K hsz hW hf hK;clear hsz;have e22:=hf 22 aj;simp[ai,Fp] at e22;clear hf;exact aT
 refine' au.an _ rfl ?_ ?_;rotate_left 1
 ·refine Obl.plain rfl ?_;intro ac wg K hsz hW hf hK;clear hsz;have e23:=hf 23 aj;simp[ai,Fp] at e23;exact pV
 refine' au.an _ rfl ?_ ?_;rotate_left 1
 ·refine Obl.plain rfl ?_;intro ac wg K hsz hW hf hK;clear hsz;have e8:=hf 8 aj;simp[ai,Fp] at e8;exact pX
 refine' au.an _ rfl ?_ ?_;rotate_left 1
 ·exact qb
 refine au.step (ud (svV x.z x.k x.x t) c.vs) rfl (ud.mono _ _) ?_ ?_
 ·refine Obl.plain rfl ?_;intro ac wg K hsz hW hf hK;clear hsz;have e24:=hf 24 aj;simp[ai,Fp] at e24;have e25:=hf 25 aj;simp[ai,Fp] at e25;have e26:=hf 26 aj;simp[ai,Fp] at e26;clear hf;go_simp;refine (pD a3 l3 y3 c.vs x.n x.z x.k x.x x.v t _ (Bu (HO.v.row.below (HBW.trans (hW.mono HBW.size))))).mono ?_;rintro e w6 ⟨r,rfl,hr6,hb6⟩;exact hK _ _ hb6 ⟨r,rfl,by rw[hl3];exact hr6⟩
 refine au.step (ud (svV x.z x.k x.x t) c.vs) rfl (ud.mono _ _) ?_ ?_
 ·refine Obl.plain rfl ?_;intro ac wg K hsz hW hf hK;clear hsz;have e27:=hf 27 aj;simp[ai,Fp] at e27;obtain⟨r,e27,hr6⟩:=e27;clear hf;go_simp;exact hK _ _ (Ft _ _) ⟨r,rfl,hr6⟩
 refine au.done ?_;intro q wz hW hf;simp only[FJ] at hf;obtain⟨h9,h27,h26,h25,h24,h23,h22,h21,-⟩:=hf;obtain⟨r,hv9,hbest⟩:=h9;obtain⟨r2,hv27,-⟩:=h27;have HWZ:=aa hW;clear hW;refine hK0 _ _ ?_;simp only[aE,Gd,GG,Fy,FF,FL,h26,h25,h24,h23,h22,h21,hv9,hv27];clear hK0;have Bc2:=upK BcW HWZ.out;have Bx2:=upK BxW HWZ.out;have HB2:=aa (HBW.trans (HWZ.mono HBW.size));have hw2:w.heap.size+1<=wz.heap.size:=by have:=HWZ.size;omega
 clear BcW BxW HBW HWZ;rcases hbest with ⟨rfl,hnone⟩|⟨j,u,rfl,hjl,hju,hsome⟩;rotate_left
 ·rw[List.take_length] at hsome;have HJU:=aa hju;have HSO:=aa hsome;have hj3:(j:Int)<l3:=af
  have hj0:¬(j:Int)<0:=af
  have hjr:(c.vs.map vdF)[j]?=some (vdF u):=by rw[FA,hju];rfl
  have hir:(c.xs.map xdF)[i]?=some (xdF x):=by rw[FA,HX.out];rfl
  have HJR:=aa hjr;have HIR:=aa hir;obtain⟨gv,curv,hgv,hgvS,hgvl,hgvb⟩:=az.EM HO.v hjr;have hgv':a3=some ⟨gv,0,none⟩:=hgv;subst hgv';obtain⟨gx2,curx,hgx2,-,-,hgxb⟩:=az.EM HO.x hir;cases hgx2;have HVB:=aa hgvb;have HXB:=aa hgxb;have hvb:¬gv=b:=(HS.out gv hgvS).2;have HVS:=aa hgvS;have hxz:x.n.size<=9223372036854775807:=HZX.1;have huz:u.n.size<=9223372036854775807:=by have h1:=(HT.2.1.2.2.1.2.1 j u hju).1.2.1;omega
  clear hju hsome hjr hir hgv hgvS hgvb hgxb;go_wp2_with fail;rename_i K0 hK0;refine Gt.aU ar rfl rfl ar ?_;refine' au.an _ rfl ?_ ?_;rotate_left 1
  ·exact iA
  refine' au.an _ rfl ?_ ?_;rotate_left 1
  ·refine Obl.plain rfl ?_;intro ac wg K hsz hW hf hK;clear hsz;have e30:=hf 30 aj;simp[ai,Fp] at e30;clear hf;exact aT
  refine' au.an _ rfl ?_ ?_;rotate_left 1
  ·refine Obl.plain rfl ?_;intro ac wg K hsz hW hf hK;clear hsz;have e31:=hf 31 aj;simp[ai,Fp] at e31;clear hf;exact aT
  refine' au.an _ rfl ?_ ?_;rotate_left 1
  ·refine Obl.plain rfl ?_;intro ac wg K hsz hW hf hK;clear hsz;have e32:=hf 32 aj;simp[ai,Fp] at e32;exact pY
  refine' au.an _ rfl ?_ ?_;rotate_left 1
  ·exact lY
  refine' au.an _ rfl ?_ ?_;rotate_left 1
  ·exact qd
  refine' au.an _ rfl ?_ ?_;rotate_left 1
  ·refine Obl.plain rfl ?_;intro ac wg K hsz hW hf hK;clear hsz;have e35:=hf 35 aj;simp[ai,Fp] at e35;exact wM
  refine' au.an _ rfl ?_ ?_;rotate_left 1
  ·refine Obl.plain rfl ?_;intro ac wg K hsz hW hf hK;clear hsz;have e33:=hf 33 aj;simp[ai,Fp] at e33;have e34:=hf 34 aj;simp[ai,Fp] at e34;clear hf;exact aT
  refine' au.an _ rfl ?_ ?_;rotate_left 1
  ·exact xb
  refine au.done ?_;intro q wy hW hf;simp only[FJ] at hf;obtain⟨h38,h37,h36,h35,h34,h33,h32,h31,h30,-⟩:=hf;have HWY:=upB HB2 hW;have Bc3:=upK Bc2 hW;obtain⟨⟨v9,hcz⟩,hfz⟩:=az.E6 HO.v HWY.out HJR.out (i:=5) rfl;intro K hK;rw[if_pos bJ];simp only[aE,Gd,GG,Fy,FF,FL,h38,h37,h36,h35,h34,h33,h32,h31,h30];simp only[List.getLast];go_simp;refine hK _ _ ?_;refine hK0 _ _ ?_;clear hK hK0 K K0;have hV5:=az.Db HO.v HWY.out HJR.out (i:=5) rfl x.n hxz;have f1:=az.gQ (i:=j*8+5) (v:=.string x.n) HO.n HWY.out HVB.out aj aj;have f2:=az.gQ (i:=j*8+5) (v:=.string x.n) HO.k HWY.out HVB.out aj aj;have f4:=az.gQ (i:=j*8+5) (v:=.string x.n) HO.x HWY.out HVB.out aj aj;have f5:=az.gQ (i:=j*8+5) (v:=.string x.n) HO.p HWY.out HVB.out aj aj;have hK5:aC S w (wy.setCell ⟨gv,j*8+5,none⟩ (.string x.n)):=(aC.bZ HWY.out).set HVS.out;have hB5:(wy.setCell ⟨gv,j*8+5,none⟩ (.string x.n)).heap[b]?=_:=(Fm _ _ _ _ (show b≠gv from fun e=>hvb e.symm)).trans Bc3.out;have hx5:(wy.setCell ⟨gv,j*8+5,none⟩ (.string x.n)).heap[gx]?=some (.cells curx 105 (0,0)):=(Fm _ _ _ _ (show gx≠gv from fun e=>by have h1:=HXB.out;have h2:=HVB.out;rw[e,h2] at h1;simp at h1)).trans ((HWY.block _ (ae HXB.out)).trans HXB.out);obtain⟨cur5,hv5b⟩:∃cur5,(wy.setCell ⟨gv,j*8+5,none⟩ (.string x.n)).heap[gv]?=some (.cells cur5 99 (0,0)):=⟨_,aA ((HWY.block _ (ae HVB.out)).trans HVB.out) _⟩;clear hcz hfz;obtain⟨W5,hW5⟩:∃W5,W5=wy.setCell ⟨gv,j*8+5,none⟩ (.string x.n):=⟨_,rfl⟩;rw[<-hW5] at hV5 f1 f2 f4 f5 hK5 hB5 hx5 hv5b ⊢;have HV5:=aa hV5;have HF5:=aa (Fl f1 (Fl f2 (Fl f4 f5)));have HK5:=aa hK5;have Bc5:=aa hB5;have HX5:=aa hx5;have HVB5:=aa hv5b;have hjl5:j<l3:=af
  obtain⟨b5,o5,v5,e5,hbl5,hx5',hat5⟩:=bN (xs:=c.vs.set j (bdV u x.n)) (by rw[List.map_set];exact hV5.row) hjl5;cases e5;rw[dD hjl,if_pos rfl] at hx5';obtain rfl:=Fo hx5';obtain⟨va5,vl5,vc5,-,-,-,-,-,cn5,-,-,-,-,-,-,-⟩:=aK hat5;rw[FV] at cn5;have HCN5:Hid (W5.cell? ⟨gv,j*8,none⟩=some (.string u.n)):=cn5;clear hW5 hV5 f1 f2 f4 f5 hK5 hB5 hx5 hat5 cn5 hbl5 hx5' hv5b;go_wp2_with fail;rename_i K0 hK0;refine Gt.aU ar rfl rfl ar ?_;refine' au.an _ rfl ?_ ?_;rotate_left 1
  ·exact iA
  refine' au.an _ rfl ?_ ?_;rotate_left 1
  ·refine Obl.plain rfl ?_;intro ac wg K hsz hW hf hK;clear hsz;have e39:=hf 39 aj;simp[ai,Fp] at e39;clear hf;exact aT
  refine' au.an _ rfl ?_ ?_;rotate_left 1
  ·refine Obl.plain rfl ?_;intro ac wg K hsz hW hf hK;clear hsz;have e40:=hf 40 aj;simp[ai,Fp] at e40;clear hf;exact aT
  refine' au.an _ rfl ?_ ?_;rotate_left 1
  ·refine Obl.plain rfl ?_;intro ac wg K hsz hW hf hK;clear hsz;have e41:=hf 41 aj;simp[ai,Fp] at e41;exact wO
  refine' au.an _ rfl ?_ ?_;rotate_left 1
  ·exact ga
  refine' au.an _ rfl ?_ ?_;rotate_left 1
  ·exact iA
  refine' au.an _ rfl ?_ ?_;rotate_left 1
  ·refine Obl.plain rfl ?_;intro ac wg K hsz hW hf hK;clear hsz;have e44:=hf 44 aj;simp[ai,Fp] at e44;clear hf;exact aT
  refine' au.an _ rfl ?_ ?_;rotate_left 1
  ·refine Obl.plain rfl ?_;intro ac wg K hsz hW hf hK;clear hsz;have e45:=hf 45 aj;simp[ai,Fp] at e45;clear hf;exact aT
  refine' au.an _ rfl ?_ ?_;rotate_left 1
  ·refine Obl.plain rfl ?_;intro ac wg K hsz hW hf hK;clear hsz;have e46:=hf 46 aj;simp[ai,Fp] at e46;exact wO
  refine' au.an _ rfl ?_ ?_;rotate_left 1
  ·exact lY
  refine' au.an _ rfl ?_ ?_;rotate_left 1
  ·refine Obl.plain rfl ?_;intro ac wg K hsz hW hf hK;clear hsz;have e47:=hf 47 aj;simp[ai,Fp] at e47;have e48:=hf 48 aj;simp[ai,Fp] at e48;clear hf;exact aT
  refine' au.an _ rfl ?_ ?_;rotate_left 1
  ·refine Obl.plain rfl ?_;intro ac wg K hsz hW hf hK;clear hsz;have e49:=hf 49 aj;simp[ai,Fp] at e49;clear hf;exact aT
  refine' au.an _ rfl ?_ ?_;rotate_left 1
  ·refine Obl.plain rfl ?_;intro ac wg K hsz hW hf hK;clear hsz;have e50:=hf 50 aj;simp[ai,Fp] at e50;clear hf;have c7:=(ak hW (ae HVB5.out)).trans HCN5.out;exact aT
  refine' au.an _ rfl ?_ ?_;rotate_left 1
  ·refine Obl.plain rfl ?_;intro ac wg K hsz hW hf hK;clear hsz;have e42:=hf 42 aj;simp[ai,Fp] at e42;have e43:=hf 43 aj;simp[ai,Fp] at e43;clear hf;exact aT
  refine' au.an _ rfl ?_ ?_;rotate_left 1
  ·refine Obl.plain rfl ?_;intro ac wg K hsz hW hf hK;clear hsz;have e52:=hf 52 aj;simp[ai,Fp] at e52;clear hf;exact aT
  refine au.done ?_;intro q wx hW hf;simp only[FJ] at hf;obtain⟨h53,h52,h51,h50,h49,h48,h47,h46,h45,h44,h43,h42,h41,h40,h39,-⟩:=hf;have HWX:=aa hW;have Bc6:=upK Bc5 hW;obtain⟨⟨v9,hcz⟩,hfz⟩:=az.E6 HF5.2.2.1 hW HIR.out (i:=4) rfl;intro K hK;rw[if_pos bJ];simp only[aE,Gd,GG,Fy,FF,FL,h53,h52,h51,h50,h49,h48,h47,h46,h45,h44,h43,h42,h41,h40,h39];simp only[List.getLast];go_simp;refine hK _ _ ?_;refine hK0 _ _ ?_;clear hK hK0 K K0;have hX6:=az.Db HF5.2.2.1 HWX.out HIR.out (i:=4) rfl u.n huz;have f1:=az.gQ (i:=i*5+4) (v:=.string u.n) HF5.1 HWX.out HX5.out aj aj;have f2:=az.gQ (i:=i*5+4) (v:=.string u.n) HF5.2.1 HWX.out HX5.out aj aj;have f3:=az.gQ (i:=i*5+4) (v:=.string u.n) HV5.out HWX.out HX5.out aj aj;have f5:=az.gQ (i:=i*5+4) (v:=.string u.n) HF5.2.2.2 HWX.out HX5.out aj aj;have hK6:aC S w (wx.setCell ⟨gx,i*5+4,none⟩ (.string u.n)):=(HK5.below HWX.out).set HGS.out;have hB6:(wx.setCell ⟨gx,i*5+4,none⟩ (.string u.n)).heap[b]?=_:=(Fm _ _ _ _ (show b≠gx from fun e=>hgb e.symm)).trans Bc6.out;have hc6:(wx.setCell ⟨gx,i*5+4,none⟩ (.string u.n)).cell? ⟨gv,j*8,none⟩=some (.string u.n):=by
   have h9:=(ak HWX.out (ae HVB5.out)).trans HCN5.out;have hne:¬gv=gx:=fun e=>by have h1:=HX5.out;have h2:=HVB5.out;rw[<-e,h2] at h1;simp at h1
   have e9:(wx.setCell ⟨gx,i*5+4,none⟩ (.string u.n)).heap[gv]?=wx.heap[gv]?:=Fm _ _ _ _ hne;simp only[World.cell?,e9] at h9 ⊢;exact h9
  clear hcz hfz;obtain⟨W6,hW6⟩:∃W6,W6=wx.setCell ⟨gx,i*5+4,none⟩ (.string u.n):=⟨_,rfl⟩;rw[<-hW6] at hX6 f1 f2 f3 f5 hK6 hB6 hc6 ⊢;have HA6:Hid (ew W6 ⟨a1,l1,y1,a2,l2,y2,some ⟨gv,0,none⟩,l3,y3,some ⟨gx,0,none⟩,l4,y4,a5,l5,y5⟩ (dw c i j x u).raw S):=⟨f1,f2,by show az _ _ _ _ _ _ ((c.vs.set j (bdV u x.n)).map vdF) _;rw[List.map_set];exact f3,by show az _ _ _ _ _ _ ((c.xs.set i (bdX x u.n)).map xdF) _;rw[List.map_set];exact hX6,f5⟩;have HK6:=aa hK6;have HB6:=aa hB6;clear hW6 hX6 f1 f2 f3 f5 hK6;obtain⟨k0,k1,k2,k3,k4,k5⟩:=cs6 hB6;clear hB6;go_wp2;exact bodyPost_ret (v:=.tuple #[.string u.n,.int .i64 0]) (by simp[results,Tryz.results105,go_sem, *]) rfl (.inl ⟨j,u,HSO.out,HJU.out,rfl,HB6.out,HA6.out,HK6.out⟩)
 rw[List.take_length] at hnone;have HNO:=aa hnone;have hkr:(c.ks.map kdF)[jk]?=some (kdF kc):=by rw[FA,HK.1];rfl
 have hir:(c.xs.map xdF)[i]?=some (xdF x):=by rw[FA,HX.out];rfl
 have HIR:=aa hir;have hjk:jk<l2:=by have:=(Fk.1 HK.1).1;omega
 have hj2:(jk:Int)<l2:=af
 have hj0:¬(jk:Int)<0:=af
 obtain⟨gk,curk,hgk,-,hgkl,-⟩:=az.EM HO.k hkr;have hgk':a2=some ⟨gk,0,none⟩:=hgk;subst hgk';obtain⟨gx2,curx,hgx2,-,-,hgxb⟩:=az.EM HO.x hir;cases hgx2;have HXB:=aa hgxb;obtain⟨b2,o2,y',e2,hb2,hx2,hat⟩:=eW HO.k.row hjk;cases e2;rw[HK.1] at hx2;obtain rfl:=Fo hx2;obtain⟨zk0,zk3,d0,d1,d2,d3⟩:=cf hat;rw[FV] at d0 d1 d2 d3;have HKC:=aa (Fl d0 (Fl d1 (Fl d2 d3)));have HZK:=aa (Fl zk0 zk3);have HRK:=aa HO.k.row;have HGK:=aa hgkl;clear hnone hkr hir hgk hgxb hat hx2 hb2 zk0 zk3 d0 d1 d2 d3;go_wp2_with fail;rename_i K0 hK0;refine aU ar rfl rfl ar ?_;refine' au.an _ rfl ?_ ?_;rotate_left 1
 ·exact iA
 refine' au.an _ rfl ?_ ?_;rotate_left 1
 ·refine Obl.plain rfl ?_;intro ac wg K hsz hW hf hK;clear hsz;have e62:=hf 62 aj;simp[ai,Fp] at e62;clear hf;exact aT
 refine' au.an _ rfl ?_ ?_;rotate_left 1
 ·refine Obl.plain rfl ?_;intro ac wg K hsz hW hf hK;clear hsz;have e63:=hf 63 aj;simp[ai,Fp] at e63;clear hf;exact aT
 refine' au.an _ rfl ?_ ?_;rotate_left 1
 ·refine Obl.plain rfl ?_;intro ac wg K hsz hW hf hK;clear hsz;have e64:=hf 64 aj;simp[ai,Fp] at e64;exact pY
 refine' au.an _ rfl ?_ ?_;rotate_left 1
 ·exact iA
 refine' au.an _ rfl ?_ ?_;rotate_left 1
 ·refine Obl.plain rfl ?_;intro ac wg K hsz hW hf hK;clear hsz;have e66:=hf 66 aj;simp[ai,Fp] at e66;clear hf;exact aT
 refine' au.an _ rfl ?_ ?_;rotate_left 1
 ·refine Obl.plain rfl ?_;intro ac wg K hsz hW hf hK;clear hsz;have e67:=hf 67 aj;simp[ai,Fp] at e67;exact pY
 refine' au.an _ rfl ?_ ?_;rotate_left 1
 ·exact qd
 refine' au.an _ rfl ?_ ?_;rotate_left 1
 ·refine Obl.plain rfl ?_;intro ac wg K hsz hW hf hK;clear hsz;have e69:=hf 69 aj;simp[ai,Fp] at e69;exact wM
 refine au.step (fun v _=>v=.int .i64 jk) rfl (Fact.cv _) ?_ ?_
 ·refine Obl.plain rfl ?_;intro ac wg K hsz hW hf hK;clear hsz;have e68:=hf 68 aj;simp[ai,Fp] at e68;have e70:=hf 70 aj;simp[ai,Fp] at e70;clear hf;go_simp;refine (dX ⟨a1,l1,y1,some ⟨gk,0,none⟩,l2,y2,a3,l3,y3,some ⟨gx,0,none⟩,l4,y4,a5,l5,y5⟩ c.now c.ks x.k _ (HRK.below (HB2.trans (hW.mono HB2.size))) HT.2.1.2.1.2.2 HK.1 HK.2).mono ?_;rintro e w6 ⟨rfl,hb6⟩;exact hK _ _ hb6 rfl
 refine' au.an _ rfl ?_ ?_;rotate_left 1
 ·refine Obl.plain rfl ?_;intro ac wg K hsz hW hf hK;clear hsz;have e65:=hf 65 aj;simp[ai,Fp] at e65;have e71:=hf 71 aj;simp[ai,Fp] at e71;clear hf;exact aT
 refine' au.an _ rfl ?_ ?_;rotate_left 1
 ·refine Obl.plain rfl ?_;intro ac wg K hsz hW hf hK;clear hsz;have e72:=hf 72 aj;simp[ai,Fp] at e72;clear hf;obtain⟨d0,d1,d2,d3⟩:=HKC.out;have hbg:=HB2.trans (hW.mono HB2.size);replace d0:=(ak hbg HGK.out).trans d0;replace d1:=(ak hbg HGK.out).trans d1;replace d2:=(ak hbg HGK.out).trans d2;replace d3:=(ak hbg HGK.out).trans d3;exact aT
 refine au.step (Bl wz.heap.size) rfl (Bl.mono _) ?_ ?_
 ·exact nW
 refine au.done ?_;intro q wy hW hf;simp only[FJ] at hf;obtain⟨⟨b9,h10,hb9,hg9⟩,h73,h72,h71,h70,h69,h68,h67,h66,h65,h64,h63,h62,-⟩:=hf;have g0:=hg9;have g1:(wy.setCell ⟨b9,0,none⟩ (.string kc.n)).heap[b9]?=some (.cells #[.string kc.n,.bool false,.bool false,.string ⟨#[]⟩] 102 (0,0)):=aA g0 _;have g2:((wy.setCell ⟨b9,0,none⟩ (.string kc.n)).setCell ⟨b9,1,none⟩ (.bool kc.x)).heap[b9]?=some (.cells #[.string kc.n,.bool kc.x,.bool false,.string ⟨#[]⟩] 102 (0,0)):=aA g1 _;have g3:(((wy.setCell ⟨b9,0,none⟩ (.string kc.n)).setCell ⟨b9,1,none⟩ (.bool kc.x)).setCell ⟨b9,2,none⟩ (.bool kc.y)).heap[b9]?=some (.cells #[.string kc.n,.bool kc.x,.bool kc.y,.string ⟨#[]⟩] 102 (0,0)):=aA g2 _;have g4:((((wy.setCell ⟨b9,0,none⟩ (.string kc.n)).setCell ⟨b9,1,none⟩ (.bool kc.x)).setCell ⟨b9,2,none⟩ (.bool kc.y)).setCell ⟨b9,3,none⟩ (.string kc.z)).heap[b9]?=some (.cells #[.string kc.n,.bool kc.x,.bool kc.y,.string kc.z] 102 (0,0)):=aA g3 _;obtain⟨t0,t1,t2,t3⟩:=cs4 hg9;have f0:=av hg9 0;have f1:=av hg9 1;have f2:=av hg9 2;have f3:=av hg9 3;have Bn:=aa g4;have HWX:Hid (Below wz.heap.size wz ((((wy.setCell ⟨b9,0,none⟩ (.string kc.n)).setCell ⟨b9,1,none⟩ (.bool kc.x)).setCell ⟨b9,2,none⟩ (.bool kc.y)).setCell ⟨b9,3,none⟩ (.string kc.z))):=ah hb9 (ah hb9 (ah hb9 (ah hb9 (hW))));clear g0 g1 g2 g3 g4 hg9;intro K hK;rw[if_pos bJ];simp only[aE,Gd,GG,Fy,FF,FL,h10,h73,h72,h71,h70,h69,h68,h67,h66,h65,h64,h63,h62];simp only[List.getLast];go_simp;refine hK _ _ ?_;refine hK0 _ _ ?_;clear hK hK0 K K0;generalize ((((wy.setCell ⟨b9,0,none⟩ (.string kc.n)).setCell ⟨b9,1,none⟩ (.bool kc.x)).setCell ⟨b9,2,none⟩ (.bool kc.y)).setCell ⟨b9,3,none⟩ (.string kc.z))=X3 at Bn HWX ⊢;clear t0 t1 t2 t3 f0 f1 f2 f3;have HB3:=aa (HB2.trans (HWX.mono HB2.size));have Bc3:=upK Bc2 HWX.out;have Bx3:=upK Bx2 HWX.out;have hb9':w.heap.size<b9:=af
 clear hW HWX HB2 Bc2 Bx2;by_cases hte:t=⟨#[]⟩
 ·have hq:=cU hte;have HZO:Hid (aW t kc.z=kc.z):=by show aW _ _=_;unfold aW;rw[if_pos hte]
  clear hte;have hzn:¬kc.z=⟨#[]⟩->aO kc.z:=fun h=>((HT.2.1.2.1.2.1 jk kc HK.1).2.resolve_left h);obtain⟨x0,x1,x2,x3,x4⟩:=cs5 Bx3;obtain⟨n0,n1,n2,n3⟩:=cs4 Bn;have hxl:=ae Bx3.out;have hnl:=ae Bn.out;go_wp2_with fail;clear x0 x1 x2 x3 x4 n0 n1 n2 n3;by_cases hm:ia x.n x.k x.v kc.n kc.z kc.z;rotate_left
  ·refine (uC x.n x.z x.k x.x x.v kc.n kc.x kc.y kc.z kc.z _ HZX.1 hm).mono ?_;exact wi
  refine (rZ x.n x.z x.k x.x x.v kc.n kc.x kc.y kc.z kc.z _ hm).mono ?_;rintro e w5 ⟨rfl,hb⟩;have HM:=aa hm;have HB5:=upB HB3 hb;have Bc5:=upK Bc3 hb;clear hb hm Bc3 Bx3 Bn hxl hnl;by_cases hz:kc.z=⟨#[]⟩
  ·have HNM:Hid (¬ed x kc t):=fun h=>h.1 (by rw[HZO.out];exact hz);have hq2:=cU hz;clear hz;exact vL
  have HMV:Hid (ed x kc t):=⟨by rw[HZO.out];exact hz,by rw[HZO.out];exact HM.out⟩;have hzno:=hzn hz;have HZN:=aa hzno;have hq2:=bc hz;clear hz hzno hzn;go_wp2_with fail;clear hq2;obtain⟨W,hW0⟩:∃W,W=w5.alloc (.cells #[.string (aD++x.n),.int .i64 x.z,.string kc.z,.string x.k,.bool x.x,.string x.n,.bool false,.slice none 0 0] 99):=⟨_,rfl⟩;have BcW:=aa ((Fw w5 (.cells #[.string (aD++x.n),.int .i64 x.z,.string kc.z,.string x.k,.bool x.x,.string x.n,.bool false,.slice none 0 0] 99) _ (ae Bc5.out)).trans Bc5.out);have BvW:=aa (heap_alloc_new w5 (.cells #[.string (aD++x.n),.int .i64 x.z,.string kc.z,.string x.k,.bool x.x,.string x.n,.bool false,.slice none 0 0] 99));have HBW:=aa (HB5.trans ((al w5 (.cells #[.string (aD++x.n),.int .i64 x.z,.string kc.z,.string x.k,.bool x.x,.string x.n,.bool false,.slice none 0 0] 99)).mono HB5.size));have hw5:w.heap.size<=w5.heap.size:=HB5.size;rw[<-hW0] at BcW BvW HBW ⊢;clear hW0 Bc5 HB5;cases hh:hit Vd.n c.vs (aD++x.n);rotate_left
  ·exact wH
  have HH:=aa hh;clear hh;by_cases h8:l3<8;rotate_left
  ·exact wG
  rename_i K0 hK0;refine bo (back:=none) ar (GA _).symm ar ?_;refine' au.an _ rfl ?_ ?_;rotate_left 1
  ·exact eu
  refine' au.an _ rfl ?_ ?_;rotate_left 1
  ·exact wC
  refine' au.an _ rfl ?_ ?_;rotate_left 1
  ·exact vS
  refine' au.an _ rfl ?_ ?_;rotate_left 1
  ·exact lU
  refine' au.an _ rfl ?_ ?_;rotate_left 1
  ·exact wF
  refine au.step (fun v _=>v=.int .i64 (-1)) rfl (Fact.cv _) ?_ ?_
  ·exact yI
  refine' au.an (.bool false) rfl ?_ ?_
  ·exact wB
  refine' au.an _ rfl ?_ ?_;rotate_left 1
  ·exact eu
  refine' au.an _ rfl ?_ ?_;rotate_left 1
  ·exact wv
  refine' au.an _ rfl ?_ ?_;rotate_left 1
  ·exact wA
  refine' au.an _ rfl ?_ ?_;rotate_left 1
  ·exact vT
  refine' au.an (.int .i64 l3) rfl ?_ ?_
  ·exact wE
  refine au.step (fun v _=>v=.int .i64 0) rfl (Fact.cv _) ?_ ?_
  ·exact yQ
  refine' au.an _ rfl ?_ ?_;rotate_left 1
  ·exact wD
  refine au.done ?_;intro q wy hW hf;simp only[FJ] at hf;obtain⟨h13,h103,h102,h101,h100,h99,h98,h97,h96,h95,h94,h93,h92,h91,-⟩:=hf;have HWY:=aa hW;clear hW;refine hK0 _ _ ?_;simp only[aE,Gd,GG,Fy,FF,FL,h13,h103,h102,h101,h100,h99,h98,h97,h96,h95,h94,h93,h92,h91];clear hK0;have Bc6:=upK BcW HWY.out;have Bv6:=upK BvW HWY.out;have HB6:=aa (HBW.trans (HWY.mono HBW.size));have hw6:w5.heap.size<wy.heap.size:=ae Bv6.out;clear HBW HWY BcW BvW;go_wp2_with fail;obtain⟨hxo,hZ1,hZ2,hZ0⟩:=BT;have hZ3:kc.z.size<=9223372036854775807:=by have h1:=HZN.2.1;omega
  clear hxo;rename_i K0 hK0;refine Gt.aU ar rfl rfl ar ?_;refine' au.an _ rfl ?_ ?_;rotate_left 1
  ·exact eu
  refine' au.an _ rfl ?_ ?_;rotate_left 1
  ·exact eu
  refine' au.an _ rfl ?_ ?_;rotate_left 1
  ·exact we
  refine' au.an _ rfl ?_ ?_;rotate_left 1
  ·exact wb
  refine' au.an _ rfl ?_ ?_;rotate_left 1
  ·exact wj
  refine' au.an _ rfl ?_ ?_;rotate_left 1
  ·exact wk
  refine au.step (t_ w S (c_ c i x kc.z).vs) rfl (t_.mono _ _ _) ?_ ?_
  ·refine Obl.plain rfl ?_;intro ac wg K hsz hW hf hK;clear hsz;have e111:=hf 111 aj;simp[ai,Fp] at e111;have e112:=hf 112 aj;simp[ai,Fp] at e112;clear hf;go_simp;refine (mV a3 l3 y3 c.vs (mkV x kc.z) none 0 0 0 S (fun _=>False) _ (HO.v.below (HB6.trans (hW.mono HB6.size))) af (fun q f hf=>?_) (fun _ _ h=>h)).mono ?_
   ·exact CG
   exact wq
  refine' au.an _ rfl ?_ ?_;rotate_left 1
  ·exact wh
  refine' au.an _ rfl ?_ ?_;rotate_left 1
  ·exact wc
  refine au.done ?_;intro q wx hW hf;simp only[FJ] at hf;obtain⟨h115,h114,h113,h112,h111,h110,h109,h108,h107,-⟩:=hf;obtain⟨q3,m3,z3,hv113,ho7⟩:=h113;have HO7:=aa ho7;have HWX:=upB HB6 hW;have Bc7:=upK Bc6 hW;have Bv7:=upK Bv6 hW;obtain⟨k0,k1,k2,k3,k4,k5⟩:=cs6 Bc7;have hfz:=av Bc7.out 2;have hbl7:=ae Bc7.out;clear ho7 hW;intro K hK;rw[if_pos bJ];simp only[aE,Gd,GG,Fy,FF,FL,h115,h114,h112,h111,h110,h109,h108,h107,hv113];simp only[List.getLast];go_simp;refine hK _ _ ?_;refine hK0 _ _ ?_;clear hK hK0 K K0;clear k0 k1 k2 k3 k4 k5 hfz;have hnb:∀k,(S k\/w.heap.size<=k)->¬k=b:=fun k h=>by
   rcases h with h|h
   ·exact (HS.out k h).2
   ·omega
  obtain⟨kp,f1,f2,f4,f5,f3,hB8⟩:=Cd;have hv8:(wx.setCell ⟨b,2,none⟩ (.slice q3 m3 z3)).heap[w5.heap.size]?=some (.cells #[.string (aD++x.n),.int .i64 x.z,.string kc.z,.string x.k,.bool x.x,.string x.n,.bool false,.slice none 0 0] 99 (0,0)):=(Fm _ _ _ _ (show w5.heap.size≠b by omega)).trans Bv7.out;exact xC
 ·have hq:=bc hte;have HZO:Hid (aW t kc.z=t):=by show aW _ _=_;unfold aW;rw[if_neg hte]
  clear hte;have hzn:¬t=⟨#[]⟩->aO t:=fun h=>HTZ.resolve_left h;obtain⟨x0,x1,x2,x3,x4⟩:=cs5 Bx3;obtain⟨n0,n1,n2,n3⟩:=cs4 Bn;have hxl:=ae Bx3.out;have hnl:=ae Bn.out;go_wp2_with fail;clear x0 x1 x2 x3 x4 n0 n1 n2 n3;by_cases hm:ia x.n x.k x.v kc.n kc.z t;rotate_left
  ·refine (uC x.n x.z x.k x.x x.v kc.n kc.x kc.y kc.z t _ HZX.1 hm).mono ?_;exact wi
  refine (rZ x.n x.z x.k x.x x.v kc.n kc.x kc.y kc.z t _ hm).mono ?_;rintro e w5 ⟨rfl,hb⟩;have HM:=aa hm;have HB5:=upB HB3 hb;have Bc5:=upK Bc3 hb;clear hb hm Bc3 Bx3 Bn hxl hnl;by_cases hz:t=⟨#[]⟩
  ·have HNM:Hid (¬ed x kc t):=fun h=>h.1 (by rw[HZO.out];exact hz);clear hq;have hq2:=cU hz;clear hz;exact vL
  have HMV:Hid (ed x kc t):=⟨by rw[HZO.out];exact hz,by rw[HZO.out];exact HM.out⟩;have hzno:=hzn hz;have HZN:=aa hzno;clear hq;have hq2:=bc hz;clear hz hzno hzn;go_wp2_with fail;clear hq2;obtain⟨W,hW0⟩:∃W,W=w5.alloc (.cells #[.string (aD++x.n),.int .i64 x.z,.string t,.string x.k,.bool x.x,.string x.n,.bool false,.slice none 0 0] 99):=⟨_,rfl⟩;have BcW:=aa ((Fw w5 (.cells #[.string (aD++x.n),.int .i64 x.z,.string t,.string x.k,.bool x.x,.string x.n,.bool false,.slice none 0 0] 99) _ (ae Bc5.out)).trans Bc5.out);have BvW:=aa (heap_alloc_new w5 (.cells #[.string (aD++x.n),.int .i64 x.z,.string t,.string x.k,.bool x.x,.string x.n,.bool false,.slice none 0 0] 99));have HBW:=aa (HB5.trans ((al w5 (.cells #[.string (aD++x.n),.int .i64 x.z,.string t,.string x.k,.bool x.x,.string x.n,.bool false,.slice none 0 0] 99)).mono HB5.size));have hw5:w.heap.size<=w5.heap.size:=HB5.size;rw[<-hW0] at BcW BvW HBW ⊢;clear hW0 Bc5 HB5;cases hh:hit Vd.n c.vs (aD++x.n);rotate_left
  ·exact wH
  have HH:=aa hh;clear hh;by_cases h8:l3<8;rotate_left
  ·exact wG
  rename_i K0 hK0;refine bo (back:=none) ar (GA _).symm ar ?_;refine' au.an _ rfl ?_ ?_;rotate_left 1
  ·exact eu
  refine' au.an _ rfl ?_ ?_;rotate_left 1
  ·exact wC
  refine' au.an _ rfl ?_ ?_;rotate_left 1
  ·exact vS
  refine' au.an _ rfl ?_ ?_;rotate_left 1
  ·exact lU
  refine' au.an _ rfl ?_ ?_;rotate_left 1
  ·exact wF
  refine au.step (fun v _=>v=.int .i64 (-1)) rfl (Fact.cv _) ?_ ?_
  ·exact yI
  refine' au.an (.bool false) rfl ?_ ?_
  ·exact wB
  refine' au.an _ rfl ?_ ?_;rotate_left 1
  ·exact eu
  refine' au.an _ rfl ?_ ?_;rotate_left 1
  ·exact wv
  refine' au.an _ rfl ?_ ?_;rotate_left 1
  ·exact wA
  refine' au.an _ rfl ?_ ?_;rotate_left 1
  ·exact vT
  refine' au.an (.int .i64 l3) rfl ?_ ?_
  ·exact wE
  refine au.step (fun v _=>v=.int .i64 0) rfl (Fact.cv _) ?_ ?_
  ·exact yQ
  refine' au.an _ rfl ?_ ?_;rotate_left 1
  ·exact wD
  refine au.done ?_;intro q wy hW hf;simp only[FJ] at hf;obtain⟨h13,h103,h102,h101,h100,h99,h98,h97,h96,h95,h94,h93,h92,h91,-⟩:=hf;have HWY:=aa hW;clear hW;refine hK0 _ _ ?_;simp only[aE,Gd,GG,Fy,FF,FL,h13,h103,h102,h101,h100,h99,h98,h97,h96,h95,h94,h93,h92,h91];clear hK0;have Bc6:=upK BcW HWY.out;have Bv6:=upK BvW HWY.out;have HB6:=aa (HBW.trans (HWY.mono HBW.size));have hw6:w5.heap.size<wy.heap.size:=ae Bv6.out;clear HBW HWY BcW BvW;go_wp2_with fail;obtain⟨hxo,hZ1,hZ2,hZ0⟩:=BT;have hZ3:t.size<=9223372036854775807:=by have h1:=HZN.2.1;omega
  clear hxo;rename_i K0 hK0;refine Gt.aU ar rfl rfl ar ?_;refine' au.an _ rfl ?_ ?_;rotate_left 1
  ·exact eu
  refine' au.an _ rfl ?_ ?_;rotate_left 1
  ·exact eu
  refine' au.an _ rfl ?_ ?_;rotate_left 1
  ·exact we
  refine' au.an _ rfl ?_ ?_;rotate_left 1
  ·exact wb
  refine' au.an _ rfl ?_ ?_;rotate_left 1
  ·exact wj
  refine' au.an _ rfl ?_ ?_;rotate_left 1
  ·exact wk
  refine au.step (t_ w S (c_ c i x t).vs) rfl (t_.mono _ _ _) ?_ ?_
  ·refine Obl.plain rfl ?_;intro ac wg K hsz hW hf hK;clear hsz;have e111:=hf 111 aj;simp[ai,Fp] at e111;have e112:=hf 112 aj;simp[ai,Fp] at e112;clear hf;go_simp;refine (mV a3 l3 y3 c.vs (mkV x t) none 0 0 0 S (fun _=>False) _ (HO.v.below (HB6.trans (hW.mono HB6.size))) af (fun q f hf=>?_) (fun _ _ h=>h)).mono ?_
   ·exact CG
   exact wq
  refine' au.an _ rfl ?_ ?_;rotate_left 1
  ·exact wh
  refine' au.an _ rfl ?_ ?_;rotate_left 1
  ·exact wc
  refine au.done ?_;intro q wx hW hf;simp only[FJ] at hf;obtain⟨h115,h114,h113,h112,h111,h110,h109,h108,h107,-⟩:=hf;obtain⟨q3,m3,z3,hv113,ho7⟩:=h113;have HO7:=aa ho7;have HWX:=upB HB6 hW;have Bc7:=upK Bc6 hW;have Bv7:=upK Bv6 hW;obtain⟨k0,k1,k2,k3,k4,k5⟩:=cs6 Bc7;have hfz:=av Bc7.out 2;have hbl7:=ae Bc7.out;clear ho7 hW;intro K hK;rw[if_pos bJ];simp only[aE,Gd,GG,Fy,FF,FL,h115,h114,h112,h111,h110,h109,h108,h107,hv113];simp only[List.getLast];go_simp;refine hK _ _ ?_;refine hK0 _ _ ?_;clear hK hK0 K K0;clear k0 k1 k2 k3 k4 k5 hfz;have hnb:∀k,(S k\/w.heap.size<=k)->¬k=b:=fun k h=>by
   rcases h with h|h
   ·exact (HS.out k h).2
   ·omega
  obtain⟨kp,f1,f2,f4,f5,f3,hB8⟩:=Cd;have hv8:(wx.setCell ⟨b,2,none⟩ (.slice q3 m3 z3)).heap[w5.heap.size]?=some (.cells #[.string (aD++x.n),.int .i64 x.z,.string t,.string x.k,.bool x.x,.string x.n,.bool false,.slice none 0 0] 99 (0,0)):=(Fm _ _ _ _ (show w5.heap.size≠b by omega)).trans Bv7.out;exact xC

end Rc
end Go.Proofs.YtpejepeekdjfoaaGreatDoor

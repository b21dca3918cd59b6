import Derived.Test.YtmknjejaochfjaaGreatDoorA4
import Derived.RangeFuncNested
import Derived.RangeFuncBound
import Derived.RangeFuncCalls
import Derived.RangeFuncLeaves
import Derived.Shelf.Abstract
import Derived.Shelf.RegionOpen
import Derived.WalkKit
import Derived.OwnWalkIn
import Derived.TacticsInMore
import Derived.LoopNIn
import Derived.LoopIn
import Derived.ScopeJumps
import Derived.WalkMore
/-
 MakeFor of the specification and of the program: what it answers.
-/
set_option maxRecDepth 100000
set_option maxHeartbeats 12800000
namespace Go.Proofs.YtmknjejaochfjaaGreatDoor
open Go.RowKit

def wMade : ByteArray:=⟨#[118,95]⟩
def MakeM (n' k' v' n z t : ByteArray) : Prop:=k' = n ∧ v' = ⟨#[]⟩ ∧ (z = ⟨#[]⟩ ∨ z = t) ∧ n'.size ≤ 18
def MakeR (n' : ByteArray) (c' : Int) (k' v' n z t : ByteArray) : Prop:=ClaimOk n' c' k' v' ∧ ClassOk n z ∧ NameOk t
def MakeZ (n0 : ByteArray) (c0 : Int) (z0 k0 : ByteArray) (x0 : Bool) (m0 : ByteArray) : Prop:=n0 = ⟨#[]⟩ ∧ c0 = 0 ∧ z0 = ⟨#[]⟩ ∧ k0 = ⟨#[]⟩ ∧ x0 = false ∧ m0 = ⟨#[]⟩
def MakeIs (n' : ByteArray) (c' : Int) (k' : ByteArray) (x' : Bool) (v' n z t : ByteArray) (n0 : ByteArray) (c0 : Int) (z0 k0 : ByteArray) (x0 : Bool) (m0 : ByteArray) (p0 : Int) : Prop :=
 (8000 < t.size ∧ MakeZ n0 c0 z0 k0 x0 m0 ∧ p0 = 2) ∨ (¬ 8000 < t.size ∧ ¬ MakeR n' c' k' v' n z t ∧ MakeZ n0 c0 z0 k0 x0 m0 ∧ p0 = 1) ∨
 (¬ 8000 < t.size ∧ MakeR n' c' k' v' n z t ∧ ¬ MakeM n' k' v' n z t ∧ MakeZ n0 c0 z0 k0 x0 m0 ∧ p0 = 10) ∨
 (¬ 8000 < t.size ∧ MakeR n' c' k' v' n z t ∧ MakeM n' k' v' n z t ∧ (n0 = wMade ++ n' ∧ c0 = c' ∧ z0 = t ∧ k0 = k' ∧ x0 = x' ∧ m0 = n') ∧ p0 = 0)
def MakeAns (n' : ByteArray) (c' : Int) (k' : ByteArray) (x' : Bool) (v' : ByteArray) (n z : ByteArray) (t : ByteArray) (w : World) (e : Ending) (w' : World) : Prop :=
 ∃ n0 c0 z0 k0 x0 m0 p0,e = .returned (.agg #[.string n0,.int .i64 c0,.string z0,.string k0,.bool x0,.string m0,.bool false,.slice none 0 0,.int .i64 p0]) ∧ MakeIs n' c' k' x' v' n z t n0 c0 z0 k0 x0 m0 p0 ∧ Below w.heap.size w w'
theorem set_below9 {w w1 : World} {B b : Nat} {v0 v1 v2 v3 v4 v5 v6 v7 v8 : Value} (hB : B ≤ b) (h : Below B w w1) :
  Below B w (((((((((w1.setCell ⟨b,0,none⟩ (v0)).setCell ⟨b,1,none⟩ (v1)).setCell ⟨b,2,none⟩ (v2)).setCell ⟨b,3,none⟩ (v3)).setCell ⟨b,4,none⟩ (v4)).setCell ⟨b,5,none⟩ (v5)).setCell ⟨b,6,none⟩ (v6)).setCell ⟨b,7,none⟩ (v7)).setCell ⟨b,8,none⟩ (v8)) :=
 ((((((((h.setCell (p:=⟨b,0,none⟩) hB v0).setCell (p:=⟨b,1,none⟩) hB v1).setCell (p:=⟨b,2,none⟩) hB v2).setCell (p:=⟨b,3,none⟩) hB v3).setCell (p:=⟨b,4,none⟩) hB v4).setCell (p:=⟨b,5,none⟩) hB v5).setCell (p:=⟨b,6,none⟩) hB v6).setCell (p:=⟨b,7,none⟩) hB v7).setCell (p:=⟨b,8,none⟩) hB v8
theorem made_add {n' : ByteArray} (h : n'.size ≤ 18) : (⟨#[118,95]⟩ : ByteArray).size + n'.size ≤ 9223372036854775807:=by rw [show (⟨#[118,95]⟩ : ByteArray).size = 2 from rfl];omega

theorem smk_no (n' : ByteArray) (c' : Int) (k' : ByteArray) (x' : Bool) (v' : ByteArray) (n : ByteArray) (x : Bool) (y : Bool) (z : ByteArray) (t : ByteArray) (w : World) (hn' : n'.size ≤ 9223372036854775807) (hm : ¬ MakeM n' k' v' n z t) :
  Calls Tryz.prog 52 #[.agg #[.string n',.int .i64 c',.string k',.bool x',.string v'],.agg #[.string n,.bool x,.bool y,.string z],.string t] w fun e w' => e = .returned (.tuple #[.agg #[.string ⟨#[]⟩,.int .i64 0,.string ⟨#[]⟩,.string ⟨#[]⟩,.bool false,.string ⟨#[]⟩,.bool false,.slice none 0 0],.bool false]) ∧ Below w.heap.size w w':=by
 have HM:=hidK hm;clear hm
 by_cases h0 : k' = n
 case neg =>
  have q0:=tl_no h0;clear h0
  go_enter Tryz.func52,Tryz.ntmps52
  go_wp2_with fail;exact bodyPost_ret (v:=.tuple #[.agg #[.string ⟨#[]⟩,.int .i64 0,.string ⟨#[]⟩,.string ⟨#[]⟩,.bool false,.string ⟨#[]⟩,.bool false,.slice none 0 0],.bool false]) (by simp [results,Tryz.results52,go_sem]) rfl ⟨rfl,below3 _ _ _ _⟩
 have q0:=tl_yes h0;have H0:=hidK h0;clear h0
 by_cases h1 : v' = ⟨#[]⟩
 case neg =>
  have q1:=isE_no h1;clear h1
  go_enter Tryz.func52,Tryz.ntmps52
  go_wp2_with fail;exact bodyPost_ret (v:=.tuple #[.agg #[.string ⟨#[]⟩,.int .i64 0,.string ⟨#[]⟩,.string ⟨#[]⟩,.bool false,.string ⟨#[]⟩,.bool false,.slice none 0 0],.bool false]) (by simp [results,Tryz.results52,go_sem]) rfl ⟨rfl,below3 _ _ _ _⟩
 have q1 : v'.toList.isEmpty = true:=(isE_iff v').2 h1;have H1:=hidK h1;clear h1
 by_cases h3 : 18 < n'.size
 ·by_cases h2 : z = ⟨#[]⟩
  ·have q2 : z.toList.isEmpty = true:=(isE_iff z).2 h2;clear h2
   go_enter Tryz.func52,Tryz.ntmps52
   go_wp2_with fail;exact bodyPost_ret (v:=.tuple #[.agg #[.string ⟨#[]⟩,.int .i64 0,.string ⟨#[]⟩,.string ⟨#[]⟩,.bool false,.string ⟨#[]⟩,.bool false,.slice none 0 0],.bool false]) (by simp [results,Tryz.results52,go_sem]) rfl ⟨rfl,below3 _ _ _ _⟩
  ·have q2:=isE_no h2
   by_cases h4 : z = t
   ·have q4:=tl_yes h4;clear h4 h2
    go_enter Tryz.func52,Tryz.ntmps52
    go_wp2_with fail;exact bodyPost_ret (v:=.tuple #[.agg #[.string ⟨#[]⟩,.int .i64 0,.string ⟨#[]⟩,.string ⟨#[]⟩,.bool false,.string ⟨#[]⟩,.bool false,.slice none 0 0],.bool false]) (by simp [results,Tryz.results52,go_sem]) rfl ⟨rfl,below3 _ _ _ _⟩
   ·have q4:=tl_no h4;clear h4 h2
    go_enter Tryz.func52,Tryz.ntmps52
    go_wp2_with fail;exact bodyPost_ret (v:=.tuple #[.agg #[.string ⟨#[]⟩,.int .i64 0,.string ⟨#[]⟩,.string ⟨#[]⟩,.bool false,.string ⟨#[]⟩,.bool false,.slice none 0 0],.bool false]) (by simp [results,Tryz.results52,go_sem]) rfl ⟨rfl,below3 _ _ _ _⟩
 by_cases h2 : z = ⟨#[]⟩
 ·exact absurd ⟨H0.out,H1.out,.inl h2,by omega⟩ HM.out
 have q2:=isE_no h2
 by_cases h4 : z = t
 ·exact absurd ⟨H0.out,H1.out,.inr h4,by omega⟩ HM.out
 have q4:=tl_no h4;clear h4 h2
 go_enter Tryz.func52,Tryz.ntmps52
 go_wp2_with fail;exact bodyPost_ret (v:=.tuple #[.agg #[.string ⟨#[]⟩,.int .i64 0,.string ⟨#[]⟩,.string ⟨#[]⟩,.bool false,.string ⟨#[]⟩,.bool false,.slice none 0 0],.bool false]) (by simp [results,Tryz.results52,go_sem]) rfl ⟨rfl,below3 _ _ _ _⟩

theorem smk_yes (n' : ByteArray) (c' : Int) (k' : ByteArray) (x' : Bool) (v' : ByteArray) (n : ByteArray) (x : Bool) (y : Bool) (z : ByteArray) (t : ByteArray) (w : World) (hm : MakeM n' k' v' n z t) :
  Calls Tryz.prog 52 #[.agg #[.string n',.int .i64 c',.string k',.bool x',.string v'],.agg #[.string n,.bool x,.bool y,.string z],.string t] w fun e w' => e = .returned (.tuple #[.agg #[.string (wMade ++ n'),.int .i64 c',.string t,.string k',.bool x',.string n',.bool false,.slice none 0 0],.bool true]) ∧ Below w.heap.size w w':=by
 obtain ⟨h0,h1,h2,h3⟩:=hm;have q0:=tl_yes h0;have q1 : v'.toList.isEmpty = true:=(isE_iff v').2 h1;have q5:=made_add h3;clear h0 h1
 by_cases h4 : z = ⟨#[]⟩
 ·have q2 : z.toList.isEmpty = true:=(isE_iff z).2 h4;clear h4 h2
  go_enter Tryz.func52,Tryz.ntmps52
  go_wp2_with fail;exact bodyPost_ret (v:=.tuple #[.agg #[.string (wMade ++ n'),.int .i64 c',.string t,.string k',.bool x',.string n',.bool false,.slice none 0 0],.bool true]) (by simp [results,Tryz.results52,go_sem,wMade]) rfl ⟨rfl,below3 _ _ _ _⟩
 ·have q2:=isE_no h4;have q4:=tl_yes (h2.resolve_left h4);clear h4 h2
  go_enter Tryz.func52,Tryz.ntmps52
  go_wp2_with fail;exact bodyPost_ret (v:=.tuple #[.agg #[.string (wMade ++ n'),.int .i64 c',.string t,.string k',.bool x',.string n',.bool false,.slice none 0 0],.bool true]) (by simp [results,Tryz.results52,go_sem,wMade]) rfl ⟨rfl,below3 _ _ _ _⟩

theorem imake_any (n' : ByteArray) (c' : Int) (k' : ByteArray) (x' : Bool) (v' : ByteArray) (n : ByteArray) (x : Bool) (y : Bool) (z : ByteArray) (t : ByteArray) (w : World) (hn' : n'.size ≤ 9223372036854775807) (hk' : k'.size ≤ 9223372036854775807) (hv' : v'.size ≤ 9223372036854775807) (hn : n.size ≤ 9223372036854775807) (hz : z.size ≤ 9223372036854775807) (ht : t.size ≤ 9223372036854775807) :
  Calls Tryz.prog 100 #[.agg #[.string n',.int .i64 c',.string k',.bool x',.string v'],.agg #[.string n,.bool x,.bool y,.string z],.string t] w (MakeAns n' c' k' x' v' n z t w):=by
 by_cases hl : 8000 < t.size
 ·have HL:=hidK hl
  go_enter Tryz.func100,Tryz.ntmps100
  go_wp2_with fail;refine (long_yes t _ hl).mono ?_;rintro e w1 ⟨rfl,rfl⟩;go_wp2_with fail;exact bodyPost_ret (v:=.agg #[.string ⟨#[]⟩,.int .i64 0,.string ⟨#[]⟩,.string ⟨#[]⟩,.bool false,.string ⟨#[]⟩,.bool false,.slice none 0 0,.int .i64 2]) (by simp [results,Tryz.results100,go_sem]) rfl ⟨_,_,_,_,_,_,_,rfl,.inl ⟨HL.out,⟨rfl,rfl,rfl,rfl,rfl,rfl⟩,rfl⟩,below3 _ _ _ _⟩
 have HL:=hidK hl
 go_enter Tryz.func100,Tryz.ntmps100
 go_wp2_with fail;refine (long_no t _ hl).mono ?_;rintro e w1 ⟨rfl,rfl⟩;go_wp2_with fail;refine (iclaim_any n' c' k' x' v' _ hn' hk' hv').mono ?_;rintro e w1 ⟨r,rfl,hr,hb⟩;have g0:=(hb.block w.heap.size (by simp;omega)).trans (heap3_0 _ _ _ _);have g1:=(hb.block (w.heap.size + 1) (by simp)).trans (heap3_1 _ _ _ _);have g2:=(hb.block (w.heap.size + 1 + 1) (by simp)).trans (heap3_2 _ _ _ _);have HB:=hidK ((below3 w _ _ _).trans (hb.mono (by simp;omega)));have HG0:=hidK g0;have HG1:=hidK g1;have HG2:=hidK g2;have d0 : w1.cell? ⟨w.heap.size,0,none⟩ = some (.string n'):=cellK g0 0;have d1 : w1.cell? ⟨w.heap.size,1,none⟩ = some (.int .i64 c'):=cellK g0 1;have d2 : w1.cell? ⟨w.heap.size,2,none⟩ = some (.string k'):=cellK g0 2;have d3 : w1.cell? ⟨w.heap.size,3,none⟩ = some (.bool x'):=cellK g0 3;have d4 : w1.cell? ⟨w.heap.size,4,none⟩ = some (.string v'):=cellK g0 4;have e0 : w1.cell? ⟨w.heap.size + 1,0,none⟩ = some (.string n):=cellK g1 0;have e1 : w1.cell? ⟨w.heap.size + 1,1,none⟩ = some (.bool x):=cellK g1 1;have e2 : w1.cell? ⟨w.heap.size + 1,2,none⟩ = some (.bool y):=cellK g1 2;have e3 : w1.cell? ⟨w.heap.size + 1,3,none⟩ = some (.string z):=cellK g1 3;have r0 : w1.cell? ⟨w.heap.size + 1 + 1,0,none⟩ = some (.string ⟨#[]⟩):=cellK g2 0;have r1 : w1.cell? ⟨w.heap.size + 1 + 1,1,none⟩ = some (.int .i64 0):=cellK g2 1;have r2 : w1.cell? ⟨w.heap.size + 1 + 1,2,none⟩ = some (.string ⟨#[]⟩):=cellK g2 2;have r3 : w1.cell? ⟨w.heap.size + 1 + 1,3,none⟩ = some (.string ⟨#[]⟩):=cellK g2 3;have r4 : w1.cell? ⟨w.heap.size + 1 + 1,4,none⟩ = some (.bool false):=cellK g2 4;have r5 : w1.cell? ⟨w.heap.size + 1 + 1,5,none⟩ = some (.string ⟨#[]⟩):=cellK g2 5;have r6 : w1.cell? ⟨w.heap.size + 1 + 1,6,none⟩ = some (.bool false):=cellK g2 6;have r7 : w1.cell? ⟨w.heap.size + 1 + 1,7,none⟩ = some (.slice none 0 0):=cellK g2 7
 have r8 : w1.cell? ⟨w.heap.size + 1 + 1,8,none⟩ = some (.int .i64 0):=cellK g2 8;have q0:=froK g2 0;have q1:=froK g2 1;have q2:=froK g2 2;have q3:=froK g2 3;have q4:=froK g2 4;have q5:=froK g2 5;have q6:=froK g2 6;have q7:=froK g2 7;have q8:=froK g2 8;clear g0 g1 g2 hb
 by_cases hq : r = true
 case neg =>
  have HN:=hidK (fun h => hq (hr.2 h))
  have hrf : r = false:=by simpa using hq
  clear hr;go_wp2_with fail;exact bodyPost_ret (v:=.agg #[.string ⟨#[]⟩,.int .i64 0,.string ⟨#[]⟩,.string ⟨#[]⟩,.bool false,.string ⟨#[]⟩,.bool false,.slice none 0 0,.int .i64 1]) (by simp [results,Tryz.results100,go_sem, *]) rfl ⟨_,_,_,_,_,_,_,rfl,.inr (.inl ⟨HL.out,fun h => HN.out h.1,⟨rfl,rfl,rfl,rfl,rfl,rfl⟩,rfl⟩),set_below9 (by omega) HB.out⟩
 have h0:=hidK (hr.1 hq);subst hq;clear hr;go_wp2_with fail;refine (iclass_any n z x y _ hn hz).mono ?_;rintro e w2 ⟨r,rfl,hr,hb⟩;have g0:=(hb.block _ (lt_of_some HG0.out)).trans HG0.out;have g1:=(hb.block _ (lt_of_some HG1.out)).trans HG1.out;have g2:=(hb.block _ (lt_of_some HG2.out)).trans HG2.out;have HB':=hidK (HB.out.trans (hb.mono HB.out.size));clear HB HG0 HG1 HG2 d0 d1 d2 d3 d4 e0 e1 e2 e3 r0 r1 r2 r3 r4 r5 r6 r7 r8 q0 q1 q2 q3 q4 q5 q6 q7 q8;have HB:=HB';clear HB';have HG0:=hidK g0;have HG1:=hidK g1;have HG2:=hidK g2;have d0 : w2.cell? ⟨w.heap.size,0,none⟩ = some (.string n'):=cellK g0 0;have d1 : w2.cell? ⟨w.heap.size,1,none⟩ = some (.int .i64 c'):=cellK g0 1;have d2 : w2.cell? ⟨w.heap.size,2,none⟩ = some (.string k'):=cellK g0 2;have d3 : w2.cell? ⟨w.heap.size,3,none⟩ = some (.bool x'):=cellK g0 3;have d4 : w2.cell? ⟨w.heap.size,4,none⟩ = some (.string v'):=cellK g0 4;have e0 : w2.cell? ⟨w.heap.size + 1,0,none⟩ = some (.string n):=cellK g1 0;have e1 : w2.cell? ⟨w.heap.size + 1,1,none⟩ = some (.bool x):=cellK g1 1;have e2 : w2.cell? ⟨w.heap.size + 1,2,none⟩ = some (.bool y):=cellK g1 2;have e3 : w2.cell? ⟨w.heap.size + 1,3,none⟩ = some (.string z):=cellK g1 3;have r0 : w2.cell? ⟨w.heap.size + 1 + 1,0,none⟩ = some (.string ⟨#[]⟩):=cellK g2 0;have r1 : w2.cell? ⟨w.heap.size + 1 + 1,1,none⟩ = some (.int .i64 0):=cellK g2 1;have r2 : w2.cell? ⟨w.heap.size + 1 + 1,2,none⟩ = some (.string ⟨#[]⟩):=cellK g2 2;have r3 : w2.cell? ⟨w.heap.size + 1 + 1,3,none⟩ = some (.string ⟨#[]⟩):=cellK g2 3;have r4 : w2.cell? ⟨w.heap.size + 1 + 1,4,none⟩ = some (.bool false):=cellK g2 4;have r5 : w2.cell? ⟨w.heap.size + 1 + 1,5,none⟩ = some (.string ⟨#[]⟩):=cellK g2 5;have r6 : w2.cell? ⟨w.heap.size + 1 + 1,6,none⟩ = some (.bool false):=cellK g2 6;have r7 : w2.cell? ⟨w.heap.size + 1 + 1,7,none⟩ = some (.slice none 0 0):=cellK g2 7
 have r8 : w2.cell? ⟨w.heap.size + 1 + 1,8,none⟩ = some (.int .i64 0):=cellK g2 8;have q0:=froK g2 0;have q1:=froK g2 1;have q2:=froK g2 2;have q3:=froK g2 3;have q4:=froK g2 4;have q5:=froK g2 5;have q6:=froK g2 6;have q7:=froK g2 7;have q8:=froK g2 8;clear g0 g1 g2 hb
 by_cases hq : r = true
 case neg =>
  have HN:=hidK (fun h => hq (hr.2 h))
  have hrf : r = false:=by simpa using hq
  clear hr;go_wp2_with fail;exact bodyPost_ret (v:=.agg #[.string ⟨#[]⟩,.int .i64 0,.string ⟨#[]⟩,.string ⟨#[]⟩,.bool false,.string ⟨#[]⟩,.bool false,.slice none 0 0,.int .i64 1]) (by simp [results,Tryz.results100,go_sem, *]) rfl ⟨_,_,_,_,_,_,_,rfl,.inr (.inl ⟨HL.out,fun h => HN.out h.2.1,⟨rfl,rfl,rfl,rfl,rfl,rfl⟩,rfl⟩),set_below9 (by omega) HB.out⟩
 have h1:=hidK (hr.1 hq);subst hq;clear hr;go_wp2_with fail;refine (iname_any t _ ht).mono ?_;rintro e w3 ⟨r,rfl,hr,rfl⟩
 by_cases hq : r = true
 case neg =>
  have HN:=hidK (fun h => hq (hr.2 h))
  have hrf : r = false:=by simpa using hq
  clear hr;go_wp2_with fail;exact bodyPost_ret (v:=.agg #[.string ⟨#[]⟩,.int .i64 0,.string ⟨#[]⟩,.string ⟨#[]⟩,.bool false,.string ⟨#[]⟩,.bool false,.slice none 0 0,.int .i64 1]) (by simp [results,Tryz.results100,go_sem, *]) rfl ⟨_,_,_,_,_,_,_,rfl,.inr (.inl ⟨HL.out,fun h => HN.out h.2.2,⟨rfl,rfl,rfl,rfl,rfl,rfl⟩,rfl⟩),set_below9 (by omega) HB.out⟩
 have h2:=hidK (hr.1 hq);subst hq;clear hr
 by_cases m0 : k' = n
 case neg =>
  have q90:=tl_no m0;have M0:=hidK m0;clear m0;go_wp2_with fail;exact bodyPost_ret (v:=.agg #[.string ⟨#[]⟩,.int .i64 0,.string ⟨#[]⟩,.string ⟨#[]⟩,.bool false,.string ⟨#[]⟩,.bool false,.slice none 0 0,.int .i64 10]) (by simp [results,Tryz.results100,go_sem, *]) rfl ⟨_,_,_,_,_,_,_,rfl,.inr (.inr (.inl ⟨HL.out,⟨h0.out,h1.out,h2.out⟩,fun h => M0.out h.1,⟨rfl,rfl,rfl,rfl,rfl,rfl⟩,rfl⟩)),set_below9 (by omega) HB.out⟩
 have q90:=tl_yes m0;have M0:=hidK m0;clear m0
 by_cases m1 : v' = ⟨#[]⟩
 case neg =>
  have q91:=isE_no m1;have M1:=hidK m1;clear m1;go_wp2_with fail;exact bodyPost_ret (v:=.agg #[.string ⟨#[]⟩,.int .i64 0,.string ⟨#[]⟩,.string ⟨#[]⟩,.bool false,.string ⟨#[]⟩,.bool false,.slice none 0 0,.int .i64 10]) (by simp [results,Tryz.results100,go_sem, *]) rfl ⟨_,_,_,_,_,_,_,rfl,.inr (.inr (.inl ⟨HL.out,⟨h0.out,h1.out,h2.out⟩,fun h => M1.out h.2.1,⟨rfl,rfl,rfl,rfl,rfl,rfl⟩,rfl⟩)),set_below9 (by omega) HB.out⟩
 have q91 : v'.toList.isEmpty = true:=(isE_iff v').2 m1;have M1:=hidK m1;clear m1;go_wp2_with fail;refine (imay_any n x y z t _ hn hz ht).mono ?_;rintro e w4 ⟨r,rfl,hr,hb⟩;have g0:=(hb.block _ (lt_of_some HG0.out)).trans HG0.out;have g1:=(hb.block _ (lt_of_some HG1.out)).trans HG1.out;have g2:=(hb.block _ (lt_of_some HG2.out)).trans HG2.out;have HB':=hidK (HB.out.trans (hb.mono HB.out.size));clear HB HG0 HG1 HG2 d0 d1 d2 d3 d4 e0 e1 e2 e3 r0 r1 r2 r3 r4 r5 r6 r7 r8 q0 q1 q2 q3 q4 q5 q6 q7 q8;have HB:=HB';clear HB';have HG0:=hidK g0;have HG1:=hidK g1;have HG2:=hidK g2;have d0 : w4.cell? ⟨w.heap.size,0,none⟩ = some (.string n'):=cellK g0 0;have d1 : w4.cell? ⟨w.heap.size,1,none⟩ = some (.int .i64 c'):=cellK g0 1;have d2 : w4.cell? ⟨w.heap.size,2,none⟩ = some (.string k'):=cellK g0 2;have d3 : w4.cell? ⟨w.heap.size,3,none⟩ = some (.bool x'):=cellK g0 3;have d4 : w4.cell? ⟨w.heap.size,4,none⟩ = some (.string v'):=cellK g0 4;have e0 : w4.cell? ⟨w.heap.size + 1,0,none⟩ = some (.string n):=cellK g1 0;have e1 : w4.cell? ⟨w.heap.size + 1,1,none⟩ = some (.bool x):=cellK g1 1;have e2 : w4.cell? ⟨w.heap.size + 1,2,none⟩ = some (.bool y):=cellK g1 2;have e3 : w4.cell? ⟨w.heap.size + 1,3,none⟩ = some (.string z):=cellK g1 3;have r0 : w4.cell? ⟨w.heap.size + 1 + 1,0,none⟩ = some (.string ⟨#[]⟩):=cellK g2 0;have r1 : w4.cell? ⟨w.heap.size + 1 + 1,1,none⟩ = some (.int .i64 0):=cellK g2 1;have r2 : w4.cell? ⟨w.heap.size + 1 + 1,2,none⟩ = some (.string ⟨#[]⟩):=cellK g2 2;have r3 : w4.cell? ⟨w.heap.size + 1 + 1,3,none⟩ = some (.string ⟨#[]⟩):=cellK g2 3;have r4 : w4.cell? ⟨w.heap.size + 1 + 1,4,none⟩ = some (.bool false):=cellK g2 4;have r5 : w4.cell? ⟨w.heap.size + 1 + 1,5,none⟩ = some (.string ⟨#[]⟩):=cellK g2 5;have r6 : w4.cell? ⟨w.heap.size + 1 + 1,6,none⟩ = some (.bool false):=cellK g2 6
 have r7 : w4.cell? ⟨w.heap.size + 1 + 1,7,none⟩ = some (.slice none 0 0):=cellK g2 7;have r8 : w4.cell? ⟨w.heap.size + 1 + 1,8,none⟩ = some (.int .i64 0):=cellK g2 8;have q0:=froK g2 0;have q1:=froK g2 1;have q2:=froK g2 2;have q3:=froK g2 3;have q4:=froK g2 4;have q5:=froK g2 5;have q6:=froK g2 6;have q7:=froK g2 7;have q8:=froK g2 8;clear g0 g1 g2 hb
 by_cases hq : r = true
 case neg =>
  have HN:=hidK (fun h => hq (hr.2 h))
  have hrf : r = false:=by simpa using hq
  clear hr;go_wp2_with fail;exact bodyPost_ret (v:=.agg #[.string ⟨#[]⟩,.int .i64 0,.string ⟨#[]⟩,.string ⟨#[]⟩,.bool false,.string ⟨#[]⟩,.bool false,.slice none 0 0,.int .i64 10]) (by simp [results,Tryz.results100,go_sem, *]) rfl ⟨_,_,_,_,_,_,_,rfl,.inr (.inr (.inl ⟨HL.out,⟨h0.out,h1.out,h2.out⟩,fun h => HN.out ⟨h1.out,h2.out,h.2.2.1⟩,⟨rfl,rfl,rfl,rfl,rfl,rfl⟩,rfl⟩)),set_below9 (by omega) HB.out⟩
 have M2:=hidK (hr.1 hq).2.2;subst hq;clear hr
 by_cases m3 : 18 < n'.size
 ·have M3:=hidK m3;go_wp2_with fail;exact bodyPost_ret (v:=.agg #[.string ⟨#[]⟩,.int .i64 0,.string ⟨#[]⟩,.string ⟨#[]⟩,.bool false,.string ⟨#[]⟩,.bool false,.slice none 0 0,.int .i64 10]) (by simp [results,Tryz.results100,go_sem, *]) rfl ⟨_,_,_,_,_,_,_,rfl,.inr (.inr (.inl ⟨HL.out,⟨h0.out,h1.out,h2.out⟩,fun h => by have h9:=h.2.2.2;have h8:=M3.out;omega,⟨rfl,rfl,rfl,rfl,rfl,rfl⟩,rfl⟩)),set_below9 (by omega) HB.out⟩
 go_wp2_with fail;refine (joined_any ⟨#[118,95]⟩ n' _ (by rw [show (⟨#[118,95]⟩ : ByteArray).size = 2 from rfl];omega)).mono ?_;rintro e w5 ⟨rfl,hb⟩;have g0:=(hb.block _ (lt_of_some HG0.out)).trans HG0.out;have g1:=(hb.block _ (lt_of_some HG1.out)).trans HG1.out;have g2:=(hb.block _ (lt_of_some HG2.out)).trans HG2.out;have HB':=hidK (HB.out.trans (hb.mono HB.out.size));clear HB HG0 HG1 HG2 d0 d1 d2 d3 d4 e0 e1 e2 e3 r0 r1 r2 r3 r4 r5 r6 r7 r8 q0 q1 q2 q3 q4 q5 q6 q7 q8;have HB:=HB';clear HB';have HG0:=hidK g0;have HG1:=hidK g1;have HG2:=hidK g2;have d0 : w5.cell? ⟨w.heap.size,0,none⟩ = some (.string n'):=cellK g0 0;have d1 : w5.cell? ⟨w.heap.size,1,none⟩ = some (.int .i64 c'):=cellK g0 1;have d2 : w5.cell? ⟨w.heap.size,2,none⟩ = some (.string k'):=cellK g0 2;have d3 : w5.cell? ⟨w.heap.size,3,none⟩ = some (.bool x'):=cellK g0 3;have d4 : w5.cell? ⟨w.heap.size,4,none⟩ = some (.string v'):=cellK g0 4;have e0 : w5.cell? ⟨w.heap.size + 1,0,none⟩ = some (.string n):=cellK g1 0;have e1 : w5.cell? ⟨w.heap.size + 1,1,none⟩ = some (.bool x):=cellK g1 1;have e2 : w5.cell? ⟨w.heap.size + 1,2,none⟩ = some (.bool y):=cellK g1 2;have e3 : w5.cell? ⟨w.heap.size + 1,3,none⟩ = some (.string z):=cellK g1 3;have r0 : w5.cell? ⟨w.heap.size + 1 + 1,0,none⟩ = some (.string ⟨#[]⟩):=cellK g2 0;have r1 : w5.cell? ⟨w.heap.size + 1 + 1,1,none⟩ = some (.int .i64 0):=cellK g2 1;have r2 : w5.cell? ⟨w.heap.size + 1 + 1,2,none⟩ = some (.string ⟨#[]⟩):=cellK g2 2;have r3 : w5.cell? ⟨w.heap.size + 1 + 1,3,none⟩ = some (.string ⟨#[]⟩):=cellK g2 3;have r4 : w5.cell? ⟨w.heap.size + 1 + 1,4,none⟩ = some (.bool false):=cellK g2 4;have r5 : w5.cell? ⟨w.heap.size + 1 + 1,5,none⟩ = some (.string ⟨#[]⟩):=cellK g2 5;have r6 : w5.cell? ⟨w.heap.size + 1 + 1,6,none⟩ = some (.bool false):=cellK g2 6;have r7 : w5.cell? ⟨w.heap.size + 1 + 1,7,none⟩ = some (.slice none 0 0):=cellK g2 7
 have r8 : w5.cell? ⟨w.heap.size + 1 + 1,8,none⟩ = some (.int .i64 0):=cellK g2 8;have q0:=froK g2 0;have q1:=froK g2 1;have q2:=froK g2 2;have q3:=froK g2 3;have q4:=froK g2 4;have q5:=froK g2 5;have q6:=froK g2 6;have q7:=froK g2 7;have q8:=froK g2 8;clear g0 g1 g2 hb;go_wp2_with fail;exact bodyPost_ret (v:=.agg #[.string (wMade ++ n'),.int .i64 c',.string t,.string k',.bool x',.string n',.bool false,.slice none 0 0,.int .i64 0]) (by simp [results,Tryz.results100,go_sem,wMade, *]) rfl ⟨_,_,_,_,_,_,_,rfl,.inr (.inr (.inr ⟨HL.out,⟨h0.out,h1.out,h2.out⟩,⟨M0.out,M1.out,M2.out,by omega⟩,⟨rfl,rfl,rfl,rfl,rfl,rfl⟩,rfl⟩)),set_below9 (by omega) HB.out⟩

end Go.Proofs.YtmknjejaochfjaaGreatDoor

namespace Go.Proofs.YtmknjejaochfjaaGreatDoor
open Go.RowKit
namespace Rc
open Mk

theorem put_atB {α : Type} {nm : α → ByteArray} {ps : List α} {t : ByteArray} {k : Nat} {x y : α} (hr : RisBy nm ps) (hx : ps[k]? = some x) (hn : nm x = t) : inAt (pl nm (wo nm t ps) t) y (wo nm t ps) = ps.set k y:=by
 have hk : k < ps.length:=(List.getElem?_eq_some_iff.1 hx).1;have hw:=wo_erase hr hx hn
 have hpl : pl nm (wo nm t ps) t = k:=by
  rw [hw]
  have hlt : ∀ (j : Nat) z,j < k → (ps.take k ++ ps.drop (k + 1))[j]? = some z → Op.bytesLess (nm z).toList t.toList = true:=fun j z hj hz => by
   have h1 : (ps.take k).length = k:=by rw [List.length_take];omega
   rw [List.getElem?_append_left (by omega),List.getElem?_take,if_pos hj] at hz;have:=hr.lt hj hz hx;rw [hn] at this;exact this
  by_cases he : k + 1 < ps.length
  ·have h1 : (ps.take k).length = k:=by rw [List.length_take];omega
   have h2 : (ps.take k ++ ps.drop (k + 1))[k]? = some ps[k + 1]:=by
    rw [List.getElem?_append_right (by omega),h1,Nat.sub_self,List.getElem?_drop];exact List.getElem?_eq_getElem he
   refine pl_at hlt h2 ?_;have h3:=hr.lt (Nat.lt_succ_self k) hx (List.getElem?_eq_getElem he);rw [hn] at h3
   cases h9 : Op.bytesLess (nm ps[k + 1]).toList t.toList
   ·rfl
   ·have h8:=less_trans _ _ _ h3 h9;rw [less_irr] at h8
    cases h8
  ·have h4 : ps.take k ++ ps.drop (k + 1) = ps.take k:=by rw [List.drop_eq_nil_of_le (by omega),List.append_nil]
   rw [h4];rw [h4] at hlt
   have h1 : (ps.take k).length = k:=by rw [List.length_take];omega
   rw [pl_end (fun j z hz => hlt j z (by have:=(List.getElem?_eq_some_iff.1 hz).1;omega) hz),h1]
 rw [hpl,hw];unfold inAt
 have h1 : (ps.take k).length = k:=by rw [List.length_take];omega
 rw [List.take_left' h1,List.drop_left' h1,List.set_eq_take_append_cons_drop,if_pos hk]
 simp
theorem vs_of {w : World} {a : Option Addr} {len cap : Nat} {vs : List Vd} (h : RRow w a len cap 8 (vs.map vdF)) : VsRow w a len cap vs:=by
 obtain ⟨h1,h2,h3,h5⟩:=h;refine ⟨by simpa using h1,h2,h3,?_⟩
 rcases h5 with h5 | ⟨b,o,rfl,hlt,hc⟩
 ·exact .inl (by simpa using h5)
 ·refine .inr ⟨b,o,rfl,hlt,fun j v hv => ?_⟩;obtain ⟨va,vl,vc,hvr,z0,z2,z3,z5,c0,c1,c2,c3,c4,c5,c6,c7⟩:=vd_cells (hc j (vdF v) (by rw [List.getElem?_map,hv];rfl));exact ⟨⟨z0,z2,z3,z5⟩,va,vl,vc,hvr,c0,c1,c2,c3,c4,c5,c6,c7⟩
def bdX (x : Xd) (n : ByteArray) : Xd:=⟨x.n,x.z,x.k,x.x,n⟩
def bdV (v : Vd) (n : ByteArray) : Vd:=⟨v.n,v.c,v.z,v.k,v.x,n,v.y,v.zs⟩
def bindC (c : Cl) (i j : Nat) (x : Xd) (u : Vd) : Cl:=⟨c.ns,c.ks,c.vs.set j (bdV u x.n),c.xs.set i (bdX x u.n),c.ps,c.now⟩
def mkV (x : Xd) (t : ByteArray) : Vd:=⟨wMade ++ x.n,x.z,t,x.k,x.x,x.n,false,[]⟩
def makeC (c : Cl) (i : Nat) (x : Xd) (t : ByteArray) : Cl:=⟨c.ns,c.ks,inAt (pl Vd.n c.vs (wMade ++ x.n)) (mkV x t) c.vs,c.xs.set i (bdX x (wMade ++ x.n)),c.ps,c.now⟩
def pairC (c : Cl) (x : Xd) (v : Vd) : Cl:=⟨c.ns,c.ks,inAt (pl Vd.n (wo Vd.n v.n c.vs) v.n) v (wo Vd.n v.n c.vs),inAt (pl Xd.n (wo Xd.n x.n c.xs) x.n) x (wo Xd.n x.n c.xs),c.ps,c.now⟩
theorem wo_none {α : Type} {nm : α → ByteArray} {t : ByteArray} {xs : List α} (h : ∀ (j : Nat) x,xs[j]? = some x → ¬ nm x = t) : wo nm t xs = xs:=List.filter_eq_self.2 fun y hy => by
 obtain ⟨j,hj⟩:=List.getElem?_of_mem hy
 simp [tl_no (h j y hj)]
theorem pairC_found {c : Cl} {i j : Nat} {x : Xd} {u : Vd} (hr : RightI c) (hx : c.xs[i]? = some x) (hu : c.vs[j]? = some u) : pairC c (bdX x u.n) (bdV u x.n) = bindC c i j x u:=by
 unfold pairC bindC;rw [show (bdX x u.n).n = x.n from rfl,show (bdV u x.n).n = u.n from rfl,put_atB (y:=bdV u x.n) hr.2.1.2.2.1.2.2 hu rfl,put_atB (y:=bdX x u.n) hr.2.1.2.2.2.1.2.2 hx rfl]
theorem pairC_made {c : Cl} {i : Nat} {x : Xd} {t : ByteArray} (hr : RightI c) (hx : c.xs[i]? = some x) (hh : hit Vd.n c.vs (wMade ++ x.n) = false) : pairC c (bdX x (wMade ++ x.n)) (mkV x t) = makeC c i x t:=by
 unfold pairC makeC
 have h1 : wo Vd.n (wMade ++ x.n) c.vs = c.vs:=wo_none (fun j v hv e => by
  have:=(hit_at hr.2.1.2.2.1.2.2 hv e).2;rw [hh] at this
  cases this)
 rw [show (bdX x (wMade ++ x.n)).n = x.n from rfl,show (mkV x t).n = wMade ++ x.n from rfl,h1,put_atB (y:=bdX x (wMade ++ x.n)) hr.2.1.2.2.2.1.2.2 hx rfl]
def zoneOf (t z : ByteArray) : ByteArray:=if t = ⟨#[]⟩ then z else t
def MayV (x : Xd) (k : Kd) (t : ByteArray) : Prop:=¬ zoneOf t k.z = ⟨#[]⟩ ∧ MakeM x.n x.k x.v k.n k.z (zoneOf t k.z)
def BinIs (c : Cl) (i : Nat) (x : Xd) (k : Kd) (t : ByteArray) (o : Co) : Prop :=
 (∃ j u,bestV (svV x.z x.k x.x t) c.vs = some u ∧ c.vs[j]? = some u ∧ o = ⟨bindC c i j x u,u.n,0⟩) ∨
 (bestV (svV x.z x.k x.x t) c.vs = none ∧ ((¬ MayV x k t ∧ o = co0 6) ∨ (MayV x k t ∧ ((hit Vd.n c.vs (wMade ++ x.n) = true ∧ o = co0 7) ∨ (hit Vd.n c.vs (wMade ++ x.n) = false ∧ ((¬ c.vs.length < 8 ∧ o = co0 9) ∨ (c.vs.length < 8 ∧ o = ⟨makeC c i x (zoneOf t k.z),wMade ++ x.n,0⟩)))))))
theorem BinIs.same {c : Cl} {i : Nat} {x : Xd} {k : Kd} {t : ByteArray} {o o' : Co} (hr : RightI c) (h : BinIs c i x k t o) (h' : BinIs c i x k t o') : o = o':=by
 rcases h with ⟨j,u,a1,a2,rfl⟩ | ⟨a1,a⟩ <;> rcases h' with ⟨j',u',b1,b2,rfl⟩ | ⟨b1,b⟩
 ·rw [a1] at b1;obtain rfl:=Option.some.inj b1;obtain ⟨rfl,-⟩:=hr.2.1.2.2.1.2.2.inj a2 b2 rfl
  rfl
 ·rw [a1] at b1;cases b1
 ·rw [a1] at b1;cases b1
 ·rcases a with ⟨a2,rfl⟩ | ⟨a2,a⟩ <;> rcases b with ⟨b2,rfl⟩ | ⟨b2,b⟩
  ·rfl
  ·exact absurd b2 a2
  ·exact absurd a2 b2
  ·rcases a with ⟨a3,rfl⟩ | ⟨a3,a⟩ <;> rcases b with ⟨b3,rfl⟩ | ⟨b3,b⟩
   ·rfl
   ·rw [a3] at b3;cases b3
   ·rw [a3] at b3;cases b3
   ·rcases a with ⟨a4,rfl⟩ | ⟨a4,rfl⟩ <;> rcases b with ⟨b4,rfl⟩ | ⟨b4,rfl⟩
    ·rfl
    ·exact absurd b4 a4
    ·exact absurd a4 b4
    ·rfl
def BindIs (c : Cl) (t : ByteArray) (o : Co) : Prop :=
 (∃ n,n < 9 ∧ AskWhy c t n ∧ o = co0 (codeOf n)) ∨
 (¬ 8000 < t.size ∧ RightI c ∧ ∃ (i : Nat) (x : Xd) (j : Nat) (k : Kd),c.xs[i]? = some x ∧ x.n = t ∧ c.ks[j]? = some k ∧ k.n = x.k ∧
  ((¬ x.v = ⟨#[]⟩ ∧ o = co0 7) ∨ (x.v = ⟨#[]⟩ ∧ ((k.x = true ∧ o = co0 11) ∨ (k.x = false ∧ BinIs c i x k ⟨#[]⟩ o)))))
theorem AskWhy.only {c : Cl} {t : ByteArray} {n m : Nat} (h : AskWhy c t n) (h' : AskWhy c t m) : n = m:=by
 rcases n with _ | _ | _ | n <;> rcases m with _ | _ | _ | m <;> simp only [AskWhy] at h h' <;> first | rfl | exact absurd h h'.1 | exact absurd h' h.1 | exact absurd h'.2.1 h.2 | exact absurd h.2.1 h'.2
theorem AskWhy.not {c : Cl} {t : ByteArray} {n : Nat} {i : Nat} {x : Xd} (h : AskWhy c t n) (h1 : ¬ 8000 < t.size) (h2 : RightI c) (hx : c.xs[i]? = some x) (hn : x.n = t) : False:=by
 rcases n with _ | _ | _ | n <;> simp only [AskWhy] at h
 ·exact h1 h
 ·exact h.2 h2
 ·exact h.2.2 ⟨i,x,hx,hn⟩
theorem BindIs.same {c : Cl} {t : ByteArray} {o o' : Co} (h : BindIs c t o) (h' : BindIs c t o') : o = o':=by
 rcases h with ⟨n,_,a,rfl⟩ | ⟨a1,a2,i,x,j,k,a3,a4,a5,a6,a⟩ <;> rcases h' with ⟨m,_,b,rfl⟩ | ⟨b1,b2,i',x',j',k',b3,b4,b5,b6,b⟩
 ·rw [a.only b]
 ·exact (a.not b1 b2 b3 b4).elim
 ·exact (b.not a1 a2 a3 a4).elim
 ·obtain ⟨rfl,rfl⟩:=a2.2.1.2.2.2.1.2.2.inj a3 b3 (a4.trans b4.symm);obtain ⟨rfl,rfl⟩:=a2.2.1.2.1.2.2.inj a5 b5 (a6.trans b6.symm)
  rcases a with ⟨a7,rfl⟩ | ⟨a7,a⟩ <;> rcases b with ⟨b7,rfl⟩ | ⟨b7,b⟩
  ·rfl
  ·exact absurd b7 a7
  ·exact absurd a7 b7
  ·rcases a with ⟨a8,rfl⟩ | ⟨a8,a⟩ <;> rcases b with ⟨b8,rfl⟩ | ⟨b8,b⟩
   ·rfl
   ·rw [a8] at b8;cases b8
   ·rw [a8] at b8;cases b8
   ·exact a.same a2 b

end Rc
end Go.Proofs.YtmknjejaochfjaaGreatDoor

namespace Go.Proofs.YtmknjejaochfjaaGreatDoor
open Go.RowKit

theorem ret_bb {a b : Bool} (h : a = b) : Ending.returned (.bool a) = .returned (.bool b):=by rw [h]

theorem better_any (v u : Vd) (va ua : Option Addr) (vl vc ul uc : Nat) (w : World) :
  Calls Tryz.prog 146 #[.agg #[.string v.n,.int .i64 v.c,.string v.z,.string v.k,.bool v.x,.string v.m,.bool v.y,.slice va vl vc],.agg #[.string u.n,.int .i64 u.c,.string u.z,.string u.k,.bool u.x,.string u.m,.bool u.y,.slice ua ul uc]] w fun e w' => e = .returned (.bool (betB v u)) ∧ Below w.heap.size w w':=by
 have HB:=hidK (below2 w (.cells #[.string v.n,.int .i64 v.c,.string v.z,.string v.k,.bool v.x,.string v.m,.bool v.y,.slice va vl vc] 100) (.cells #[.string u.n,.int .i64 u.c,.string u.z,.string u.k,.bool u.x,.string u.m,.bool u.y,.slice ua ul uc] 100))
 by_cases h : v.c = u.c
 ·have h1 : (v.c != u.c) = false:=by simp [h]
  have HX:=hidK (show Op.bytesLess v.n.toList u.n.toList = betB v u by simp [betB,h]);clear h
  go_enter Tryz.func146,Tryz.ntmps146
  go_wp2_with fail;go_ret;exact ⟨ret_bb HX.out,HB.out⟩
 ·have h1 : (v.c != u.c) = true:=by simp [h]
  have HX:=hidK (show decide (v.c < u.c) = betB v u by simp [betB,h]);clear h
  go_enter Tryz.func146,Tryz.ntmps146
  go_wp2_with fail;go_ret;exact ⟨ret_bb HX.out,HB.out⟩

theorem disks_any (a : Option Addr) (len cap : Nat) (vs : List Vd) (w : World) (hr : VsRow w a len cap vs) :
  Calls Tryz.prog 143 #[.slice a len cap] w (BoolB (vs.length ≤ 8 ∧ ∀ (j : Nat) v,vs[j]? = some v → v.Ok) w):=by
 have HR:=hidK hr;have hvl : vs.length = len:=hr.1;have hlc : len ≤ 9223372036854775807:=Nat.le_trans hr.2.1 hr.2.2.1;clear hr
 by_cases h8 : 8 < len
 ·go_enter Tryz.func143,Tryz.ntmps143
  go_wp2
  go_ret;exact ⟨false,rfl,⟨fun h => (by cases h),fun h => absurd h.1 (by omega)⟩,Below.refl _ _⟩
 go_enter Tryz.func143,Tryz.ntmps143
 go_wp2
 go_loopw [10] (fun vi wr => ∃ (i : Nat),i ≤ len ∧ vi = .int .i64 i ∧ Hid (∀ (j : Nat) v,j < i → vs[j]? = some v → v.Ok) ∧ Hid (Below w.heap.size w wr)) (fun vi _ => len - (intOf vi).toNat)
 case atStart => exact ⟨0,by omega,rfl,fun j v hj => by omega,Below.refl _ _⟩
 case round =>
  obtain ⟨i,hi,rfl,HA,HB⟩:=hrel
  by_cases hlt : i < len
  ·obtain ⟨b,o,v,rfl,hb,hv,hf,va,vl,vc,hvr,c0,c1,c2,c3,c4,c5,c6,c7⟩:=(HR.out.below HB.out).at hlt;have HV:=hidK hv;have HT:=hidK hvr;have HF:=hidK hf;clear hv hvr hf;go_wp2_with fail;refine (ivol_any v.n v.c v.z v.k v.x v.m v.y va vl vc v.zs _ HF.out.1 HF.out.2.1 HF.out.2.2.1 HF.out.2.2.2 (HT.out.below (below1 _ _))).mono ?_;rintro e w3 ⟨r,rfl,hr,hb3⟩;have HB3:=hidK (HB.out.trans ((slotK hb3).2.1.mono HB.out.size))
   by_cases hq : r = true
   case neg =>
    have HN:=hidK (fun h => hq (hr.2 h))
    have hrf : r = false:=by simpa using hq
    clear hr hb3 c0 c1 c2 c3 c4 c5 c6 c7;go_wp2_with fail;go_ret;exact ⟨false,rfl,⟨fun h => (by cases h),fun h => (HN.out (h.2 i v HV.out)).elim⟩,HB3.out⟩
   have hok:=hr.1 hq;subst hq;clear hr hb3 c0 c1 c2 c3 c4 c5 c6 c7;go_wp2_with fail;refine ⟨⟨i + 1,by omega,by go_num,fun j u hj hu => ?_,HB3⟩,by simp [intOf];omega⟩
   by_cases e : j = i
   ·subst e;rw [HV.out] at hu;obtain rfl:=Option.some.inj hu;exact hok
   ·exact HA.out j u (by omega) hu
  ·obtain rfl : i = len:=by omega
   go_wp2
   go_ret;exact ⟨true,rfl,⟨fun _ => ⟨by omega,fun j v hv => HA.out j v (by have:=(List.getElem?_eq_some_iff.1 hv).1;omega) hv⟩,fun _ => rfl⟩,HB.out⟩

theorem ibest_bad (a : Option Addr) (len cap : Nat) (vs : List Vd) (n' : ByteArray) (c' : Int) (k' : ByteArray) (x' : Bool) (v' : ByteArray) (t : ByteArray) (w : World) (hn' : n'.size ≤ 9223372036854775807) (hk' : k'.size ≤ 9223372036854775807) (hv' : v'.size ≤ 9223372036854775807) (ht : t.size ≤ 9223372036854775807) (hr : VsRow w a len cap vs) (hbad : (400 < vs.length ∨ 8000 < t.size) ∨ ¬ BestR vs n' c' k' v' t) :
  Calls Tryz.prog 99 #[.slice a len cap,.agg #[.string n',.int .i64 c',.string k',.bool x',.string v'],.string t] w (BestAns vs n' c' k' x' v' t w):=by
 have HR:=hidK hr;have hvl : vs.length = len:=hr.1;have hlc : len ≤ 9223372036854775807:=Nat.le_trans hr.2.1 hr.2.2.1;have HBAD:=hidK hbad;clear hr hbad
 by_cases hl4 : 400 < len
 ·have HL:=hidK (show BestIs vs n' c' k' x' v' t vZ 2 from .inl ⟨.inl (by omega),rfl,rfl⟩)
  go_enter Tryz.func99,Tryz.ntmps99
  go_wp2_with fail;exact bodyPost_ret (v:=.agg #[.string ⟨#[]⟩,.int .i64 0,.string ⟨#[]⟩,.string ⟨#[]⟩,.bool false,.string ⟨#[]⟩,.bool false,.slice none 0 0,.int .i64 2]) (by simp [results,Tryz.results99,go_sem]) rfl (BestAns.bad HL.out (below2 _ _ _))
 by_cases hl8 : 8000 < t.size
 ·have HL:=hidK (show BestIs vs n' c' k' x' v' t vZ 2 from .inl ⟨.inr hl8,rfl,rfl⟩)
  go_enter Tryz.func99,Tryz.ntmps99
  go_wp2_with fail;refine (long_yes t _ hl8).mono ?_;rintro e w1 ⟨rfl,rfl⟩;go_wp2_with fail;exact bodyPost_ret (v:=.agg #[.string ⟨#[]⟩,.int .i64 0,.string ⟨#[]⟩,.string ⟨#[]⟩,.bool false,.string ⟨#[]⟩,.bool false,.slice none 0 0,.int .i64 2]) (by simp [results,Tryz.results99,go_sem]) rfl (BestAns.bad HL.out (below2 _ _ _))
 have HL:=hidK (show ¬ (400 < vs.length ∨ 8000 < t.size) by omega);have HBR:=hidK (HBAD.out.resolve_left HL.out)
 go_enter Tryz.func99,Tryz.ntmps99
 go_wp2_with fail;refine (long_no t _ hl8).mono ?_;rintro e w1 ⟨rfl,rfl⟩;go_wp2_with fail;refine (iclaim_any n' c' k' x' v' _ hn' hk' hv').mono ?_;rintro e w1 ⟨r,rfl,hr,hb⟩;have g1:=(hb.block (w.heap.size + 1) (by simp)).trans (heap2_1 _ _ _);have HB:=hidK ((below2 w _ _).trans (hb.mono (by simp;omega)));have HG1:=hidK g1;have r0 : w1.cell? ⟨w.heap.size + 1,0,none⟩ = some (.string ⟨#[]⟩):=cellK g1 0;have r1 : w1.cell? ⟨w.heap.size + 1,1,none⟩ = some (.int .i64 0):=cellK g1 1;have r2 : w1.cell? ⟨w.heap.size + 1,2,none⟩ = some (.string ⟨#[]⟩):=cellK g1 2;have r3 : w1.cell? ⟨w.heap.size + 1,3,none⟩ = some (.string ⟨#[]⟩):=cellK g1 3;have r4 : w1.cell? ⟨w.heap.size + 1,4,none⟩ = some (.bool false):=cellK g1 4;have r5 : w1.cell? ⟨w.heap.size + 1,5,none⟩ = some (.string ⟨#[]⟩):=cellK g1 5;have r6 : w1.cell? ⟨w.heap.size + 1,6,none⟩ = some (.bool false):=cellK g1 6;have r7 : w1.cell? ⟨w.heap.size + 1,7,none⟩ = some (.slice none 0 0):=cellK g1 7;have r8 : w1.cell? ⟨w.heap.size + 1,8,none⟩ = some (.int .i64 0):=cellK g1 8;have q0:=froK g1 0;have q1:=froK g1 1;have q2:=froK g1 2;have q3:=froK g1 3;have q4:=froK g1 4;have q5:=froK g1 5;have q6:=froK g1 6;have q7:=froK g1 7;have q8:=froK g1 8;clear g1 hb
 by_cases hq : r = true
 case neg =>
  have hrf : r = false:=by simpa using hq
  clear hr;go_wp2_with fail;exact bodyPost_ret (v:=.agg #[.string ⟨#[]⟩,.int .i64 0,.string ⟨#[]⟩,.string ⟨#[]⟩,.bool false,.string ⟨#[]⟩,.bool false,.slice none 0 0,.int .i64 1]) (by simp [results,Tryz.results99,go_sem, *]) rfl (BestAns.bad (.inr (.inl ⟨HL.out,HBR.out,rfl,rfl⟩)) (set_below9B (by omega) HB.out))
 have h0:=hidK (hr.1 hq);subst hq;clear hr;go_wp2_with fail;refine (izone_any t _ ht).mono ?_;rintro e w2 ⟨r,rfl,hr,rfl⟩
 by_cases hq : r = true
 case neg =>
  have hrf : r = false:=by simpa using hq
  clear hr;go_wp2_with fail;exact bodyPost_ret (v:=.agg #[.string ⟨#[]⟩,.int .i64 0,.string ⟨#[]⟩,.string ⟨#[]⟩,.bool false,.string ⟨#[]⟩,.bool false,.slice none 0 0,.int .i64 1]) (by simp [results,Tryz.results99,go_sem, *]) rfl (BestAns.bad (.inr (.inl ⟨HL.out,HBR.out,rfl,rfl⟩)) (set_below9B (by omega) HB.out))
 have h1:=hidK (hr.1 hq);subst hq;clear hr r0 q0 r1 q1 r2 q2 r3 q3 r4 q4 r5 q5 r6 q6 r7 q7 r8 q8;go_wp2_with fail;refine (disks_any a len cap vs _ (HR.out.below HB.out)).mono ?_;rintro e w3 ⟨r,rfl,hr,hb⟩
 have hrf : r = false:=by
  cases r with
  | false => rfl
  | true => exact absurd ⟨h0.out,h1.out,(hr.1 rfl).1,(hr.1 rfl).2⟩ HBR.out
 subst hrf;have g1:=(hb.block _ (lt_of_some HG1.out)).trans HG1.out;have HB2:=upB HB hb;have r0 : w3.cell? ⟨w.heap.size + 1,0,none⟩ = some (.string ⟨#[]⟩):=cellK g1 0;have r1 : w3.cell? ⟨w.heap.size + 1,1,none⟩ = some (.int .i64 0):=cellK g1 1;have r2 : w3.cell? ⟨w.heap.size + 1,2,none⟩ = some (.string ⟨#[]⟩):=cellK g1 2;have r3 : w3.cell? ⟨w.heap.size + 1,3,none⟩ = some (.string ⟨#[]⟩):=cellK g1 3;have r4 : w3.cell? ⟨w.heap.size + 1,4,none⟩ = some (.bool false):=cellK g1 4;have r5 : w3.cell? ⟨w.heap.size + 1,5,none⟩ = some (.string ⟨#[]⟩):=cellK g1 5;have r6 : w3.cell? ⟨w.heap.size + 1,6,none⟩ = some (.bool false):=cellK g1 6;have r7 : w3.cell? ⟨w.heap.size + 1,7,none⟩ = some (.slice none 0 0):=cellK g1 7;have r8 : w3.cell? ⟨w.heap.size + 1,8,none⟩ = some (.int .i64 0):=cellK g1 8;have q0:=froK g1 0;have q1:=froK g1 1;have q2:=froK g1 2;have q3:=froK g1 3;have q4:=froK g1 4;have q5:=froK g1 5;have q6:=froK g1 6;have q7:=froK g1 7;have q8:=froK g1 8;clear hr hb g1;go_wp2_with fail;exact bodyPost_ret (v:=.agg #[.string ⟨#[]⟩,.int .i64 0,.string ⟨#[]⟩,.string ⟨#[]⟩,.bool false,.string ⟨#[]⟩,.bool false,.slice none 0 0,.int .i64 1]) (by simp [results,Tryz.results99,go_sem, *]) rfl (BestAns.bad (.inr (.inl ⟨HL.out,HBR.out,rfl,rfl⟩)) (set_below9B (by omega) HB2.out))

theorem picked_any (a : Option Addr) (len cap : Nat) (v : Value) (fs : Array Value) (fn : Fn) (hv : v = .func fn #[] fs) (w : World) :
  Calls Tryz.prog 144 #[.slice a len cap,v] w fun e w' => e = .returned (.func (.func 172) #[] #[.pointer (some ⟨w.heap.size,0,none⟩),.pointer (some ⟨w.heap.size + 1,0,none⟩)]) ∧
   w'.heap[w.heap.size]? = some (.cells #[.slice a len cap] 32 (0,0)) ∧ w'.heap[w.heap.size + 1]? = some (.cells #[v] 154 (0,0)) ∧ Below w.heap.size w w':=by
 subst hv
 go_enter Tryz.func144,Tryz.ntmps144
 go_wp2
 go_ret;exact ⟨rfl,heap2_0 _ _ _,heap2_1 _ _ _,below2 _ _ _⟩

end Go.Proofs.YtmknjejaochfjaaGreatDoor

namespace Go.Proofs.YtmknjejaochfjaaGreatDoor
open Go.RowKit Go.Shelf

attribute [local go_sem] Oper.semAt_some

structure Vx where
 v : Vd
 a : Option Addr
 len : Nat
 cap : Nat
def Vx.val (x : Vx) : Value:=.agg #[.string x.v.n,.int .i64 x.v.c,.string x.v.z,.string x.v.k,.bool x.v.x,.string x.v.m,.bool x.v.y,.slice x.a x.len x.cap]
def KpB (h n₀ : Nat) (W W' : World) : Prop:=W.heap.size ≤ W'.heap.size ∧ ∀ k,k < n₀ → ¬ k = h → ¬ k = h + 1 → W'.heap[k]? = W.heap[k]?
theorem KpB.refl (h n₀ : Nat) (W : World) : KpB h n₀ W W:=⟨Nat.le_refl _,fun _ _ _ _ => rfl⟩
theorem KpB.trans {h n₀ : Nat} {A B C : World} (p : KpB h n₀ A B) (q : KpB h n₀ B C) : KpB h n₀ A C:=⟨Nat.le_trans p.1 q.1,fun k h1 h2 h3 => (q.2 k h1 h2 h3).trans (p.2 k h1 h2 h3)⟩
theorem KpB.below {h n₀ : Nat} {A B : World} (q : Below A.heap.size A B) (hn : n₀ ≤ A.heap.size) : KpB h n₀ A B:=⟨q.size,fun k h1 _ _ => q.block k (by omega)⟩
theorem KpB.put {h n₀ : Nat} {w : World} (hn : n₀ ≤ w.heap.size) (W : World) (l : Nat) (o o' : Obj) (hl : w.heap.size ≤ l) (_ : W.heap[l]? = some o) (_ : o.isCells = false) (_ : o.isWalk = false) : KpB h n₀ W (W.putObj l o') :=
 ⟨by simp,fun k h1 _ _ => World.putObj_heap_other (fun e => by omega)⟩
theorem grown_of_below {w w' : World} (h : Below w.heap.size w w') : w.grownBy w' none:=⟨h.os,h.tape,h.output,h.size,fun k hk _ => h.block k hk⟩
structure ItAt (W : World) (a : Option Addr) (h lb fb cb zb b o len cap : Nat) (xl : List Vx) (n' : ByteArray) (c' : Int) (k' : ByteArray) (x' : Bool) (v' : ByteArray) (t : ByteArray) : Prop where
 l0 : W.heap[lb]? = some (.cells #[.slice a len cap] 32 (0,0))
 f0 : W.heap[fb]? = some (.cells #[.func (.func 173) #[] #[.pointer (some ⟨cb,0,none⟩),.pointer (some ⟨zb,0,none⟩)]] 154 (0,0))
 held : SvHeld W cb zb n' c' k' x' v' t
 ll : xl.length = len
 ha : xl = [] ∨ a = some ⟨b,o,none⟩
 bl : b < W.heap.size
 ne : ¬ lb = h ∧ ¬ lb = h + 1 ∧ ¬ fb = h ∧ ¬ fb = h + 1 ∧ ¬ cb = h ∧ ¬ cb = h + 1 ∧ ¬ zb = h ∧ ¬ zb = h + 1 ∧ ¬ b = h ∧ ¬ b = h + 1
 cell : ∀ (j : Nat) x,xl[j]? = some x → W.cell? ⟨b,o + j * 8,none⟩ = some (.string x.v.n) ∧ W.cell? ⟨b,o + j * 8 + 1,none⟩ = some (.int .i64 x.v.c) ∧ W.cell? ⟨b,o + j * 8 + 2,none⟩ = some (.string x.v.z) ∧ W.cell? ⟨b,o + j * 8 + 3,none⟩ = some (.string x.v.k) ∧
  W.cell? ⟨b,o + j * 8 + 4,none⟩ = some (.bool x.v.x) ∧ W.cell? ⟨b,o + j * 8 + 5,none⟩ = some (.string x.v.m) ∧ W.cell? ⟨b,o + j * 8 + 6,none⟩ = some (.bool x.v.y) ∧ W.cell? ⟨b,o + j * 8 + 7,none⟩ = some (.slice x.a x.len x.cap)
theorem ItAt.kept {W W' : World} {a : Option Addr} {h lb fb cb zb b o len cap n₀ : Nat} {xl : List Vx} {n' : ByteArray} {c' : Int} {k' : ByteArray} {x' : Bool} {v' t : ByteArray} (i : ItAt W a h lb fb cb zb b o len cap xl n' c' k' x' v' t) (hn : lb < n₀ ∧ fb < n₀ ∧ cb < n₀ ∧ zb < n₀ ∧ b < n₀) (k : KpB h n₀ W W') :
  ItAt W' a h lb fb cb zb b o len cap xl n' c' k' x' v' t:=by
 obtain ⟨e1,e2,e3,e4,e5,e6,e7,e8,e9,e10⟩:=i.ne
 have hc : ∀ j,W'.cell? ⟨b,j,none⟩ = W.cell? ⟨b,j,none⟩:=fun j => by simp [World.cell?,k.2 b hn.2.2.2.2 e9 e10]
 refine ⟨(k.2 _ hn.1 e1 e2).trans i.l0,(k.2 _ hn.2.1 e3 e4).trans i.f0,⟨(k.2 _ hn.2.2.1 e5 e6).trans i.held.1,(k.2 _ hn.2.2.2.1 e7 e8).trans i.held.2⟩,i.ll,i.ha,Nat.lt_of_lt_of_le i.bl k.1,i.ne,fun j x hx => ?_⟩;simp only [hc];exact i.cell j x hx

theorem pick_stops (n : Nat) (hn1 : 1 ≤ n) (a : Option Addr) (h lb fb cb zb b o len cap n₀ : Nat) (xl : List Vx) (n' : ByteArray) (c' : Int) (k' : ByteArray) (x' : Bool) (v' : ByteArray) (t : ByteArray) (w : World) (hlen : len ≤ 1000) (hi : ItAt w a h lb fb cb zb b o len cap xl n' c' k' x' v' t) (hw : n₀ = w.heap.size) (hn : lb < n₀ ∧ fb < n₀ ∧ cb < n₀ ∧ zb < n₀ ∧ b < n₀) :
  SeqStopsK Fence.wide n Tryz.prog 172 #[.pointer (some ⟨lb,0,none⟩),.pointer (some ⟨fb,0,none⟩)] (fun x : Vx => #[x.val]) (KpB h n₀) (fun xs => xs = xl.filter fun x => svV c' k' x' t x.v) (fun _ => True) len w:=fun l J Jx W hW hJ hJx hY h0 => by
 have hiW:=hi.kept hn (KpB.below hW (by omega))
 have hz : n₀ ≤ W.heap.size:=by have:=hW.size;omega
 clear hi hW;have HI:=hidK hiW;have HAJ:=hidK hJ;have HY:=hidK hY;clear hJ hJx hY;have c0:=cellK hiW.l0 0;simp only [List.getElem?_toArray,List.getElem?_cons_zero] at c0;clear hiW;refine callsIn_of_wp Tryz.func172 rfl trivial ?_ rfl;simp only [Tryz.ntmps172,List.size_toArray,List.length_cons,List.length_nil,Nat.reduceAdd,Nat.reduceSub,Array.replicate_succ,Array.replicate_zero,List.push_toArray,List.append_toArray,List.nil_append,List.cons_append]
 gi_wp2
 gi_loopw [8] (fun p wr => ∃ i : Nat,i ≤ len ∧ p = .int .i64 i ∧ Hid (KpB h n₀ W wr) ∧ Hid (J ((xl.take i).filter fun x => svV c' k' x' t x.v) wr)) (fun p _ => len - (intOf p).toNat)
 case atStart => exact ⟨0,by omega,rfl,KpB.refl _ _ _,h0⟩
 case round =>
  obtain ⟨i,hi,rfl,HK,HJ⟩:=hrel;have hI:=HI.out.kept hn HK.out;have hzr : n₀ ≤ wr.heap.size:=Nat.le_trans hz HK.out.1
  by_cases hlt : i < len
  case neg =>
   obtain rfl : i = len:=by omega
   have HE : Hid (J (xl.filter fun x => svV c' k' x' t x.v) wr):=by have:=HJ.out;rw [List.take_of_length_le (by have:=hI.ll;omega)] at this;exact this
   clear hI c0
   gi_wp2
   go_end0
   exact ⟨⟨_,rfl⟩,.inl ⟨_,rfl,HE.out⟩⟩
  have hxl:=hI.ll
  obtain rfl : a = some ⟨b,o,none⟩:=by
   rcases hI.ha with h | h
   ·rw [h] at hxl;simp at hxl;omega
   ·exact h
  obtain ⟨x,hx⟩ : ∃ x,xl[i]? = some x:=⟨_,List.getElem?_eq_getElem (by omega)⟩;obtain ⟨p0,p1,p2,p3,p4,p5,p6,p7⟩:=hI.cell i x hx;have hbf:=below1 wr (.cells #[.string x.v.n,.int .i64 x.v.c,.string x.v.z,.string x.v.k,.bool x.v.x,.string x.v.m,.bool x.v.y,.slice x.a x.len x.cap] 100);have f0:=(cell_below hbf (lt_of_some hI.f0)).trans (cellK hI.f0 0);simp only [List.getElem?_toArray,List.getElem?_cons_zero] at f0;have HH:=hidK hI.held;have HX:=hidK hx
  have hlt' : (i : Int) < len:=by omega
  clear hI hx hbf c0
  gi_wp2_with fail
  refine ⟨trivial,(callsIn_wide.2 (clo_any x.v.n x.v.c x.v.z x.v.k x.v.x x.v.m x.v.y x.a x.len x.cap cb zb n' c' k' x' v' t _ (HH.out.below (below1 _ _)))).mono ?_⟩;rintro e w2 ⟨rfl,hb2⟩;obtain ⟨gv,hb3,-⟩:=slotK hb2;have y0 : w2.cell? ⟨wr.heap.size,0,none⟩ = some (.string x.v.n):=cellK gv 0;have y1 : w2.cell? ⟨wr.heap.size,1,none⟩ = some (.int .i64 x.v.c):=cellK gv 1;have y2 : w2.cell? ⟨wr.heap.size,2,none⟩ = some (.string x.v.z):=cellK gv 2;have y3 : w2.cell? ⟨wr.heap.size,3,none⟩ = some (.string x.v.k):=cellK gv 3;have y4 : w2.cell? ⟨wr.heap.size,4,none⟩ = some (.bool x.v.x):=cellK gv 4;have y5 : w2.cell? ⟨wr.heap.size,5,none⟩ = some (.string x.v.m):=cellK gv 5;have y6 : w2.cell? ⟨wr.heap.size,6,none⟩ = some (.bool x.v.y):=cellK gv 6;have y7 : w2.cell? ⟨wr.heap.size,7,none⟩ = some (.slice x.a x.len x.cap):=cellK gv 7;have HK2:=hidK (HK.out.trans (KpB.below (h:=h) hb3 hzr));have HJ2:=hidK (HAJ.out _ _ _ _ HJ.out (grown_of_below hb3) (fun r e => by cases e));clear gv hb2 hb3 HK HJ p0 p1 p2 p3 p4 p5 p6 p7 f0;have hsv : svB x.v.c x.v.z x.v.k x.v.x x.v.m x.v.y c' k' x' t = svV c' k' x' t x.v:=rfl;rw [hsv];clear hsv
  cases hs : svV c' k' x' t x.v
  ·have he : J ((xl.take (i + 1)).filter fun x => svV c' k' x' t x.v) w2:=by have:=HJ2.out;rw [List.take_add_one,HX.out,List.filter_append];simpa [hs] using this
   have HE:=hidK he;clear hs he
   gi_wp2
   refine ⟨fun _ h => (by cases h),?_⟩
   gi_wp2
   go_roundw
   case rel => exact ⟨i + 1,by omega,by go_num,HK2,HE⟩
   case measure => simp [intOf];omega
  have hfl : ((xl.take i).filter fun x => svV c' k' x' t x.v).length < len:=by
   have h1:=List.length_filter_le (fun x : Vx => svV c' k' x' t x.v) (xl.take i);have h2 : (xl.take i).length ≤ i:=List.length_take_le _ _
   omega
  obtain ⟨fn,tmps,assign,body,hy,hR⟩:=HY.out _ x w2 HJ2.out hfl;dsimp only [Vx.val] at hy;have HS:=hidK hs;clear hs
  gi_wp2
  refine hR.mono ?_;rintro e W3 (⟨rfl,hJ3,hk3⟩ | ⟨rfl,hJx3⟩)
  ·have he : J ((xl.take (i + 1)).filter fun x => svV c' k' x' t x.v) W3:=by rw [List.take_add_one,HX.out,List.filter_append];simpa [HS.out] using hJ3
   have HE:=hidK he;clear he;have HK3:=hidK (HK2.out.trans hk3);clear hJ3 hk3 hR hy y0 y1 y2 y3 y4 y5 y6 y7
   gi_wp2
   go_roundw
   case rel => exact ⟨i + 1,by omega,by go_num,HK3,HE⟩
   case measure => simp [intOf];omega
  ·have HE:=hidK hJx3;clear hJx3 hR hy y0 y1 y2 y3 y4 y5 y6 y7
   gi_wp2
   refine bodyPost_ret (results_none rfl _ _ _) rfl ?_;exact ⟨⟨_,rfl⟩,.inr ⟨_,trivial,HE.out⟩⟩

attribute [local go_sem] Oper.semAt_some

theorem VsRow.xs {w : World} {a : Option Addr} {len cap : Nat} {vs : List Vd} (h : VsRow w a len cap vs) : ∃ (xl : List Vx) (b o : Nat),xl.map Vx.v = vs ∧ xl.length = len ∧ (xl = [] ∨ (a = some ⟨b,o,none⟩ ∧ b < w.heap.size)) ∧
  ∀ (j : Nat) x,xl[j]? = some x → TxRow w x.a x.len x.cap x.v.zs ∧ w.cell? ⟨b,o + j * 8,none⟩ = some (.string x.v.n) ∧ w.cell? ⟨b,o + j * 8 + 1,none⟩ = some (.int .i64 x.v.c) ∧ w.cell? ⟨b,o + j * 8 + 2,none⟩ = some (.string x.v.z) ∧ w.cell? ⟨b,o + j * 8 + 3,none⟩ = some (.string x.v.k) ∧
   w.cell? ⟨b,o + j * 8 + 4,none⟩ = some (.bool x.v.x) ∧ w.cell? ⟨b,o + j * 8 + 5,none⟩ = some (.string x.v.m) ∧ w.cell? ⟨b,o + j * 8 + 6,none⟩ = some (.bool x.v.y) ∧ w.cell? ⟨b,o + j * 8 + 7,none⟩ = some (.slice x.a x.len x.cap):=by
 obtain ⟨h1,h2,h3,h5⟩:=h
 rcases h5 with rfl | ⟨b,o,rfl,hlt,hc⟩
 ·exact ⟨[],0,0,rfl,by simpa using h1,.inl rfl,fun j x hx => by simp at hx⟩
 ·have hh : ∀ (j : Nat) v,vs[j]? = some v → ∃ x : Vx,x.v = v ∧ (TxRow w x.a x.len x.cap x.v.zs ∧ w.cell? ⟨b,o + j * 8,none⟩ = some (.string x.v.n) ∧ w.cell? ⟨b,o + j * 8 + 1,none⟩ = some (.int .i64 x.v.c) ∧ w.cell? ⟨b,o + j * 8 + 2,none⟩ = some (.string x.v.z) ∧ w.cell? ⟨b,o + j * 8 + 3,none⟩ = some (.string x.v.k) ∧
    w.cell? ⟨b,o + j * 8 + 4,none⟩ = some (.bool x.v.x) ∧ w.cell? ⟨b,o + j * 8 + 5,none⟩ = some (.string x.v.m) ∧ w.cell? ⟨b,o + j * 8 + 6,none⟩ = some (.bool x.v.y) ∧ w.cell? ⟨b,o + j * 8 + 7,none⟩ = some (.slice x.a x.len x.cap)):=fun j v hv => by
   obtain ⟨-,a',l',c',q⟩:=hc j v hv;exact ⟨⟨v,a',l',c'⟩,rfl,q⟩
  have key : ∀ (n : Nat),n ≤ vs.length → ∃ xl : List Vx,xl.map Vx.v = vs.take n ∧ ∀ (j : Nat) x,xl[j]? = some x → (TxRow w x.a x.len x.cap x.v.zs ∧ w.cell? ⟨b,o + j * 8,none⟩ = some (.string x.v.n) ∧ w.cell? ⟨b,o + j * 8 + 1,none⟩ = some (.int .i64 x.v.c) ∧ w.cell? ⟨b,o + j * 8 + 2,none⟩ = some (.string x.v.z) ∧ w.cell? ⟨b,o + j * 8 + 3,none⟩ = some (.string x.v.k) ∧
    w.cell? ⟨b,o + j * 8 + 4,none⟩ = some (.bool x.v.x) ∧ w.cell? ⟨b,o + j * 8 + 5,none⟩ = some (.string x.v.m) ∧ w.cell? ⟨b,o + j * 8 + 6,none⟩ = some (.bool x.v.y) ∧ w.cell? ⟨b,o + j * 8 + 7,none⟩ = some (.slice x.a x.len x.cap)):=by
   intro n
   induction n with
   | zero => exact fun _ => ⟨[],by simp,fun j x hx => by simp at hx⟩
   | succ n ih =>
    intro hn;obtain ⟨xl,e1,e2⟩:=ih (by omega)
    have hl : xl.length = n:=by have:=congrArg List.length e1;simp at this;omega
    obtain ⟨x,hxv,hx⟩:=hh n (vs[n]'(by omega)) (List.getElem?_eq_getElem _);refine ⟨xl ++ [x],?_,fun j y hy => ?_⟩
    ·rw [List.take_add_one,← e1,List.getElem?_eq_getElem (show n < vs.length by omega)]
     simp [hxv]
    ·by_cases e : j < xl.length
     ·rw [List.getElem?_append_left e] at hy;exact e2 j y hy
     ·rw [List.getElem?_append_right (by omega)] at hy
      have hj : j - xl.length = 0:=by
       rcases Nat.eq_zero_or_pos (j - xl.length) with h | h
       ·exact h
       ·rw [List.getElem?_eq_none (by simp;omega)] at hy;cases hy
      rw [hj] at hy;obtain rfl:=Option.some.inj (show some x = some y from hy)
      obtain rfl : j = n:=by omega
      exact hx
  obtain ⟨xl,e1,e2⟩:=key vs.length (Nat.le_refl _);rw [List.take_length] at e1;refine ⟨xl,b,o,e1,by have:=congrArg List.length e1;simp at this;omega,.inr ⟨rfl,hlt⟩,e2⟩

def stepX (acc : Option Vx) (x : Vx) : Option Vx:=match acc with | none => some x | some u => if betB x.v u.v = true then some x else some u
def bestX (xs : List Vx) : Option Vx:=xs.foldl stepX none
theorem bestX_snoc (xs : List Vx) (x : Vx) : bestX (xs ++ [x]) = stepX (bestX xs) x:=by simp [bestX]
theorem best_fold (sv : Vd → Bool) (xs : List Vx) : ∀ acc : Option Vx,((xs.filter fun x => sv x.v).foldl stepX acc).map Vx.v = (xs.map Vx.v).foldl (stepB sv) (acc.map Vx.v):=by
 induction xs with
 | nil => intro acc;simp
 | cons x xs ih =>
  intro acc
  cases hs : sv x.v
  ·simp only [List.filter_cons,hs,Bool.false_eq_true,if_false,List.map_cons,List.foldl_cons];rw [ih acc]
   congr 1
   simp [stepB,hs]
  ·simp only [List.filter_cons,hs,if_true,List.map_cons,List.foldl_cons];rw [ih]
   congr 1
   cases acc with
   | none => simp [stepX,stepB,hs]
   | some u =>
    simp only [stepX,stepB,hs,Option.map_some,Bool.true_and]
    split <;> simp
theorem best_same (sv : Vd → Bool) (xs : List Vx) : (bestX (xs.filter fun x => sv x.v)).map Vx.v = bestV sv (xs.map Vx.v):=best_fold sv xs none
theorem bestX_mem (xs : List Vx) : ∀ acc x,xs.foldl stepX acc = some x → x ∈ xs ∨ acc = some x:=by
 induction xs with
 | nil => intro acc x h;exact .inr h
 | cons y ys ih =>
  intro acc x h
  rcases ih _ _ h with h1 | h1
  ·exact .inl (List.mem_cons_of_mem _ h1)
  ·cases acc with
   | none => simp [stepX] at h1;subst h1;exact .inl List.mem_cons_self
   | some u =>
    simp only [stepX] at h1
    split at h1
    ·obtain rfl:=Option.some.inj h1;exact .inl List.mem_cons_self
    ·exact .inr h1

theorem put8L {w : World} {b : Nat} {T : TypeId} {u0 u1 u2 u3 u4 u5 u6 u7 v0 v1 v2 v3 v4 v5 v6 v7 : Value} (h : w.heap[b]? = some (.cells #[u0,u1,u2,u3,u4,u5,u6,u7] T (0,0))) :
  ((((((((w.setCell ⟨b,0,none⟩ v0).setCell ⟨b,1,none⟩ v1).setCell ⟨b,2,none⟩ v2).setCell ⟨b,3,none⟩ v3).setCell ⟨b,4,none⟩ v4).setCell ⟨b,5,none⟩ v5).setCell ⟨b,6,none⟩ v6).setCell ⟨b,7,none⟩ v7).heap[b]? = some (.cells #[v0,v1,v2,v3,v4,v5,v6,v7] T (0,0)):=by
 have h0 : (w.setCell ⟨b,0,none⟩ v0).heap[b]? = some (.cells #[v0,u1,u2,u3,u4,u5,u6,u7] T (0,0)):=block_set h v0;have h1 : ((w.setCell ⟨b,0,none⟩ v0).setCell ⟨b,1,none⟩ v1).heap[b]? = some (.cells #[v0,v1,u2,u3,u4,u5,u6,u7] T (0,0)):=block_set h0 v1;have h2 : (((w.setCell ⟨b,0,none⟩ v0).setCell ⟨b,1,none⟩ v1).setCell ⟨b,2,none⟩ v2).heap[b]? = some (.cells #[v0,v1,v2,u3,u4,u5,u6,u7] T (0,0)):=block_set h1 v2;have h3 : ((((w.setCell ⟨b,0,none⟩ v0).setCell ⟨b,1,none⟩ v1).setCell ⟨b,2,none⟩ v2).setCell ⟨b,3,none⟩ v3).heap[b]? = some (.cells #[v0,v1,v2,v3,u4,u5,u6,u7] T (0,0)):=block_set h2 v3;have h4 : (((((w.setCell ⟨b,0,none⟩ v0).setCell ⟨b,1,none⟩ v1).setCell ⟨b,2,none⟩ v2).setCell ⟨b,3,none⟩ v3).setCell ⟨b,4,none⟩ v4).heap[b]? = some (.cells #[v0,v1,v2,v3,v4,u5,u6,u7] T (0,0)):=block_set h3 v4;have h5 : ((((((w.setCell ⟨b,0,none⟩ v0).setCell ⟨b,1,none⟩ v1).setCell ⟨b,2,none⟩ v2).setCell ⟨b,3,none⟩ v3).setCell ⟨b,4,none⟩ v4).setCell ⟨b,5,none⟩ v5).heap[b]? = some (.cells #[v0,v1,v2,v3,v4,v5,u6,u7] T (0,0)):=block_set h4 v5;have h6 : (((((((w.setCell ⟨b,0,none⟩ v0).setCell ⟨b,1,none⟩ v1).setCell ⟨b,2,none⟩ v2).setCell ⟨b,3,none⟩ v3).setCell ⟨b,4,none⟩ v4).setCell ⟨b,5,none⟩ v5).setCell ⟨b,6,none⟩ v6).heap[b]? = some (.cells #[v0,v1,v2,v3,v4,v5,v6,u7] T (0,0)):=block_set h5 v6;have h7 : ((((((((w.setCell ⟨b,0,none⟩ v0).setCell ⟨b,1,none⟩ v1).setCell ⟨b,2,none⟩ v2).setCell ⟨b,3,none⟩ v3).setCell ⟨b,4,none⟩ v4).setCell ⟨b,5,none⟩ v5).setCell ⟨b,6,none⟩ v6).setCell ⟨b,7,none⟩ v7).heap[b]? = some (.cells #[v0,v1,v2,v3,v4,v5,v6,v7] T (0,0)):=block_set h6 v7;exact h7
def bcells : Option Vx → Array Value
 | none => #[.string ⟨#[]⟩,.int .i64 0,.string ⟨#[]⟩,.string ⟨#[]⟩,.bool false,.string ⟨#[]⟩,.bool false,.slice none 0 0]
 | some x => #[.string x.v.n,.int .i64 x.v.c,.string x.v.z,.string x.v.k,.bool x.v.x,.string x.v.m,.bool x.v.y,.slice x.a x.len x.cap]
def BI (w w5 : World) (h : Nat) (pre : List Vx) (W : World) : Prop :=
 (W.heap[h]? = some (.cells (bcells (bestX pre)) 100 (0,0)) ∧ W.heap[h + 1]? = some (.cells #[.bool (bestX pre).isSome] 4 (0,0))) ∧ KpB h w5.heap.size w5 W ∧ Below w.heap.size w W
theorem BI.own (w w5 : World) (h : Nat) (hh : h + 1 < w5.heap.size) (hw : w.heap.size ≤ w5.heap.size) : OwnFrom w5.heap.size (BI w w5 h):=by
 intro s A B row hs hg hr;obtain ⟨⟨h1,h2⟩,h3,h4⟩:=hs;have hk : ∀ k,k < w5.heap.size → B.heap[k]? = A.heap[k]?:=fun k hk => hg.block k (Nat.lt_of_lt_of_le hk h3.1) (fun e => by have:=(hr k e.symm).1;omega);exact ⟨⟨(hk h (by omega)).trans h1,(hk (h + 1) hh).trans h2⟩,⟨Nat.le_trans h3.1 hg.size,fun k q1 q2 q3 => (hk k q1).trans (h3.2 k q1 q2 q3)⟩,h4.trans ⟨hg.os,hg.tape,hg.output,hg.size,fun k q => hk k (by omega)⟩⟩
theorem BI.below {w w5 W W' : World} {h : Nat} {pre : List Vx} (hi : BI w w5 h pre W) (hh : h + 1 < w5.heap.size) (hw : w.heap.size ≤ w5.heap.size) (hb : Below W.heap.size W W') : BI w w5 h pre W' :=
 BI.own w w5 h hh hw pre W W' none hi (grown_of_below hb) (fun r e => by cases e)
theorem keeps_below {B : Nat} {W W' : World} (hb : Below W.heap.size W W') : KeepsFrom B W W':=(KeepsOthers.of_grownBy (grown_of_below hb) (fun j o h => by cases h)).from B
theorem BI.put {w w5 W : World} {h : Nat} {pre : List Vx} {x : Vx} (hi : BI w w5 h pre W) (hw : w.heap.size ≤ h) (hs : stepX (bestX pre) x = some x) : BI w w5 h (pre ++ [x]) (((((((((W.setCell ⟨h,0,none⟩ (.string x.v.n)).setCell ⟨h,1,none⟩ (.int .i64 x.v.c)).setCell ⟨h,2,none⟩ (.string x.v.z)).setCell ⟨h,3,none⟩ (.string x.v.k)).setCell ⟨h,4,none⟩ (.bool x.v.x)).setCell ⟨h,5,none⟩ (.string x.v.m)).setCell ⟨h,6,none⟩ (.bool x.v.y)).setCell ⟨h,7,none⟩ (.slice x.a x.len x.cap)).setCell ⟨h + 1,0,none⟩ (.bool true)):=by
 obtain ⟨⟨h1,h2⟩,h3,h4⟩:=hi
 have e : bestX (pre ++ [x]) = some x:=by rw [bestX_snoc];exact hs
 unfold BI;rw [e]
 have h1' : ∃ u0 u1 u2 u3 u4 u5 u6 u7,W.heap[h]? = some (.cells #[u0,u1,u2,u3,u4,u5,u6,u7] 100 (0,0)):=by
  cases hb : bestX pre with
  | none => rw [hb] at h1;exact ⟨_,_,_,_,_,_,_,_,h1⟩
  | some u => rw [hb] at h1;exact ⟨_,_,_,_,_,_,_,_,h1⟩
 obtain ⟨u0,u1,u2,u3,u4,u5,u6,u7,h1'⟩:=h1';refine ⟨⟨(Below.heap_setCell _ _ _ _ (show h ≠ h + 1 by omega)).trans (put8L h1'),?_⟩,⟨by simpa [World.setCell] using h3.1,fun k q1 q2 q3 => ?_⟩,?_⟩
 ·have h2' : ((((((((W.setCell ⟨h,0,none⟩ (.string x.v.n)).setCell ⟨h,1,none⟩ (.int .i64 x.v.c)).setCell ⟨h,2,none⟩ (.string x.v.z)).setCell ⟨h,3,none⟩ (.string x.v.k)).setCell ⟨h,4,none⟩ (.bool x.v.x)).setCell ⟨h,5,none⟩ (.string x.v.m)).setCell ⟨h,6,none⟩ (.bool x.v.y)).setCell ⟨h,7,none⟩ (.slice x.a x.len x.cap)).heap[h + 1]? = W.heap[h + 1]?:=by
   rw [Below.heap_setCell _ _ _ _ (show h + 1 ≠ h by omega),Below.heap_setCell _ _ _ _ (show h + 1 ≠ h by omega),Below.heap_setCell _ _ _ _ (show h + 1 ≠ h by omega),Below.heap_setCell _ _ _ _ (show h + 1 ≠ h by omega),Below.heap_setCell _ _ _ _ (show h + 1 ≠ h by omega),Below.heap_setCell _ _ _ _ (show h + 1 ≠ h by omega),Below.heap_setCell _ _ _ _ (show h + 1 ≠ h by omega),Below.heap_setCell _ _ _ _ (show h + 1 ≠ h by omega)]
  exact block_set (h2'.trans h2) _
 ·rw [Below.heap_setCell _ _ _ _ (show k ≠ h + 1 by omega),Below.heap_setCell _ _ _ _ (show k ≠ h by omega),Below.heap_setCell _ _ _ _ (show k ≠ h by omega),Below.heap_setCell _ _ _ _ (show k ≠ h by omega),Below.heap_setCell _ _ _ _ (show k ≠ h by omega),Below.heap_setCell _ _ _ _ (show k ≠ h by omega),Below.heap_setCell _ _ _ _ (show k ≠ h by omega),Below.heap_setCell _ _ _ _ (show k ≠ h by omega),Below.heap_setCell _ _ _ _ (show k ≠ h by omega)];exact h3.2 k q1 q2 q3
 ·exact set_below (by omega) (set_below hw (set_below hw (set_below hw (set_below hw (set_below hw (set_below hw (set_below hw (set_below hw h4))))))))
theorem BI.kp {W : World} {h n₀ : Nat} {x : Vx} : KpB h n₀ W (((((((((W.setCell ⟨h,0,none⟩ (.string x.v.n)).setCell ⟨h,1,none⟩ (.int .i64 x.v.c)).setCell ⟨h,2,none⟩ (.string x.v.z)).setCell ⟨h,3,none⟩ (.string x.v.k)).setCell ⟨h,4,none⟩ (.bool x.v.x)).setCell ⟨h,5,none⟩ (.string x.v.m)).setCell ⟨h,6,none⟩ (.bool x.v.y)).setCell ⟨h,7,none⟩ (.slice x.a x.len x.cap)).setCell ⟨h + 1,0,none⟩ (.bool true)):=by
 refine ⟨by simp [World.setCell],fun k q1 q2 q3 => ?_⟩;rw [Below.heap_setCell _ _ _ _ (show k ≠ h + 1 by omega),Below.heap_setCell _ _ _ _ (show k ≠ h by omega),Below.heap_setCell _ _ _ _ (show k ≠ h by omega),Below.heap_setCell _ _ _ _ (show k ≠ h by omega),Below.heap_setCell _ _ _ _ (show k ≠ h by omega),Below.heap_setCell _ _ _ _ (show k ≠ h by omega),Below.heap_setCell _ _ _ _ (show k ≠ h by omega),Below.heap_setCell _ _ _ _ (show k ≠ h by omega),Below.heap_setCell _ _ _ _ (show k ≠ h by omega)]
theorem BI.kf {W : World} {h B : Nat} {x : Vx} : KeepsFrom B W (((((((((W.setCell ⟨h,0,none⟩ (.string x.v.n)).setCell ⟨h,1,none⟩ (.int .i64 x.v.c)).setCell ⟨h,2,none⟩ (.string x.v.z)).setCell ⟨h,3,none⟩ (.string x.v.k)).setCell ⟨h,4,none⟩ (.bool x.v.x)).setCell ⟨h,5,none⟩ (.string x.v.m)).setCell ⟨h,6,none⟩ (.bool x.v.y)).setCell ⟨h,7,none⟩ (.slice x.a x.len x.cap)).setCell ⟨h + 1,0,none⟩ (.bool true)) :=
 ((((((((((KeepsOthers.setCell W ⟨h,0,none⟩ _).trans (KeepsOthers.setCell _ ⟨h,1,none⟩ _)).trans (KeepsOthers.setCell _ ⟨h,2,none⟩ _)).trans (KeepsOthers.setCell _ ⟨h,3,none⟩ _)).trans (KeepsOthers.setCell _ ⟨h,4,none⟩ _)).trans (KeepsOthers.setCell _ ⟨h,5,none⟩ _)).trans (KeepsOthers.setCell _ ⟨h,6,none⟩ _)).trans (KeepsOthers.setCell _ ⟨h,7,none⟩ _)).trans (KeepsOthers.setCell _ ⟨h + 1,0,none⟩ _)).from B)

theorem heap_other9 {w : World} {b k : Nat} {v0 v1 v2 v3 v4 v5 v6 v7 v8 : Value} (h : ¬ k = b) : (((((((((w.setCell ⟨b,0,none⟩ v0).setCell ⟨b,1,none⟩ v1).setCell ⟨b,2,none⟩ v2).setCell ⟨b,3,none⟩ v3).setCell ⟨b,4,none⟩ v4).setCell ⟨b,5,none⟩ v5).setCell ⟨b,6,none⟩ v6).setCell ⟨b,7,none⟩ v7).setCell ⟨b,8,none⟩ v8).heap[k]? = w.heap[k]?:=by
 rw [Below.heap_setCell _ _ _ _ h,Below.heap_setCell _ _ _ _ h,Below.heap_setCell _ _ _ _ h,Below.heap_setCell _ _ _ _ h,Below.heap_setCell _ _ _ _ h,Below.heap_setCell _ _ _ _ h,Below.heap_setCell _ _ _ _ h,Below.heap_setCell _ _ _ _ h,Below.heap_setCell _ _ _ _ h]
theorem own_put {zs : List ByteArray} {w X : World} {a : Option Addr} {l p D : Nat} {o : Obj} (h : Ap.OwnAns zs w a l p X) (hK : X.heap[D]? = some (.deferred (some []))) (hD : w.heap.size ≤ D) : Ap.OwnAns zs w a l p (X.putObj D o):=by
 obtain ⟨⟨h1,h2,h3,h4,h5⟩,h6,h7⟩:=h;have hb : Below w.heap.size w (X.putObj D o):=h7.trans (belowK_b (w:=w) (Nat.le_refl _) X D _ _ hD hK rfl rfl)
 rcases h6 with h6 | ⟨g,cur,rfl,hg,hh⟩
 ·exact ⟨⟨h1,h2,h3,h4,.inl h6⟩,.inl h6,hb⟩
 ·have hne : g ≠ D:=fun e => by subst e;rw [hh] at hK;cases hK
  have hs : (X.putObj D o).heap[g]? = X.heap[g]?:=World.putObj_heap_other hne;refine ⟨⟨h1,h2,h3,h4,?_⟩,.inr ⟨g,cur,rfl,hg,hs.trans hh⟩,hb⟩
  rcases h5 with h5 | ⟨g',q,e,hl,hc⟩
  ·exact .inl h5
  ·cases e
   exact .inr ⟨g,0,rfl,by simpa using hl,fun j x hx => by have:=hc j x hx;simp only [World.cell?,hs] at this ⊢;exact this⟩

theorem ibest_right (a : Option Addr) (len cap : Nat) (vs : List Vd) (n' : ByteArray) (c' : Int) (k' : ByteArray) (x' : Bool) (v' : ByteArray) (t : ByteArray) (w : World) (hn' : n'.size ≤ 9223372036854775807) (hk' : k'.size ≤ 9223372036854775807) (hv' : v'.size ≤ 9223372036854775807) (ht : t.size ≤ 9223372036854775807) (hr : VsRow w a len cap vs) (hl : ¬ (400 < vs.length ∨ 8000 < t.size)) (hR : BestR vs n' c' k' v' t) :
  Calls Tryz.prog 99 #[.slice a len cap,.agg #[.string n',.int .i64 c',.string k',.bool x',.string v'],.string t] w (BestAns vs n' c' k' x' v' t w):=by
 have HR:=hidK hr;have hvl : vs.length = len:=hr.1
 have hl4 : ¬ 400 < len:=by omega
 have hl8 : ¬ 8000 < t.size:=by omega
 have HRR:=hidK hR;have HL:=hidK hl;clear hr hR hl;refine (callsIn_wide (n:=6)).1 ?_;refine callsIn_of_wp_marks Tryz.func99 rfl trivial ?_ rfl;simp only [Tryz.ntmps99,List.size_toArray,List.length_cons,List.length_nil,Nat.reduceAdd,Nat.reduceSub,Array.replicate_succ,Array.replicate_zero,List.push_toArray,List.append_toArray,List.nil_append,List.cons_append];refine wpIn_wide.2 ?_;go_wp2_with fail;refine (long_no t _ hl8).mono ?_;rintro e w1 ⟨rfl,rfl⟩;go_wp2_with fail;refine (iclaim_any n' c' k' x' v' _ hn' hk' hv').mono ?_;rintro e w1 ⟨r,rfl,hr,hb⟩;obtain rfl : r = true:=hr.2 HRR.out.1;have g0:=(hb.block w.heap.size (by simp;omega)).trans (heap2_0 _ _ _);have g1:=(hb.block (w.heap.size + 1) (by simp)).trans (heap2_1 _ _ _);have HB:=hidK ((below2 w _ _).trans (hb.mono (by simp;omega)));have HG0:=hidK g0;have HG1:=hidK g1;clear g0 g1 hb hr;go_wp2_with fail;refine (izone_any t _ ht).mono ?_;rintro e w2 ⟨r,rfl,hr,rfl⟩;obtain rfl : r = true:=hr.2 HRR.out.2.1;clear hr;go_wp2_with fail;refine (disks_any a len cap vs _ (HR.out.below HB.out)).mono ?_;rintro e w3 ⟨r,rfl,hr,hb⟩;obtain rfl : r = true:=hr.2 HRR.out.2.2;have HB3:=upB HB hb;have HX0:=upK HG0 hb;have HX1:=upK HG1 hb;clear hr hb HB HG0 HG1;have p2:=below2 w3 (.cells #[.string ⟨#[]⟩,.int .i64 0,.string ⟨#[]⟩,.string ⟨#[]⟩,.bool false,.string ⟨#[]⟩,.bool false,.slice none 0 0] 100) (.cells #[.bool false] 4);have g0:=(p2.block _ (lt_of_some HX0.out)).trans HX0.out;have d0:=cellK g0 0;have d1:=cellK g0 1;have d2:=cellK g0 2;have d3:=cellK g0 3;have d4:=cellK g0 4;simp only [List.getElem?_toArray,List.getElem?_cons_succ,List.getElem?_cons_zero] at d0 d1 d2 d3 d4;clear p2 g0;go_wp2_with fail;refine (serving_any n' c' k' x' v' t _).mono ?_;rintro e w4 ⟨rfl,hh4,hb4⟩;simp only [World.size_alloc] at hh4 ⊢;clear d0 d1 d2 d3 d4
 have p2:=below2 w3 (.cells #[.string ⟨#[]⟩,.int .i64 0,.string ⟨#[]⟩,.string ⟨#[]⟩,.bool false,.string ⟨#[]⟩,.bool false,.slice none 0 0] 100) (.cells #[.bool false] 4);have G7:=hidK ((hb4.block w3.heap.size (by simp;omega)).trans (heap2_0 _ _ _));have G8:=hidK ((hb4.block (w3.heap.size + 1) (by simp)).trans (heap2_1 _ _ _));have hb34 : Below w3.heap.size w3 w4:=p2.trans (hb4.mono (by simp;omega));have HB4:=upB HB3 hb34;have HX4:=upK HX1 hb34;have HH4:=hidK hh4
 have h34 : w3.heap.size + 1 + 1 ≤ w4.heap.size:=by have:=hb4.size;simp at this;omega
 have HZ4:=hidK (lt_of_some hh4.2);clear p2 hb4 hh4 hb34 HX0;go_wp2_with fail;refine (picked_any a len cap _ _ _ rfl _).mono ?_;rintro e w5 ⟨rfl,hl5,hf5,hb5⟩;have G7':=hidK ((hb5.block _ (lt_of_some G7.out)).trans G7.out);have G8':=hidK ((hb5.block _ (lt_of_some G8.out)).trans G8.out);have HX5:=upK HX4 hb5;have HB5:=upB HB4 hb5;have HH5:=hidK (HH4.out.below hb5);have HL5:=hidK hl5;have HF5:=hidK hf5
 have h45 : w4.heap.size + 1 + 1 ≤ w5.heap.size:=by have:=lt_of_some hf5;omega
 have hw3 : w.heap.size + 1 < w3.heap.size:=lt_of_some HX1.out;clear hl5 hf5 hb5 G7 G8 HX4 HB4 HH4 HX1;obtain ⟨xl,b,o,hxv,hxl,hab,hcell⟩:=(HR.out).xs;have HXV:=hidK hxv
 obtain ⟨bb,hbb,hba,hbc⟩ : ∃ bb,bb < w3.heap.size ∧ (xl = [] ∨ a = some ⟨bb,o,none⟩) ∧ ∀ (j : Nat) x,xl[j]? = some x → TxRow w x.a x.len x.cap x.v.zs ∧ w5.cell? ⟨bb,o + j * 8,none⟩ = some (.string x.v.n) ∧ w5.cell? ⟨bb,o + j * 8 + 1,none⟩ = some (.int .i64 x.v.c) ∧ w5.cell? ⟨bb,o + j * 8 + 2,none⟩ = some (.string x.v.z) ∧ w5.cell? ⟨bb,o + j * 8 + 3,none⟩ = some (.string x.v.k) ∧
   w5.cell? ⟨bb,o + j * 8 + 4,none⟩ = some (.bool x.v.x) ∧ w5.cell? ⟨bb,o + j * 8 + 5,none⟩ = some (.string x.v.m) ∧ w5.cell? ⟨bb,o + j * 8 + 6,none⟩ = some (.bool x.v.y) ∧ w5.cell? ⟨bb,o + j * 8 + 7,none⟩ = some (.slice x.a x.len x.cap):=by
  rcases hab with h | ⟨h,hlt⟩
  ·exact ⟨w.heap.size,by omega,.inl h,fun j x hx => by simp [h] at hx⟩
  ·refine ⟨b,by omega,.inr h,fun j x hx => ?_⟩;obtain ⟨q,q0,q1,q2,q3,q4,q5,q6,q7⟩:=hcell j x hx;exact ⟨q,(cell_below HB5.out hlt).trans q0,(cell_below HB5.out hlt).trans q1,(cell_below HB5.out hlt).trans q2,(cell_below HB5.out hlt).trans q3,(cell_below HB5.out hlt).trans q4,(cell_below HB5.out hlt).trans q5,(cell_below HB5.out hlt).trans q6,(cell_below HB5.out hlt).trans q7⟩
 have HTX:=hidK (fun (j : Nat) x hx => (hbc j x hx).1)
 have HIT : Hid (ItAt w5 a w3.heap.size w4.heap.size (w4.heap.size + 1) (w3.heap.size + 1 + 1) (w3.heap.size + 1 + 1 + 1) bb o len cap xl n' c' k' x' v' t) :=
  ⟨HL5.out,HF5.out,HH5.out,hxl,hba,by omega,⟨by omega,by omega,by omega,by omega,by omega,by omega,by omega,by omega,by omega,by omega⟩,fun j x hx => (hbc j x hx).2⟩
 have hz4 : w3.heap.size + 1 + 1 + 1 < w4.heap.size:=HZ4.out;clear hxv hcell hab hba hbc;go_wp2_with fail;rename_i K0 hK0;refine (wpIn_wide (n:=6)).1 ?_
 refine wpIn_rangeFunc_ownH rfl (by omega) (gf:=172) (lb:=#[.pointer (some ⟨w4.heap.size,0,none⟩),.pointer (some ⟨w4.heap.size + 1,0,none⟩)]) rfl trivial (enters_of Tryz.func172 (by kernel_rfl) rfl)
  (pick_stops (6 - 1) (by omega) a w3.heap.size w4.heap.size (w4.heap.size + 1) (w3.heap.size + 1 + 1) (w3.heap.size + 1 + 1 + 1) bb o len cap w5.heap.size xl n' c' k' x' v' t w5 (by omega) HIT.out rfl ⟨by omega,by omega,by omega,by omega,by omega⟩)
  KpB.trans (KpB.put (Nat.le_refl _)) (Below.refl _ _) (fun _ => rfl)
  (BI w w5 w3.heap.size) (fun _ _ _ => False) (BI.own w w5 w3.heap.size (by omega) (by omega)) (fun _ _ _ _ _ hs _ _ => hs)
  ⟨⟨G7'.out,G8'.out⟩,KpB.refl _ _ _,HB5.out⟩
  (fun x a' W => ∃ Bx,w5.heap.size ≤ Bx ∧ W.heap[Bx]? = some (.cells #[.string x.v.n,.int .i64 x.v.c,.string x.v.z,.string x.v.k,.bool x.v.x,.string x.v.m,.bool x.v.y,.slice x.a x.len x.cap] 100 (0,0)) ∧ a' = { tmps:=#[.slice a len cap,.agg #[.string n',.int .i64 c',.string k',.bool x',.string v'],.string t,undef,.pointer (some ⟨w.heap.size,0,none⟩),undef,.pointer (some ⟨w.heap.size + 1,0,none⟩),.pointer (some ⟨w3.heap.size,0,none⟩),.pointer (some ⟨w3.heap.size + 1,0,none⟩),.pointer (some ⟨Bx,0,none⟩),.slice a len cap,.int .i64 len,.bool (decide (400 < (len : Int))),.bool (decide (400 < (len : Int))),.string t,.bool false,.bool (decide (400 < (len : Int))),undef,.agg #[.string n',.int .i64 c',.string k',.bool x',.string v'],.bool true,.bool false,.bool false,.string t,.bool true,.bool false,.bool false,.bool false,.slice a len cap,.bool true,.bool false,.bool false,undef,.slice a len cap,.agg #[.string n',.int .i64 c',.string k',.bool x',.string v'],.string t,.func (.func 173) #[] #[.pointer (some ⟨w3.heap.size + 1 + 1,0,none⟩),.pointer (some ⟨w3.heap.size + 1 + 1 + 1,0,none⟩)],.func (.func 172) #[] #[.pointer (some ⟨w4.heap.size,0,none⟩),.pointer (some ⟨w4.heap.size + 1,0,none⟩)],x.val,undef,undef,undef,undef,undef,undef,undef,undef,undef,undef,undef,undef,undef,undef],defers:=[] })
  (fun x a' _ X Y row hs hg hr => by
   obtain ⟨Bx,h1,h2,h3⟩:=hs;refine ⟨Bx,h1,(hg.block Bx (lt_of_some h2) (fun e => ?_)).trans h2,h3⟩;obtain ⟨-,o,ho,hc⟩:=hr Bx e.symm;rw [h2] at ho
   cases ho
   simp [Obj.isCells] at hc)
  ?assign ?body ?done ?stop
 case assign =>
  rintro l pre x W K hi hK;dsimp only [Vx.val]
  gi_wp2
  refine hK _ _ ((KeepsOthers.alloc _ _).from _) (KpB.below (below1 _ _) hi.2.1.1) (hi.below (by omega) (by omega) (below1 _ _)) ⟨W.heap.size,hi.2.1.1,Array.getElem?_push_size,rfl⟩
 case body =>
  rintro l pre x a' W hl ⟨r,hr⟩ hi ⟨Bx,hBx,bX,rfl⟩ hlt;clear hlt hr;have HI:=hidK hi
  have hww : w.heap.size ≤ w3.heap.size:=by omega
  cases hbx : bestX pre with
  | none =>
   obtain ⟨⟨q7,q8⟩,-,-⟩:=hi;rw [hbx] at q7 q8;have q7' : W.heap[w3.heap.size]? = some (.cells #[.string ⟨#[]⟩,.int .i64 0,.string ⟨#[]⟩,.string ⟨#[]⟩,.bool false,.string ⟨#[]⟩,.bool false,.slice none 0 0] 100 (0,0)):=q7;have q8' : W.heap[w3.heap.size + 1]? = some (.cells #[.bool false] 4 (0,0)):=q8;have m0 : W.cell? ⟨w3.heap.size,0,none⟩ = some (.string ⟨#[]⟩):=cellK q7' 0;have mf0:=froK q7' 0;have m1 : W.cell? ⟨w3.heap.size,1,none⟩ = some (.int .i64 0):=cellK q7' 1;have mf1:=froK q7' 1;have m2 : W.cell? ⟨w3.heap.size,2,none⟩ = some (.string ⟨#[]⟩):=cellK q7' 2;have mf2:=froK q7' 2;have m3 : W.cell? ⟨w3.heap.size,3,none⟩ = some (.string ⟨#[]⟩):=cellK q7' 3;have mf3:=froK q7' 3;have m4 : W.cell? ⟨w3.heap.size,4,none⟩ = some (.bool false):=cellK q7' 4;have mf4:=froK q7' 4;have m5 : W.cell? ⟨w3.heap.size,5,none⟩ = some (.string ⟨#[]⟩):=cellK q7' 5;have mf5:=froK q7' 5;have m6 : W.cell? ⟨w3.heap.size,6,none⟩ = some (.bool false):=cellK q7' 6;have mf6:=froK q7' 6;have m7 : W.cell? ⟨w3.heap.size,7,none⟩ = some (.slice none 0 0):=cellK q7' 7;have mf7:=froK q7' 7;have f0 : W.cell? ⟨w3.heap.size + 1,0,none⟩ = some (.bool false):=cellK q8' 0;have ff0:=froK q8' 0;have y0 : W.cell? ⟨Bx,0,none⟩ = some (.string x.v.n):=cellK bX 0;have y1 : W.cell? ⟨Bx,1,none⟩ = some (.int .i64 x.v.c):=cellK bX 1;have y2 : W.cell? ⟨Bx,2,none⟩ = some (.string x.v.z):=cellK bX 2;have y3 : W.cell? ⟨Bx,3,none⟩ = some (.string x.v.k):=cellK bX 3;have y4 : W.cell? ⟨Bx,4,none⟩ = some (.bool x.v.x):=cellK bX 4;have y5 : W.cell? ⟨Bx,5,none⟩ = some (.string x.v.m):=cellK bX 5;have y6 : W.cell? ⟨Bx,6,none⟩ = some (.bool x.v.y):=cellK bX 6;have y7 : W.cell? ⟨Bx,7,none⟩ = some (.slice x.a x.len x.cap):=cellK bX 7;have HP:=hidK (HI.out.put (x:=x) hww (by rw [hbx];rfl));clear q7 q8 q7' q8' bX hbx
   gi_wp2
   refine ⟨trivial,?_⟩
   gi_wp2
   exact ⟨BI.kf,BI.kp,HP.out⟩
  | some u =>
   obtain ⟨⟨q7,q8⟩,-,-⟩:=hi;rw [hbx] at q7 q8;have q7' : W.heap[w3.heap.size]? = some (.cells #[.string u.v.n,.int .i64 u.v.c,.string u.v.z,.string u.v.k,.bool u.v.x,.string u.v.m,.bool u.v.y,.slice u.a u.len u.cap] 100 (0,0)):=q7;have q8' : W.heap[w3.heap.size + 1]? = some (.cells #[.bool true] 4 (0,0)):=q8;have m0 : W.cell? ⟨w3.heap.size,0,none⟩ = some (.string u.v.n):=cellK q7' 0;have mf0:=froK q7' 0;have m1 : W.cell? ⟨w3.heap.size,1,none⟩ = some (.int .i64 u.v.c):=cellK q7' 1;have mf1:=froK q7' 1;have m2 : W.cell? ⟨w3.heap.size,2,none⟩ = some (.string u.v.z):=cellK q7' 2;have mf2:=froK q7' 2;have m3 : W.cell? ⟨w3.heap.size,3,none⟩ = some (.string u.v.k):=cellK q7' 3;have mf3:=froK q7' 3;have m4 : W.cell? ⟨w3.heap.size,4,none⟩ = some (.bool u.v.x):=cellK q7' 4;have mf4:=froK q7' 4;have m5 : W.cell? ⟨w3.heap.size,5,none⟩ = some (.string u.v.m):=cellK q7' 5;have mf5:=froK q7' 5;have m6 : W.cell? ⟨w3.heap.size,6,none⟩ = some (.bool u.v.y):=cellK q7' 6;have mf6:=froK q7' 6;have m7 : W.cell? ⟨w3.heap.size,7,none⟩ = some (.slice u.a u.len u.cap):=cellK q7' 7;have mf7:=froK q7' 7;have f0 : W.cell? ⟨w3.heap.size + 1,0,none⟩ = some (.bool true):=cellK q8' 0;have ff0:=froK q8' 0;have y0 : W.cell? ⟨Bx,0,none⟩ = some (.string x.v.n):=cellK bX 0;have y1 : W.cell? ⟨Bx,1,none⟩ = some (.int .i64 x.v.c):=cellK bX 1;have y2 : W.cell? ⟨Bx,2,none⟩ = some (.string x.v.z):=cellK bX 2;have y3 : W.cell? ⟨Bx,3,none⟩ = some (.string x.v.k):=cellK bX 3;have y4 : W.cell? ⟨Bx,4,none⟩ = some (.bool x.v.x):=cellK bX 4;have y5 : W.cell? ⟨Bx,5,none⟩ = some (.string x.v.m):=cellK bX 5;have y6 : W.cell? ⟨Bx,6,none⟩ = some (.bool x.v.y):=cellK bX 6;have y7 : W.cell? ⟨Bx,7,none⟩ = some (.slice x.a x.len x.cap):=cellK bX 7;clear q7 q8
   gi_wp2_with fail
   refine ⟨trivial,(CallsIn.inRound l (callsIn_wide.2 (better_any x.v u.v x.a u.a x.len x.cap u.len u.cap _))).mono ?_⟩;rintro e W2 ⟨rfl,hb2⟩;have hi2:=HI.out.below (by omega) (by omega) hb2;have HI2:=hidK hi2;have HKF:=hidK (keeps_below (B:=w5.heap.size) hb2);have HKP:=hidK (KpB.below (h:=w3.heap.size) hb2 HI.out.2.1.1);have z7:=(hb2.block _ (lt_of_some q7')).trans q7';have z8:=(hb2.block _ (lt_of_some q8')).trans q8';have zX:=(hb2.block _ (lt_of_some bX)).trans bX;clear hi2 m0 mf0 y0 m1 mf1 y1 m2 mf2 y2 m3 mf3 y3 m4 mf4 y4 m5 mf5 y5 m6 mf6 y6 m7 mf7 y7 f0 ff0;have m0 : W2.cell? ⟨w3.heap.size,0,none⟩ = some (.string u.v.n):=cellK z7 0;have mf0:=froK z7 0;have m1 : W2.cell? ⟨w3.heap.size,1,none⟩ = some (.int .i64 u.v.c):=cellK z7 1;have mf1:=froK z7 1;have m2 : W2.cell? ⟨w3.heap.size,2,none⟩ = some (.string u.v.z):=cellK z7 2;have mf2:=froK z7 2;have m3 : W2.cell? ⟨w3.heap.size,3,none⟩ = some (.string u.v.k):=cellK z7 3;have mf3:=froK z7 3;have m4 : W2.cell? ⟨w3.heap.size,4,none⟩ = some (.bool u.v.x):=cellK z7 4;have mf4:=froK z7 4;have m5 : W2.cell? ⟨w3.heap.size,5,none⟩ = some (.string u.v.m):=cellK z7 5;have mf5:=froK z7 5;have m6 : W2.cell? ⟨w3.heap.size,6,none⟩ = some (.bool u.v.y):=cellK z7 6;have mf6:=froK z7 6;have m7 : W2.cell? ⟨w3.heap.size,7,none⟩ = some (.slice u.a u.len u.cap):=cellK z7 7;have mf7:=froK z7 7;have f0 : W2.cell? ⟨w3.heap.size + 1,0,none⟩ = some (.bool true):=cellK z8 0;have ff0:=froK z8 0;have y0 : W2.cell? ⟨Bx,0,none⟩ = some (.string x.v.n):=cellK zX 0;have y1 : W2.cell? ⟨Bx,1,none⟩ = some (.int .i64 x.v.c):=cellK zX 1;have y2 : W2.cell? ⟨Bx,2,none⟩ = some (.string x.v.z):=cellK zX 2;have y3 : W2.cell? ⟨Bx,3,none⟩ = some (.string x.v.k):=cellK zX 3;have y4 : W2.cell? ⟨Bx,4,none⟩ = some (.bool x.v.x):=cellK zX 4;have y5 : W2.cell? ⟨Bx,5,none⟩ = some (.string x.v.m):=cellK zX 5
   have y6 : W2.cell? ⟨Bx,6,none⟩ = some (.bool x.v.y):=cellK zX 6;have y7 : W2.cell? ⟨Bx,7,none⟩ = some (.slice x.a x.len x.cap):=cellK zX 7;clear hb2 z7 z8 zX q7' q8' bX
   cases hbe : betB x.v u.v
   ·have HP : Hid (BI w w5 w3.heap.size (pre ++ [x]) W2):=by
     have h9:=HI2.out
     show BI w w5 w3.heap.size (pre ++ [x]) W2
     unfold BI at h9 ⊢;rw [bestX_snoc,hbx];rw [hbx] at h9
     simpa [stepX,hbe] using h9
    clear hbe hbx
    gi_wp2
    exact ⟨HKF.out,HKP.out,HP.out⟩
   ·have HP:=hidK (HI2.out.put (x:=x) hww (by rw [hbx];simp [stepX,hbe]));clear hbe hbx
    gi_wp2
    exact ⟨HKF.out.trans BI.kf,HKP.out.trans BI.kp,HP.out⟩
 case stop =>
  rintro D c pre W _ _ h _;exact h.elim
 case done =>
  rintro D ys W hD rfl hi hK
  have hput : ∀ (X : World) (o : Obj) (q : Nat),(X.putObj D o).cell? ⟨w.heap.size + 1,q,none⟩ = X.cell? ⟨w.heap.size + 1,q,none⟩:=fun X o q => by
   simp only [World.cell?];rw [World.putObj_heap_other (show w.heap.size + 1 ≠ D by omega)]
  have hsame:=best_same (svV c' k' x' t) xl;rw [HXV.out] at hsame;have go:=(hi.2.1.2 (w.heap.size + 1) (by omega) (by omega) (by omega)).trans HX5.out;have HI:=hidK hi;have HKD:=hidK hK;have hwW:=hi.2.2.size;obtain ⟨⟨q7,q8⟩,-,-⟩:=hi;refine hK0 _ _ ?_;clear hK0 hK
  cases hbx : bestX (xl.filter fun x => svV c' k' x' t x.v) with
  | none =>
   rw [hbx] at q8 hsame;have q8' : W.heap[w3.heap.size + 1]? = some (.cells #[.bool false] 4 (0,0)):=q8;have f0 : W.cell? ⟨w3.heap.size + 1,0,none⟩ = some (.bool false):=cellK q8' 0;have HN : Hid (bestV (svV c' k' x' t) vs = none):=hsame.symm;have r0 : W.cell? ⟨w.heap.size + 1,0,none⟩ = some (.string ⟨#[]⟩):=cellK go 0;have rf0:=froK go 0;have r1 : W.cell? ⟨w.heap.size + 1,1,none⟩ = some (.int .i64 0):=cellK go 1;have rf1:=froK go 1;have r2 : W.cell? ⟨w.heap.size + 1,2,none⟩ = some (.string ⟨#[]⟩):=cellK go 2;have rf2:=froK go 2;have r3 : W.cell? ⟨w.heap.size + 1,3,none⟩ = some (.string ⟨#[]⟩):=cellK go 3;have rf3:=froK go 3;have r4 : W.cell? ⟨w.heap.size + 1,4,none⟩ = some (.bool false):=cellK go 4;have rf4:=froK go 4;have r5 : W.cell? ⟨w.heap.size + 1,5,none⟩ = some (.string ⟨#[]⟩):=cellK go 5;have rf5:=froK go 5;have r6 : W.cell? ⟨w.heap.size + 1,6,none⟩ = some (.bool false):=cellK go 6;have rf6:=froK go 6;have r7 : W.cell? ⟨w.heap.size + 1,7,none⟩ = some (.slice none 0 0):=cellK go 7;have rf7:=froK go 7;have r8 : W.cell? ⟨w.heap.size + 1,8,none⟩ = some (.int .i64 0):=cellK go 8;have rf8:=froK go 8;clear q7 q8 q8' go hbx hsame;go_wp2_with fail;refine ⟨by simp,.inl ⟨_,_,rfl,run_takeDeferred ((heap_other9 (by omega)).trans HKD.out),?_⟩⟩;refine ⟨.agg #[.string ⟨#[]⟩,.int .i64 0,.string ⟨#[]⟩,.string ⟨#[]⟩,.bool false,.string ⟨#[]⟩,.bool false,.slice none 0 0,.int .i64 6],?_,BestAns.bad (.inr (.inr (.inl ⟨HL.out,HRR.out,HN.out,rfl,rfl⟩))) ((set_below9B (by omega) HI.out.2.2).trans (belowK_b (w:=w) (Nat.le_refl _) _ D _ _ (by omega) ((heap_other9 (by omega)).trans HKD.out) rfl rfl))⟩
   simp [results,Tryz.results99,go_sem, *]
  | some x =>
   rw [hbx] at q7 q8 hsame;have q7' : W.heap[w3.heap.size]? = some (.cells #[.string x.v.n,.int .i64 x.v.c,.string x.v.z,.string x.v.k,.bool x.v.x,.string x.v.m,.bool x.v.y,.slice x.a x.len x.cap] 100 (0,0)):=q7;have q8' : W.heap[w3.heap.size + 1]? = some (.cells #[.bool true] 4 (0,0)):=q8;have f0 : W.cell? ⟨w3.heap.size + 1,0,none⟩ = some (.bool true):=cellK q8' 0;have HN : Hid (bestV (svV c' k' x' t) vs = some x.v):=hsame.symm;have y0 : W.cell? ⟨w3.heap.size,0,none⟩ = some (.string x.v.n):=cellK q7' 0;have y1 : W.cell? ⟨w3.heap.size,1,none⟩ = some (.int .i64 x.v.c):=cellK q7' 1;have y2 : W.cell? ⟨w3.heap.size,2,none⟩ = some (.string x.v.z):=cellK q7' 2;have y3 : W.cell? ⟨w3.heap.size,3,none⟩ = some (.string x.v.k):=cellK q7' 3;have y4 : W.cell? ⟨w3.heap.size,4,none⟩ = some (.bool x.v.x):=cellK q7' 4;have y5 : W.cell? ⟨w3.heap.size,5,none⟩ = some (.string x.v.m):=cellK q7' 5;have y6 : W.cell? ⟨w3.heap.size,6,none⟩ = some (.bool x.v.y):=cellK q7' 6;have y7 : W.cell? ⟨w3.heap.size,7,none⟩ = some (.slice x.a x.len x.cap):=cellK q7' 7
   have hmem : x ∈ xl:=by
    rcases bestX_mem _ _ _ hbx with h | h
    ·exact (List.mem_filter.1 h).1
    ·cases h
   obtain ⟨j,hj⟩:=List.getElem?_of_mem hmem;have HT:=hidK ((HTX.out j x hj).below HI.out.2.2)
   have hvj : vs[j]? = some x.v:=by rw [← HXV.out,List.getElem?_map,hj];rfl
   have hxl6 : x.len ≤ 8001:=by
    have h6:=names_few (HRR.out.2.2.2 j x.v hvj).2.2.2.2.2.2;have:=HT.out.1
    omega
   have HGO:=hidK go;clear q7 q8 q7' q8' hbx hsame go hmem hj hvj;go_wp2_with fail;refine (Ap.iown_any x.v.n x.v.c x.v.z x.v.k x.v.x x.v.m x.v.y x.a x.len x.cap x.v.zs _ HT.out hxl6).mono ?_;rintro e W6 ⟨a',l',p',rfl,z1,z2,hb6⟩;have go:=(hb6.block _ (lt_of_some HGO.out)).trans HGO.out;have hDl:=lt_of_some HKD.out;have HK6:=hidK ((hb6.block _ hDl).trans HKD.out);have HQ : Hid (TxRow W6 a' l' p' x.v.zs ∧ (x.v.zs = [] ∨ ∃ g cur,a' = some ⟨g,0,none⟩ ∧ W.heap.size ≤ g ∧ W6.heap[g]? = some (.cells cur 9 (0,0))) ∧ Below w.heap.size w W6):=⟨z1,z2,HI.out.2.2.trans (hb6.mono HI.out.2.2.size)⟩;have hol : w.heap.size + 1 < W.heap.size:=lt_of_some HGO.out;have r0 : W6.cell? ⟨w.heap.size + 1,0,none⟩ = some (.string ⟨#[]⟩):=cellK go 0;have rf0:=froK go 0;have r1 : W6.cell? ⟨w.heap.size + 1,1,none⟩ = some (.int .i64 0):=cellK go 1;have rf1:=froK go 1;have r2 : W6.cell? ⟨w.heap.size + 1,2,none⟩ = some (.string ⟨#[]⟩):=cellK go 2;have rf2:=froK go 2;have r3 : W6.cell? ⟨w.heap.size + 1,3,none⟩ = some (.string ⟨#[]⟩):=cellK go 3;have rf3:=froK go 3;have r4 : W6.cell? ⟨w.heap.size + 1,4,none⟩ = some (.bool false):=cellK go 4;have rf4:=froK go 4;have r5 : W6.cell? ⟨w.heap.size + 1,5,none⟩ = some (.string ⟨#[]⟩):=cellK go 5;have rf5:=froK go 5;have r6 : W6.cell? ⟨w.heap.size + 1,6,none⟩ = some (.bool false):=cellK go 6;have rf6:=froK go 6;have r7 : W6.cell? ⟨w.heap.size + 1,7,none⟩ = some (.slice none 0 0):=cellK go 7;have rf7:=froK go 7;have r8 : W6.cell? ⟨w.heap.size + 1,8,none⟩ = some (.int .i64 0):=cellK go 8;have rf8:=froK go 8;clear go z1 z2 hb6 y0 y1 y2 y3 y4 y5 y6 y7 f0;go_wp2_with fail;refine ⟨by simp,.inl ⟨_,_,rfl,run_takeDeferred ((heap_other9 (by omega)).trans HK6.out),?_⟩⟩
   refine ⟨.agg #[.string x.v.n,.int .i64 x.v.c,.string x.v.z,.string x.v.k,.bool x.v.x,.string x.v.m,.bool x.v.y,.slice a' l' p',.int .i64 0],?_,x.v,0,a',l',p',rfl,.inr (.inr (.inr ⟨HL.out,HRR.out,HN.out,rfl⟩)),own_put (own_set9 HQ.out (by omega) hol) ((heap_other9 (by omega)).trans HK6.out) (by omega)⟩
   simp [results,Tryz.results99,go_sem, *]

theorem ibest_any (a : Option Addr) (len cap : Nat) (vs : List Vd) (n' : ByteArray) (c' : Int) (k' : ByteArray) (x' : Bool) (v' : ByteArray) (t : ByteArray) (w : World) (hn' : n'.size ≤ 9223372036854775807) (hk' : k'.size ≤ 9223372036854775807) (hv' : v'.size ≤ 9223372036854775807) (ht : t.size ≤ 9223372036854775807) (hr : VsRow w a len cap vs) :
  Calls Tryz.prog 99 #[.slice a len cap,.agg #[.string n',.int .i64 c',.string k',.bool x',.string v'],.string t] w (BestAns vs n' c' k' x' v' t w):=by
 by_cases h1 : 400 < vs.length ∨ 8000 < t.size
 ·exact ibest_bad a len cap vs n' c' k' x' v' t w hn' hk' hv' ht hr (.inl h1)
 by_cases h2 : BestR vs n' c' k' v' t
 ·exact ibest_right a len cap vs n' c' k' x' v' t w hn' hk' hv' ht hr h1 h2
 ·exact ibest_bad a len cap vs n' c' k' x' v' t w hn' hk' hv' ht hr (.inr h2)

end Go.Proofs.YtmknjejaochfjaaGreatDoor

namespace Go.Proofs.YtmknjejaochfjaaGreatDoor
open Go.RowKit
namespace Rc
open Mk

theorem insvd_any (a : Option Addr) (n cap i base vb : Nat) (X ys : List Value) (w : World) (ho : w.ownsRow base 100 8 (.slice a n cap) n X) (hn : n ≤ 8) (hin : i ≤ n) (hbs : base ≤ w.heap.size) (hy : w.heap[vb]? = some (.cells ys.toArray 100 (0,0))) (hyl : ys.length = 8) (hy1 : ∀ u ∈ ys,u.oneCell' = true) (hX1 : ∀ u ∈ X,u.oneCell' = true) (hne : ∀ g,a = some ⟨g,0,none⟩ → ¬ vb = g) :
  Calls Tryz.prog 160 #[.slice a n cap,.int .i64 i,.slice (some ⟨vb,0,none⟩) 1 1] w fun e w' => ∃ v',e = .returned v' ∧ w'.ownsRow base 100 8 v' (n + 1) (X.take (i * 8) ++ ys ++ X.drop (i * 8)) ∧ w.grownBy w' ((.slice a n cap : Value).ownBlock):=by
 obtain ⟨i0,hi,hz0,hz1,hz2⟩:=info_parts infovd;have HI0:=hidK (And.intro hi (And.intro hz0 (And.intro hz1 hz2)));clear hi hz0 hz1 hz2;have hXl : X.length = n * 8:=ho.1
 have hnc : n ≤ cap ∧ cap ≤ 9223372036854775807:=by
  rcases ho.2 with ⟨h1,h2⟩ | ⟨g,cp,cur,h1,_,_,h4,h5,_⟩
  ·cases h1;omega
  ·cases h1;unfold maxLen at h5;omega
 have hyn : ∀ (j : Nat) u,ys[j]? = some u → w.cell? ((⟨vb,0,none⟩ : Addr).add j) = some u:=fun j u hu => by
  rw [Addr.add_lit,cellK hy,Nat.zero_add]
  simpa using hu
 have HYN:=hidK hyn;have HO:=hidK ho;have HY:=hidK hy;have hvl : vb < w.heap.size:=lt_of_some hy;have HX1:=hidK hX1;have HY1:=hidK hy1;clear hyn ho hy hX1 hy1
 by_cases hie : i = n
 ·subst hie
  have e1 : X.take (i * 8) ++ ys ++ X.drop (i * 8) = X ++ ys:=by rw [List.take_of_length_le (by omega),List.drop_of_length_le (by omega),List.append_nil]
  rw [e1];clear e1;have hc0 : i ≤ cap:=hnc.1;have hq : cap = i ∨ ¬ cap = i:=Classical.em _
  rcases hq with rfl | hcap
  ·go_enter Tryz.func160,Tryz.ntmps160
   go_wp2_with (first | (at_builtin;refine wpList_append_two rfl _ _ 144 32 rfl base 100 100 i0 (.agg #[.string ⟨#[]⟩,.int .i64 0,.string ⟨#[]⟩,.string ⟨#[]⟩,.bool false,.string ⟨#[]⟩,.bool false,.slice none 0 0]) 8 112 Tryz.underlying144 Tryz.underlying32 HI0.out.1 HI0.out.2.1 HI0.out.2.2.1 HI0.out.2.2.2 rfl (by decide) _ _ _ rfl HO.out ⟨vb,0,none⟩ 1 1 ys rfl (by omega) HYN.out HY1.out (by unfold maxLen;omega) (by omega) hbs ?_))
   intro v' w' h1 h2;have H1:=hidK h1;have H2:=hidK h2;clear h1 h2
   go_wp2
   go_ret;exact ⟨v',rfl,H1.out,H2.out⟩
  ·go_enter Tryz.func160,Tryz.ntmps160
   go_wp2_with (first | (at_builtin;refine wpList_append_two rfl _ _ 144 32 rfl base 100 100 i0 (.agg #[.string ⟨#[]⟩,.int .i64 0,.string ⟨#[]⟩,.string ⟨#[]⟩,.bool false,.string ⟨#[]⟩,.bool false,.slice none 0 0]) 8 112 Tryz.underlying144 Tryz.underlying32 HI0.out.1 HI0.out.2.1 HI0.out.2.2.1 HI0.out.2.2.2 rfl (by decide) _ _ _ rfl HO.out ⟨vb,0,none⟩ 1 1 ys rfl (by omega) HYN.out HY1.out (by unfold maxLen;omega) (by omega) hbs ?_))
   intro v' w' h1 h2;have H1:=hidK h1;have H2:=hidK h2;clear h1 h2
   go_wp2
   go_ret;exact ⟨v',rfl,H1.out,H2.out⟩
 have hil : i < n:=by omega
 obtain ⟨g,cur,rfl,hbg,hg,hcs,htk⟩ : ∃ g cur,a = some ⟨g,0,none⟩ ∧ base ≤ g ∧ w.heap[g]? = some (.cells cur 100 (0,0)) ∧ cur.size = cap * 8 ∧ cur.toList.take (n * 8) = X:=by
  rcases HO.out.2 with ⟨h1,h2⟩ | ⟨g,cp,cur,h1,h2,h3,h4,h5,h6,h7⟩
  ·cases h1;omega
  ·cases h1;exact ⟨g,cur,rfl,h2,h3,h6,h7⟩
 have hvg : ¬ vb = g:=hne g rfl;clear hne
 have hcell : ∀ (j : Nat) u,X[j]? = some u → w.cell? ⟨g,j,none⟩ = some u:=fun j u hj => by
  rw [cellK hg];rw [← htk,List.getElem?_take] at hj
  split at hj
  ·simpa using hj
  ·cases hj
 have hdl : (X.drop (i * 8)).length = (n - i) * 8:=by rw [List.length_drop,hXl,Nat.sub_mul]
 have hgl : g < w.heap.size:=lt_of_some hg
 by_cases hroom : n + 1 ≤ cap
 ·have hcp1 : ∀ ty dc sc,(Builtin.copy_ #[144,144] ty #[.slice (some ⟨g,(i + 1) * 8,none⟩) (n - i) dc,.slice (some ⟨g,i * 8,none⟩) (n + 1 - i) sc]).run Tryz.prog w.drew = .ok (goInt (Nat.min (n + 1 - i) (n - i))) (w.drew.setRow g (cur.toList.take ((i + 1) * 8) ++ X.drop (i * 8) ++ cur.toList.drop ((i + 1) * 8 + (X.drop (i * 8)).length)).toArray):=fun ty dc sc =>
   run_copy_rec w.drew 144 144 ty 100 g ((i + 1) * 8) (n - i) dc ⟨g,i * 8,none⟩ (n + 1 - i) sc 8 cur 100 (X.drop (i * 8)) i0 Tryz.underlying144 HI0.out.1 HI0.out.2.2.1 hg (by rw [hdl];simp only [Nat.min_def];split <;> omega) (fun j u hj => by
    rw [List.getElem?_drop] at hj;rw [Addr.add_lit]
    exact hcell _ u hj) (by rw [hdl,hcs];omega) (fun u hu => HX1.out u (List.mem_of_mem_drop hu))
  obtain ⟨cur1,hcur1⟩ : ∃ c1 : List Value,c1 = cur.toList.take ((i + 1) * 8) ++ X.drop (i * 8) ++ cur.toList.drop ((i + 1) * 8 + (X.drop (i * 8)).length):=⟨_,rfl⟩;rw [← hcur1] at hcp1
  have hc1l : cur1.length = cap * 8:=by rw [hcur1];simp only [List.length_append,List.length_take,List.length_drop,hXl,Array.length_toList,hcs];omega
  obtain ⟨W1,hW1⟩ : ∃ W1,W1 = w.drew.setRow g cur1.toArray:=⟨_,rfl⟩;rw [← hW1] at hcp1
  have hg1 : W1.heap[g]? = some (.cells cur1.toArray 100 (0,0)):=by rw [hW1];exact setRow_heap w.drew g _ _ 100 _ hg
  have hv1 : W1.heap[vb]? = w.heap[vb]?:=by rw [hW1];exact setRow_other w.drew g vb _ hvg
  have hcp2 : ∀ ty dc,(Builtin.copy_ #[144,32] ty #[.slice (some ⟨g,i * 8,none⟩) (n + 1 - i) dc,.slice (some ⟨vb,0,none⟩) 1 1]).run Tryz.prog W1 = .ok (goInt (Nat.min 1 (n + 1 - i))) (W1.setRow g (cur1.take (i * 8) ++ ys ++ cur1.drop (i * 8 + ys.length)).toArray):=fun ty dc => by
   have:=run_copy_rec W1 144 32 ty 100 g (i * 8) (n + 1 - i) dc ⟨vb,0,none⟩ 1 1 8 cur1.toArray 100 ys i0 Tryz.underlying144 HI0.out.1 HI0.out.2.2.1 hg1 (by rw [hyl];simp only [Nat.min_def];split <;> omega) (fun j u hj => by
    rw [Addr.add_lit,cellK (hv1.trans HY.out),Nat.zero_add]
    simpa using hj) (by simp only [List.size_toArray];rw [hc1l,hyl];omega) HY1.out
   simpa using this
  have hov : ∀ lb cb,(callFunc 179 #[.slice (some ⟨vb,0,none⟩) 1 1,.slice (some ⟨g,(i + 1) * 8,none⟩) lb cb]).run Tryz.prog w = .ok (.value (.bool false)) w:=fun lb cb => by
   rw [run_callFunc_extern Tryz.func179 (by kernel_rfl) (by kernel_rfl) (by kernel_rfl) (e:=Extern.SlicesOverlaps.overlaps #[32,32] #[4]) (by kernel_rfl),
    Lib.run_overlaps_apart w 32 4 100 Tryz.underlying32 8 (fun w => by kernel_rfl) ⟨vb,0,none⟩ ⟨g,(i + 1) * 8,none⟩ 1 1 lb cb hvg 100 100 ys.toArray.size cur.size (by simp [World.shape?,HY.out]) (by simp [World.shape?,hg]) (Nat.ne_of_gt (by rw [hcs];omega)) (froK HY.out _) (froK HY.out _)]
   rfl
  have hb2 : ¬ cap = i + 1:=by omega
  have hb4 : ¬ cap = i:=by omega
  have hb5 : ¬ ((i : Int) = (n : Int)):=by omega
  have hb6 : ¬ ((cap : Int) < (n : Int) + 1):=by omega
  have mixed : Tryz.prog.follows .mixedOrders = true:=by kernel_rfl
  have hw1 : IntKind.i64.wrap ((i : Int) + 1) = (i : Int) + 1:=by rw [IntKind.wrap_i64];omega
  have hb1 : (0 : Int) ≤ (i : Int) + 1:=by omega
  have hin : i ≤ n:=by omega
  have htn : ((i : Int) + 1).toNat = i + 1:=by omega
  have hb3 : (i : Int) ≤ (n : Int) + 1:=by omega
  have u0:=run_underlying Tryz.underlying144;have HG:=hidK hg;have HG1:=hidK hg1;have HW1:=hidK hW1;have HC1:=hidK hcur1;have HTK:=hidK htk;clear hg hg1 hW1 hcur1 htk hv1 hcell hdl hie
  go_enter Tryz.func160,Tryz.ntmps160
  go_wp2_with (simp only [hov])
  go_region_law_o (refine step_copy_run rfl _ _ 144 144 rfl _ _ (by simp [Act.eval,Act.put]) (by simp [Act.eval,Act.put]) (hcp1 (3) (cap - (i + 1)) (cap - i)) ?_)
  go_wp2_with (at_builtin;refine wpList_copy_run _ rfl _ _ 144 32 rfl _ _ rfl rfl (hcp2 _ _) ?_)
  go_ret;refine ⟨_,rfl,⟨?_,Or.inr ⟨g,cap,(cur1.take (i * 8) ++ (ys ++ cur1.drop (i * 8 + 8))).toArray,rfl,hbg,setRow_heap W1 g _ _ _ _ HG1.out,hroom,by unfold maxLen;omega,?_,?_⟩⟩,?_⟩
  ·simp only [List.length_append,List.length_take,List.length_drop]
   omega
  ·simp only [List.size_toArray,List.length_append,List.length_take,List.length_drop,hc1l]
   omega
  ·have e:=ins_list (a:=i * 8) (b:=n * 8) (c:=cap * 8) (m:=8) (c1:=cur1) HTK.out (by rw [Array.length_toList,hcs]) (by omega) (by omega) hyl (by rw [HC1.out,show (i + 1) * 8 = i * 8 + 8 by omega]);rw [show (n + 1) * 8 = n * 8 + 8 by omega]
   simpa using e
  ·have h1 : w.grownBy w.drew (some g):=⟨rfl,rfl,rfl,Nat.le_refl _,fun _ _ _ => rfl⟩
   have h2 : w.drew.grownBy W1 (some g):=by rw [HW1.out];exact grown_setRow w.drew g _
   exact (h1.trans h2).trans (grown_setRow W1 g _)
 have hcn : cap = n:=by omega
 subst hcn;obtain ⟨N,hN⟩ : ∃ N,N = w.heap.size:=⟨_,rfl⟩;obtain ⟨G,hG⟩ : ∃ G,G = grownCap w (cap + 1) cap 100:=⟨_,rfl⟩;obtain ⟨ROW,hROW⟩ : ∃ R : Array Value,R = (X.take (i * 8)).toArray ++ Builtin.zeroCells (.agg #[.string ⟨#[]⟩,.int .i64 0,.string ⟨#[]⟩,.string ⟨#[]⟩,.bool false,.string ⟨#[]⟩,.bool false,.slice none 0 0] : Value).cells (cap + 1 - i) ++ Builtin.zeroCells (.agg #[.string ⟨#[]⟩,.int .i64 0,.string ⟨#[]⟩,.string ⟨#[]⟩,.bool false,.string ⟨#[]⟩,.bool false,.slice none 0 0] : Value).cells (G - (cap + 1)):=⟨_,rfl⟩;obtain ⟨W1,hW1⟩ : ∃ W1,W1 = w.drew.alloc (.cells ROW 100):=⟨_,rfl⟩
 have hGn : cap + 1 ≤ G:=by rw [hG];exact grownCap_ge w _ _ _
 have hG63 : G ≤ 9223372036854775807:=by
  have:=grownCap_le_maxLen w (cap + 1) cap 100 (by unfold maxLen;omega);rw [← hG] at this;unfold maxLen at this
  omega
 have hRs : ROW.size = G * 8:=by
  rw [hROW];simp only [Array.size_append,List.size_toArray,List.length_take,size_zeroCells,hXl];rw [show (.agg #[.string ⟨#[]⟩,.int .i64 0,.string ⟨#[]⟩,.string ⟨#[]⟩,.bool false,.string ⟨#[]⟩,.bool false,.slice none 0 0] : Value).cells.size = 8 from rfl]
  omega
 have hRt : ROW.toList.take (i * 8) = X.take (i * 8):=by
  rw [hROW,Array.toList_append,Array.toList_append,List.append_assoc];exact List.take_left' (by rw [List.length_take];omega)
 have hrz : ∀ ty,(Builtin.append_ #[144,3] ty #[.slice (some ⟨g,0,none⟩) i cap,.int .i64 ((cap : Int) + 1 - (i : Int))]).run Tryz.prog w = .ok (.slice (some ⟨N,0,none⟩) (cap + 1) G) W1:=fun ty => by
  have hold : (Builtin.firstCells i0.size i (.slice (some ⟨g,0,none⟩) i cap)).run Tryz.prog w.drew = .ok (X.take (i * 8)).toArray w.drew:=by
   rw [HI0.out.2.2.1]
   exact run_firstCells_some w.drew 8 i ⟨g,0,none⟩ i cap (X.take (i * 8)) (by rw [List.length_take];omega) (fun j v hj => by
    rw [Addr.add_lit,Nat.zero_add];rw [List.getElem?_take] at hj
    split at hj
    ·exact hcell j v hj
    ·cases hj)
  have h:=Lib.run_append_grow_zeros w 144 3 ty 100 i0 _ .i64 .i64 Tryz.underlying144 Tryz.underlying3 HI0.out.1 HI0.out.2.1 (some ⟨g,0,none⟩) i cap (X.take (i * 8)) hold (cap + 1 - i) (by omega) (by rw [HI0.out.2.2.1];decide) (by omega) (by omega) (by rw [HI0.out.2.2.2];omega) (by rw [HI0.out.2.2.2];exact growslice_fits (by omega) (by omega));rw [show i + (cap + 1 - i) = cap + 1 by omega,← hG,← hROW,← hW1,← hN] at h;rw [show (cap : Int) + 1 - (i : Int) = ((cap + 1 - i : Nat) : Int) by omega];exact h
 have hgN : W1.heap[N]? = some (.cells ROW 100 (0,0)):=by rw [hW1,hN];exact Go.heap_alloc_new w.drew _
 have hg1 : W1.heap[g]? = w.heap[g]?:=by rw [hW1];exact Go.heap_alloc_old w.drew _ hgl
 have hv1 : W1.heap[vb]? = w.heap[vb]?:=by rw [hW1];exact Go.heap_alloc_old w.drew _ hvl
 obtain ⟨R2,hR2⟩ : ∃ R2 : List Value,R2 = ROW.toList.take (i * 8) ++ ys ++ ROW.toList.drop (i * 8 + ys.length):=⟨_,rfl⟩;obtain ⟨W2,hW2⟩ : ∃ W2,W2 = W1.setRow N R2.toArray:=⟨_,rfl⟩
 have hcpA : ∀ ty dc,(Builtin.copy_ #[144,32] ty #[.slice (some ⟨N,i * 8,none⟩) (cap + 1 - i) dc,.slice (some ⟨vb,0,none⟩) 1 1]).run Tryz.prog W1 = .ok (goInt (Nat.min 1 (cap + 1 - i))) W2:=fun ty dc => by
  rw [hW2,hR2]
  exact run_copy_rec W1 144 32 ty 100 N (i * 8) (cap + 1 - i) dc ⟨vb,0,none⟩ 1 1 8 ROW 100 ys i0 Tryz.underlying144 HI0.out.1 HI0.out.2.2.1 hgN (by rw [hyl];simp only [Nat.min_def];split <;> omega) (fun j u hj => by
   rw [Addr.add_lit,cellK (hv1.trans HY.out),Nat.zero_add]
   simpa using hj) (by rw [hRs,hyl];omega) HY1.out
 have hR2l : R2.length = G * 8:=by
  rw [hR2];simp only [List.length_append,List.length_take,List.length_drop,Array.length_toList,hRs,hyl]
  omega
 have hgN2 : W2.heap[N]? = some (.cells R2.toArray 100 (0,0)):=by rw [hW2];exact setRow_heap W1 N _ _ 100 _ hgN
 have hgn : ¬ g = N:=by omega
 have hg2 : W2.heap[g]? = w.heap[g]?:=by rw [hW2,setRow_other W1 N g _ hgn];exact hg1
 obtain ⟨R3,hR3⟩ : ∃ R3 : List Value,R3 = R2.take ((i + 1) * 8) ++ X.drop (i * 8) ++ R2.drop ((i + 1) * 8 + (X.drop (i * 8)).length):=⟨_,rfl⟩;obtain ⟨W3,hW3⟩ : ∃ W3,W3 = W2.drew.setRow N R3.toArray:=⟨_,rfl⟩
 have hcpB : ∀ ty dc sc,(Builtin.copy_ #[144,144] ty #[.slice (some ⟨N,(i + 1) * 8,none⟩) (cap - i) dc,.slice (some ⟨g,i * 8,none⟩) (cap - i) sc]).run Tryz.prog W2.drew = .ok (goInt (Nat.min (cap - i) (cap - i))) W3:=fun ty dc sc => by
  have:=run_copy_rec W2.drew 144 144 ty 100 N ((i + 1) * 8) (cap - i) dc ⟨g,i * 8,none⟩ (cap - i) sc 8 R2.toArray 100 (X.drop (i * 8)) i0 Tryz.underlying144 HI0.out.1 HI0.out.2.2.1 hgN2 (by rw [hdl];simp only [Nat.min_def];split <;> omega) (fun j u hj => by
   rw [List.getElem?_drop] at hj;have hc:=hcell _ u hj;rw [Addr.add_lit];rw [← hc]
   exact World.cell?_of_block (w:=w) (w':=W2.drew) hg2) (by rw [hdl,List.size_toArray,hR2l];omega) (fun u hu => HX1.out u (List.mem_of_mem_drop hu))
  rw [hW3,hR3]
  simpa only [List.toList_toArray] using this
 have hW3o : ∀ k,¬ k = N → W3.heap[k]? = W1.heap[k]?:=fun k hk => by rw [hW3,setRow_other W2.drew N k _ hk];exact (congrArg (fun z : World => z.heap[k]?) hW2).trans (setRow_other W1 N k _ hk)
 have hfin : w.grownBy W3 (some g):=by
  have h0 : w.grownBy w.drew (some g):=⟨rfl,rfl,rfl,Nat.le_refl _,fun _ _ _ => rfl⟩
  have h1 : w.grownBy W1 (some g):=by rw [hW1];exact h0.trans (World.grownBy_alloc w.drew _ _)
  refine ⟨?_,?_,?_,?_,fun k hk hkg => (hW3o k (by omega)).trans (h1.block k hk hkg)⟩
  ·rw [hW3,hW2];exact h1.os
  ·rw [hW3,hW2];exact h1.tape
  ·rw [hW3,hW2];exact h1.output
  ·rw [hW3,hW2];exact Nat.le_trans h1.size (by simp [World.setRow])
 have hrow : W3.ownsRow base 100 8 (.slice (some ⟨N,0,none⟩) (cap + 1) G) (cap + 1) (X.take (i * 8) ++ ys ++ X.drop (i * 8)):=by
  refine ⟨?_,Or.inr ⟨N,G,R3.toArray,rfl,by omega,by rw [hW3];exact setRow_heap W2.drew N _ _ 100 _ hgN2,hGn,by unfold maxLen;omega,?_,?_⟩⟩
  ·simp only [List.length_append,List.length_take,List.length_drop]
   omega
  ·rw [hR3];simp only [List.size_toArray,List.length_append,List.length_take,List.length_drop,hR2l]
   omega
  ·have e:=grow_list (a:=i * 8) (b:=cap * 8) (m:=8) (R2:=R2) hRt hXl (by omega) hyl hR2 (R2.drop ((i + 1) * 8 + (X.drop (i * 8)).length));rw [hR3,show (cap + 1) * 8 = cap * 8 + 8 by omega,show (i + 1) * 8 = i * 8 + 8 by omega];rw [show (i + 1) * 8 = i * 8 + 8 by omega] at e
   simpa using e
 have hGi : ¬ G = i:=by omega
 have hGim : ¬ G = i + 1:=by omega
 have hci : ¬ cap = i:=by omega
 have hz2 : ¬ ((i : Int) = (cap : Int)):=by omega
 have hz3 : (cap : Int) < (cap : Int) + 1:=by omega
 have mixed : Tryz.prog.follows .mixedOrders = true:=by kernel_rfl
 have hw1 : IntKind.i64.wrap ((i : Int) + 1) = (i : Int) + 1:=by rw [IntKind.wrap_i64];omega
 have hb1 : (0 : Int) ≤ (i : Int) + 1:=by omega
 have hin : i ≤ cap:=by omega
 have htn : ((i : Int) + 1).toNat = i + 1:=by omega
 have hb3 : (i : Int) ≤ (cap : Int):=by omega
 have u0:=run_underlying Tryz.underlying144;have HF:=hidK (And.intro hrow hfin);clear hN hrow hfin hW3o hW3 hW2 hR3 hg2 hgN2 hR2l hR2 hv1 hg1 hgN hRt hRs hW1 hROW hG hcell hdl hie hg htk hcs HO
 go_enter Tryz.func160,Tryz.ntmps160
 go_wp2_with (first
  | (at_builtin;refine Lib.wpList_append_run _ rfl _ _ _ _ rfl _ _ rfl rfl _ _ (hrz _) ?_)
  | (at_builtin;refine wpList_copy_run _ rfl _ _ 144 32 rfl _ _ rfl rfl (hcpA _ _) ?_))

 go_region_law_o (refine step_copy_run rfl _ _ 144 144 rfl _ _ (by simp [Act.eval,Act.put]) (by simp [Act.eval,Act.put]) (hcpB 3 (G - (i + 1)) (cap - i)) ?_)
 go_wp2
 go_ret;exact ⟨_,rfl,HF.out.1,HF.out.2⟩

theorem clonevd_any (a : Option Addr) (n cap : Nat) (X : List Value) (w : World) (hn : n ≤ 8) (hXl : X.length = n * 8) (hX1 : ∀ u ∈ X,u.oneCell' = true) (hXc : ∀ (j : Nat) u,X[j]? = some u → ∃ g,a = some ⟨g,0,none⟩ ∧ w.cell? ⟨g,j,none⟩ = some u) :
  Calls Tryz.prog 161 #[.slice a n cap] w fun e w' => ∃ a' c',e = .returned (.slice a' n c') ∧ w'.ownsRow w.heap.size 100 8 (.slice a' n c') n X ∧ Below w.heap.size w w':=by
 obtain ⟨i0,hi,hz0,hz1,hz2⟩:=info_parts infovd;have HI0:=hidK (And.intro hi (And.intro hz0 (And.intro hz1 hz2)));clear hi hz0 hz1 hz2;have HX1:=hidK hX1;have HXC:=hidK hXc;have heq : ∀ w : World,(binOp .eql 144 (.slice a n cap) (.slice none 0 0)).run Tryz.prog w = .ok (.bool a.isNone) w:=fun w => Lib.run_eql_slice_nil w 144 100 a n cap 0 0 Tryz.underlying144;clear hX1 hXc
 cases a with
 | none =>
  obtain rfl : X = []:=by
   rcases X with _ | ⟨u,X⟩
   ·rfl
   ·obtain ⟨g,e,_⟩:=HXC.out 0 u rfl
    cases e
  obtain rfl : n = 0:=by simp at hXl;omega
  go_enter Tryz.func161,Tryz.ntmps161
  go_wp2
  go_ret;exact ⟨none,0,rfl,World.ownsRow_nil _ _ _ _,Below.refl _ _⟩
 | some ad =>
  obtain ⟨ab,ao,asp⟩:=ad
  have hnew : ∀ (j : Nat) u,X[j]? = some u → (w.alloc (.cells #[] 100)).cell? ((⟨ab,ao,asp⟩ : Addr).add j) = some u:=fun j u hu => by
   obtain ⟨g,e,hc⟩:=HXC.out j u hu
   cases e
   rw [Addr.add_lit,Nat.zero_add];have hlt:=cell_lt hc;rw [← hc];exact World.cell?_of_block (heap_alloc_old w _ hlt)
  have HN:=hidK hnew;have HO : Hid ((w.alloc (.cells #[] 100)).ownsRow w.heap.size 100 8 (.slice (some ⟨w.heap.size,0,none⟩) 0 0) 0 []):=World.ownsRow_made w #[] 0 (Nat.le_refl _) (Nat.zero_le _) (by simp);clear hnew HXC
  go_enter Tryz.func161,Tryz.ntmps161
  go_wp2_with (at_builtin;refine wpList_append_two rfl _ _ 144 144 rfl w.heap.size 100 100 i0 (.agg #[.string ⟨#[]⟩,.int .i64 0,.string ⟨#[]⟩,.string ⟨#[]⟩,.bool false,.string ⟨#[]⟩,.bool false,.slice none 0 0]) 8 112 Tryz.underlying144 Tryz.underlying144 HI0.out.1 HI0.out.2.1 HI0.out.2.2.1 HI0.out.2.2.2 rfl (by decide) _ _ _ rfl HO.out ⟨ab,ao,asp⟩ n cap X rfl hXl HN.out HX1.out (by unfold maxLen;omega) (by omega) (by simp) ?_)
  intro v' w' h1 h2
  obtain ⟨a',c',rfl⟩ : ∃ a' c',v' = .slice a' n c':=by
   rcases h1.2 with ⟨rfl,h0⟩ | ⟨g,cp,cu,rfl,_⟩
   ·exact ⟨none,0,by rw [h0]⟩
   ·exact ⟨_,_,rfl⟩
  have H1:=hidK h1;have H2:=hidK h2;clear h1 h2
  go_wp2
  go_ret;refine ⟨a',c',rfl,H1.out,((below1 w (.cells #[] 100)).grown H2.out (by simp) (fun g hg => ?_))⟩
  simp [Value.ownBlock] at hg
  omega

theorem refvd_any (a : Option Addr) (n cap : Nat) (xs : List Vd) (t : ByteArray) (most : Nat) (E : Nat → Addr) (w : World) (hr : RRow w a n cap 8 (xs.map vdF)) (hG : Ers w E) :
  Calls Tryz.prog 101 #[.slice a n cap,.string t,.int .i64 most] w (WhyI E (fun i => (i = 3 ∧ hit Vd.n xs t = true) ∨ (i = 4 ∧ hit Vd.n xs t = false ∧ most ≤ xs.length)) (hit Vd.n xs t = false ∧ xs.length < most) w):=by
 have hxl : xs.length = n:=by simpa using hr.1
 have hlc : n ≤ 9223372036854775807:=Nat.le_trans hr.2.1 hr.2.2.1;have HR:=hidK hr;have HE:=hidK hG;clear hr hG
 go_enter Tryz.func101,Tryz.ntmps101
 go_wp2_with fail;refine (placevd_any a n cap xs t _ HR.out).mono ?_;rintro e w1 ⟨rfl,hb⟩;have HB:=hidK hb;have e3:=(HE.out.below hb).v3;have e4:=(HE.out.below hb).v4;clear hb
 generalize pl Vd.n xs t = j
 cases hh : hit Vd.n xs t
 ·have HH:=hidK hh;clear hh
  by_cases hm : most ≤ n
  ·have hm2 : ¬ ((n : Int) < (most : Int)):=by omega
   go_wp2
   go_ret;exact ⟨HB.out,.inl ⟨4,by decide,.inr ⟨rfl,HH.out,by omega⟩,rfl⟩⟩
  ·have hm2 : (n : Int) < (most : Int):=by omega
   go_wp2
   go_ret;exact ⟨HB.out,.inr ⟨⟨HH.out,by omega⟩,rfl⟩⟩
 ·have HH:=hidK hh;clear hh
  go_wp2
  go_ret;exact ⟨HB.out,.inl ⟨3,by decide,.inl ⟨rfl,HH.out⟩,rfl⟩⟩

theorem withvd_any (a : Option Addr) (n cap : Nat) (xs : List Vd) (x : Vd) (va : Option Addr) (vl vc hh : Nat) (Q Q2 : Nat → Prop) (w : World) (ho : ROwn w a n cap 8 100 (xs.map vdF) Q) (hn : n ≤ 8) (hxf : ∀ (i : Nat) f,(vdF x)[i]? = some f → ∃ v,[.string x.n,.int .i64 x.c,.string x.z,.string x.k,.bool x.x,.string x.m,.bool x.y,.slice va vl vc][i]? = some v ∧ f.Fr w hh Q2 v) (hq : ∀ k,Q k → Q2 k → False) :
  Calls Tryz.prog 106 #[.slice a n cap,.agg #[.string x.n,.int .i64 x.c,.string x.z,.string x.k,.bool x.x,.string x.m,.bool x.y,.slice va vl vc]] w fun e w' => ∃ a' l' c',e = .returned (.slice a' l' c') ∧ ROwn w' a' l' c' 8 100 ((inAt (pl Vd.n xs x.n) x xs).map vdF) (fun k => (Q k ∨ Q2 k) ∨ w.heap.size ≤ k) ∧ Below w.heap.size w w':=by
 have HR:=hidK ho.row
 have hxl : xs.length = n:=by simpa using ho.1
 obtain ⟨vss,H,hV,hcell⟩:=ho.recs
 have hvl : vss.length = n:=by rw [hV.len,List.length_map,hxl]
 have hfl : vss.flatten.length = n * 8:=by rw [flat_len hV.all,hvl]
 have HV:=hidK hV;have HC:=hidK hcell;have HF:=hidK hxf;have HQ:=hidK hq;clear ho hV hcell hxf hq
 have hmcalled : ∀ (v : Value) (w : World),(method 360 100 v "loop.example/g00571/impl.called").run Tryz.prog w = .ok (212,v) w:=fun _ _ => by kernel_rfl
 obtain ⟨j,hj⟩ : ∃ j,j = pl Vd.n xs x.n:=⟨_,rfl⟩
 have hjn : j ≤ n:=by rw [hj,← hxl];exact List.findIdx_le_length
 have HJ:=hidK hj
 have HFIN : Hid (∀ (w4 : World) v4 base,w.heap.size ≤ base → Below w.heap.size w w4 → w4.ownsRow base 100 8 v4 (n + 1) (vss.flatten.take (j * 8) ++ [.string x.n,.int .i64 x.c,.string x.z,.string x.k,.bool x.x,.string x.m,.bool x.y,.slice va vl vc] ++ vss.flatten.drop (j * 8)) → ∃ a' c',v4 = .slice a' (n + 1) c' ∧ ROwn w4 a' (n + 1) c' 8 100 ((inAt (pl Vd.n xs x.n) x xs).map vdF) (fun k => (Q k ∨ Q2 k) ∨ w.heap.size ≤ k)):=fun w4 v4 base hbs hB4 ho4 => by
  rw [← inAt_flat HV.out.all (by omega)] at ho4;have hV4:=(HV.out.below hB4).keep (w':=w4) (S':=fun k => (Q k ∨ Q2 k) ∨ w.heap.size ≤ k) (fun _ _ _ _ => rfl) (fun _ _ s => .inl (.inl s))
  obtain ⟨H4,hV5⟩:=hV4.ins (p:=j) (r:=vdF x) (vs:=[.string x.n,.int .i64 x.c,.string x.z,.string x.k,.bool x.x,.string x.m,.bool x.y,.slice va vl vc]) (hh:=fun _ => hh) rfl rfl (fun i f hf => by
   obtain ⟨v,h1,h2⟩:=HF.out i f hf
   exact ⟨v,h1,h2.keep (fun cu _ q => hB4.block _ (lt_of_some q)) (fun _ s => .inl (.inr s))⟩) (fun i zs h hz k r i2 zs2 hr2 hz2 hne e => by
  obtain ⟨v,_,h2⟩:=HF.out i _ h;obtain ⟨_,_,_,_,_,_,_,_,h3⟩:=h2
  have hkv : k < vss.length:=by rw [HV.out.len];exact (List.getElem?_eq_some_iff.1 hr2).1
  obtain ⟨v',_,h5⟩:=HV.out.cell k r _ hr2 (List.getElem?_eq_getElem hkv) i2 _ hz2;obtain ⟨_,_,_,_,_,_,_,_,h6⟩:=h5
  rcases h3 with h3 | ⟨_,h3,_⟩
  ·exact hz h3
  ·rcases h6 with h6 | ⟨_,h6,_⟩
   ·exact hne h6
   ·rw [e] at h6
    exact HQ.out _ h6 h3) (fun i i2 zs zs2 h _ h2 _ => by
  rcases i with _ | _ | _ | _ | _ | _ | _ | _ | i <;> simp [vdF] at h <;> rcases i2 with _ | _ | _ | _ | _ | _ | _ | _ | i2 <;> simp [vdF] at h2 <;> rfl) (by rw [List.length_map];omega)
  have h45 : VRecs w4 (fun k => (Q k ∨ Q2 k) ∨ w.heap.size ≤ k) 8 ((inAt j x xs).map vdF) (inAt j [.string x.n,.int .i64 x.c,.string x.z,.string x.k,.bool x.x,.string x.m,.bool x.y,.slice va vl vc] vss) H4:=by rw [inAt_map];exact hV5
  have hle : ((inAt j x xs).map vdF).length = n + 1:=by rw [List.length_map,inAt_len (by omega),hxl]
  obtain ⟨a',c',e,hR⟩:=h45.own ho4 hle.symm (by decide) (fun g hg => .inr (by have:=(ho4.lt g hg).1;omega));rw [hle] at e hR;rw [hj] at hR;exact ⟨a',c',e,hR⟩
 have HCL : Hid (∀ W,Below w.heap.size w W → ∀ (k : Nat) u,vss.flatten[k]? = some u → ∃ g,a = some ⟨g,0,none⟩ ∧ W.cell? ⟨g,k,none⟩ = some u):=fun W hW k u hu => by
  obtain ⟨g,h1,_,h3⟩:=HC.out k u hu;exact ⟨g,h1,(cell_below hW (cell_lt h3)).trans h3⟩
 have HV1:=hidK HV.out.one;clear HV HC HF HQ hj
 go_enter Tryz.func106,Tryz.ntmps106
 go_wp2_with fail;refine (calledvd_any x va vl vc _).mono ?_;rintro e w1 ⟨rfl,hb1⟩;obtain ⟨hn1,hbx⟩:=slots1 hb1;have HN1:=hidK hn1;have HB1:=hidK hbx;clear hb1 hn1 hbx;go_wp2_with fail;refine (placevd_any a n cap xs x.n _ (HR.out.below HB1.out)).mono ?_;rintro e w2 ⟨rfl,hb2⟩;have HN2:=hidK ((hb2.block w.heap.size (lt_of_some HN1.out)).trans HN1.out);have HB2:=upB HB1 hb2;clear hb2 HN1 HB1;rw [← HJ.out]
 generalize hit Vd.n xs x.n = bb
 have hs2 : w.heap.size < w2.heap.size:=lt_of_some HN2.out;have HBD : Hid (Below w.heap.size w w2.drew):=Below.drewn HB2.out;obtain ⟨n0,n1,n2,n3,n4,n5,n6,n7⟩:=cs8 (show w2.drew.heap[w.heap.size]? = _ from HN2.out)
 have hcl1 : Calls Tryz.prog 161 #[.slice a n cap] w2.drew fun e w3 => ∃ a3 c3,e = .returned (.slice a3 n c3) ∧ Hid (w3.ownsRow w2.heap.size 100 8 (.slice a3 n c3) n vss.flatten) ∧ Hid (Below w.heap.size w w3) ∧ w2.heap.size ≤ w3.heap.size ∧ w.heap.size < w3.heap.size ∧ w3.heap[w.heap.size]? = some (.cells #[.string x.n,.int .i64 x.c,.string x.z,.string x.k,.bool x.x,.string x.m,.bool x.y,.slice va vl vc] 100 (0,0)):=by
  refine (clonevd_any a n cap vss.flatten w2.drew hn hfl HV1.out (HCL.out _ HBD.out)).mono ?_;rintro e w3 ⟨a3,c3,rfl,ho3,hb3⟩;have hs3 : w2.heap.size ≤ w3.heap.size:=hb3.size;exact ⟨a3,c3,rfl,ho3,HBD.out.trans (hb3.mono HBD.out.size),hs3,by omega,(hb3.block w.heap.size hs2).trans (show w2.drew.heap[w.heap.size]? = _ from HN2.out)⟩
 have hcl2 : Calls Tryz.prog 161 #[.slice a n cap] (w2.alloc (.cells #[.string x.n,.int .i64 x.c,.string x.z,.string x.k,.bool x.x,.string x.m,.bool x.y,.slice va vl vc] 100)).drew fun e w3 => ∃ a3 c3,e = .returned (.slice a3 n c3) ∧ Hid (w3.ownsRow (w2.heap.size + 1) 100 8 (.slice a3 n c3) n vss.flatten) ∧ Hid (Below w.heap.size w w3) ∧ w2.heap.size + 1 ≤ w3.heap.size ∧ Hid (w3.heap[w2.heap.size]? = some (.cells #[.string x.n,.int .i64 x.c,.string x.z,.string x.k,.bool x.x,.string x.m,.bool x.y,.slice va vl vc] 100 (0,0))):=by
  have hbl:=Below.drewn (HB2.out.alloc HB2.out.size (.cells #[.string x.n,.int .i64 x.c,.string x.z,.string x.k,.bool x.x,.string x.m,.bool x.y,.slice va vl vc] 100))
  have hsz : (w2.alloc (.cells #[.string x.n,.int .i64 x.c,.string x.z,.string x.k,.bool x.x,.string x.m,.bool x.y,.slice va vl vc] 100)).drew.heap.size = w2.heap.size + 1:=by simp
  refine (clonevd_any a n cap vss.flatten _ hn hfl HV1.out (HCL.out _ hbl)).mono ?_;rintro e w3 ⟨a3,c3,rfl,ho3,hb3⟩;have hs3:=hb3.size;rw [hsz] at ho3 hs3;exact ⟨a3,c3,rfl,ho3,hbl.trans (hb3.mono hbl.size),hs3,(hb3.block w2.heap.size (by rw [hsz];omega)).trans (show (w2.alloc (.cells #[.string x.n,.int .i64 x.c,.string x.z,.string x.k,.bool x.x,.string x.m,.bool x.y,.slice va vl vc] 100)).drew.heap[w2.heap.size]? = _ from heap_alloc_new w2 _)⟩
 have hin1 : ∀ (w3 : World) a3 c3,w3.ownsRow w2.heap.size 100 8 (.slice a3 n c3) n vss.flatten → Below w.heap.size w w3 → w2.heap.size ≤ w3.heap.size → Calls Tryz.prog 160 #[.slice a3 n c3,.int .i64 j,.slice (some ⟨w3.heap.size,0,none⟩) 1 1] (w3.alloc (.cells #[.string x.n,.int .i64 x.c,.string x.z,.string x.k,.bool x.x,.string x.m,.bool x.y,.slice va vl vc] 100)) fun e w4 => ∃ a' c',e = .returned (.slice a' (n + 1) c') ∧ Hid (ROwn w4 a' (n + 1) c' 8 100 ((inAt (pl Vd.n xs x.n) x xs).map vdF) (fun k => (Q k ∨ Q2 k) ∨ w.heap.size ≤ k)) ∧ Hid (Below w.heap.size w w4):=fun w3 a3 c3 ho3 hB3 hs3 => by
  refine (insvd_any a3 n c3 j w2.heap.size w3.heap.size vss.flatten [.string x.n,.int .i64 x.c,.string x.z,.string x.k,.bool x.x,.string x.m,.bool x.y,.slice va vl vc] (w3.alloc (.cells #[.string x.n,.int .i64 x.c,.string x.z,.string x.k,.bool x.x,.string x.m,.bool x.y,.slice va vl vc] 100)) (ho3.alloc _) hn hjn (by simp;omega) (heap_alloc_new w3 _) rfl (by simp [Value.oneCell']) HV1.out (fun g hg e => by
   have h9:=(ho3.lt g (by rw [hg];rfl)).2
   omega)).mono ?_
  rintro e w4 ⟨v4,rfl,ho4,hg4⟩
  have hB5:=(hB3.alloc hB3.size (.cells #[.string x.n,.int .i64 x.c,.string x.z,.string x.k,.bool x.x,.string x.m,.bool x.y,.slice va vl vc] 100)).grown hg4 (by simp;omega) (fun g hg => by
   have h9:=(ho3.lt g hg).1
   omega)
  obtain ⟨a',c',rfl,hR⟩:=HFIN.out w4 v4 _ (by omega) hB5 ho4;exact ⟨a',c',rfl,hR,hB5⟩
 have hin2 : ∀ (w3 : World) a3 c3,w3.ownsRow (w2.heap.size + 1) 100 8 (.slice a3 n c3) n vss.flatten → Below w.heap.size w w3 → w2.heap.size + 1 ≤ w3.heap.size → w3.heap[w2.heap.size]? = some (.cells #[.string x.n,.int .i64 x.c,.string x.z,.string x.k,.bool x.x,.string x.m,.bool x.y,.slice va vl vc] 100 (0,0)) → Calls Tryz.prog 160 #[.slice a3 n c3,.int .i64 j,.slice (some ⟨w2.heap.size,0,none⟩) 1 1] w3 fun e w4 => ∃ a' c',e = .returned (.slice a' (n + 1) c') ∧ Hid (ROwn w4 a' (n + 1) c' 8 100 ((inAt (pl Vd.n xs x.n) x xs).map vdF) (fun k => (Q k ∨ Q2 k) ∨ w.heap.size ≤ k)) ∧ Hid (Below w.heap.size w w4):=fun w3 a3 c3 ho3 hB3 hs3 hy3 => by
  refine (insvd_any a3 n c3 j (w2.heap.size + 1) w2.heap.size vss.flatten [.string x.n,.int .i64 x.c,.string x.z,.string x.k,.bool x.x,.string x.m,.bool x.y,.slice va vl vc] w3 ho3 hn hjn hs3 hy3 rfl (by simp [Value.oneCell']) HV1.out (fun g hg e => by
   have h9:=(ho3.lt g (by rw [hg];rfl)).1
   omega)).mono ?_
  rintro e w4 ⟨v4,rfl,ho4,hg4⟩
  have hB5:=hB3.grown hg4 (by omega) (fun g hg => by
   have h9:=(ho3.lt g hg).1
   omega)
  obtain ⟨a',c',rfl,hR⟩:=HFIN.out w4 v4 _ (by omega) hB5 ho4;exact ⟨a',c',rfl,hR,hB5⟩
 have C1:=hidK hcl1;have C2:=hidK hcl2;have I1:=hidK hin1;have I2:=hidK hin2;clear hcl1 hcl2 hin1 hin2 HFIN HCL HR HJ HBD HB2
 have mixed : Tryz.prog.follows .mixedOrders = true:=by kernel_rfl
 go_wp2
 go_region_with (first
  | (go_at_call 161;refine C1.out.mono ?_;rintro e w3 ⟨a3,c3,rfl,HO3,HB3,hs3,hw3l,hx3⟩;obtain ⟨m0,m1,m2,m3,m4,m5,m6,m7⟩:=cs8 hx3;clear hx3)
  | (go_at_call 161;refine C2.out.mono ?_;rintro e w3 ⟨a3,c3,rfl,HO3,HB3,hs3,HY3⟩)
  | (go_at_call 160;refine (I1.out w3 a3 c3 HO3.out HB3.out hs3).mono ?_;rintro e w4 ⟨a',c',rfl,HR5,HB5⟩)
  | (go_at_call 160;refine (I2.out w3 a3 c3 HO3.out HB3.out hs3 HY3.out).mono ?_;rintro e w4 ⟨a',c',rfl,HR5,HB5⟩))
 all_goals (
  go_wp2
  go_ret
  exact ⟨a',_,c',rfl,HR5.out,HB5.out⟩)

end Rc
end Go.Proofs.YtmknjejaochfjaaGreatDoor

namespace Go.Proofs.YtmknjejaochfjaaGreatDoor
open Go.RowKit
namespace Gs

section
variable {SR : World → World → Prop} {t4 : Tmp} {Ψ : Fact} {P : Program} {ops : Array Oper} {Q : Exit → Act → World → Prop} {W : World} {a0 : Act} {back : Option Oper}
theorem all_listed {listed : Array Bool} (hs : listed.size = ops.size) (hlt : ∀ (j : Nat) o,ops[j]? = some o → ∀ e ∈ o.after,Region.binds .any e = true → e.on < j) (hr : Region.ready .any ops listed = []) : ∀ i,i < ops.size → listed.getD i false = true:=by
 intro i
 induction i using Nat.strongRecOn with
 | _ i ih =>
  intro hi
  cases hb : listed.getD i false with
  | true => rfl
  | false =>
   have ho : ops[i]? = some ops[i]:=Array.getElem?_eq_getElem hi;have hm : i ∈ Region.ready .any ops listed:=mem_ready.2 ⟨by rw [← getD_ft (by omega)];exact hb,_,ho,fun e he hbe => ih e.on (hlt i _ ho e he hbe) (Nat.lt_trans (hlt i _ ho e he hbe) hi)⟩;rw [hr] at hm
   cases hm

structure At (t4 : Tmp) (Ψ : Fact) (front : List Oper) (φs : List Fact) (W : World) (a0 : Act) (listed : Array Bool) (a : Act) (w : World) : Prop where
 old : Go.Proofs.YtmknjejaochfjaaGreatDoor.At front φs W a0 listed a w
 sto : ∀ (i : Nat) (o : Oper),front[i]? = some o → o.dst = none → listed.getD i false = true → Ψ (a.tmps.getD t4 undef) w ∧ ∀ (i' : Nat) (p : Oper),front[i']? = some p → p.dst = some t4 → listed.getD i' false = true

theorem set_true {listed : Array Bool} {i j : Nat} (h : listed.getD i false = true) : (listed.setIfInBounds j true).getD i false = true:=by
 by_cases e : j = i
 ·subst e;simp only [Array.getD_eq_getD_getElem?,Array.getElem?_setIfInBounds]
  split
  ·split
   ·rfl
   ·simp [Array.getD_eq_getD_getElem?] at h
    next hx =>
     have : listed[j]? = none:=Array.getElem?_eq_none_iff.2 (by omega);rw [this] at h
     cases h
  ·contradiction
 ·simpa [Array.getD_eq_getD_getElem?,Array.getElem?_setIfInBounds,e] using h
theorem set_of_ne {listed : Array Bool} {i j : Nat} (e : ¬ j = i) (h : (listed.setIfInBounds j true).getD i false = true) : listed.getD i false = true:=by
 simpa [Array.getD_eq_getD_getElem?,Array.getElem?_setIfInBounds,e] using h

end
structure Form (W w w' : World) : Prop where
 low : Below W.heap.size w w'
 form : ∀ (k : Nat) (cs : Array Value) (T : TypeId),w.heap[k]? = some (.cells cs T (0,0)) → ∃ cs',cs'.size = cs.size ∧ w'.heap[k]? = some (.cells cs' T (0,0))
end Gs
namespace Gt

def growB (n : Nat) (front : List Oper) (back : Option Oper) : Bool :=
 let ops:=(front ++ back.toList).toArray
 decide ((front.filterMap (·.dst)).Nodup) && front.all (fun o => match o.dst with | some t => decide (t < n) | none => true) &&
 (List.range front.length).all (fun j => match front[j]? with
  | some o => (o.looksAt ops).all (fun t => (List.range front.length).all fun i => match front[i]? with
    | some p => p.dst != some t || (decide (i < j) && o.after.any fun e => e.on == i && Region.binds .any e)
    | none => true)
  | none => true) &&
 (List.range ops.size).all (fun j => match ops[j]? with | some o => o.after.all (fun e => decide (e.on < j)) | none => true) &&
 (match back with | some o => (List.range front.length).all (fun i => o.after.any fun e => Region.binds .any e && (e.on == i || match front[e.on]? with | some p => p.after.any (fun e' => e'.on == i && Region.binds .any e') | none => false)) | none => true)

section
variable {P : Program} {ops : Array Oper} {Q : Exit → Act → World → Prop} {W : World} {a0 : Act} {back : Option Oper}
theorem growB_spec {n : Nat} {front : List Oper} {back : Option Oper} (h : growB n front back = true) :
  (front.filterMap (·.dst)).Nodup ∧ (∀ o ∈ front,∀ t,o.dst = some t → t < n) ∧
  (∀ (j : Nat) (o : Oper),front[j]? = some o → ∀ t ∈ o.looksAt (front ++ back.toList).toArray,∀ (i : Nat) (p : Oper),front[i]? = some p → p.dst = some t → i < j ∧ ∃ e ∈ o.after,e.on = i ∧ Region.binds .any e = true) ∧
  (∀ (j : Nat) o,(front ++ back.toList).toArray[j]? = some o → ∀ e ∈ o.after,e.on < j) ∧
  (∀ o,back = some o → ∀ i,i < front.length → ∃ e ∈ o.after,Region.binds .any e = true ∧ (e.on = i ∨ ∃ p,front[e.on]? = some p ∧ ∃ e' ∈ p.after,e'.on = i ∧ Region.binds .any e' = true)):=by
 unfold growB at h;simp only [Bool.and_eq_true,decide_eq_true_eq] at h;obtain ⟨⟨⟨⟨h1,h2⟩,h3⟩,h4⟩,h5⟩:=h;refine ⟨h1,?_,?_,?_,?_⟩
 ·intro o ho t ht;have:=List.all_eq_true.1 h2 o ho;rw [ht] at this
  simpa using this
 ·intro j o ho t ht i p hp hd;have hj : j < front.length:=(List.getElem?_eq_some_iff.1 ho).1;have hi : i < front.length:=(List.getElem?_eq_some_iff.1 hp).1;have:=List.all_eq_true.1 h3 j (List.mem_range.2 hj);rw [ho] at this;have:=List.all_eq_true.1 this t ht;have:=List.all_eq_true.1 this i (List.mem_range.2 hi);rw [hp] at this;simp only [hd,bne_self_eq_false,Bool.false_or,Bool.and_eq_true,decide_eq_true_eq] at this;obtain ⟨h6,h7⟩:=this;obtain ⟨k,hk,hx⟩:=Array.any_eq_true.1 h7;simp only [Bool.and_eq_true,beq_iff_eq] at hx;exact ⟨h6,_,Array.getElem_mem hk,hx.1,hx.2⟩
 ·intro j o ho e he;have hj : j < (front ++ back.toList).toArray.size:=(Array.getElem?_eq_some_iff.1 ho).1;have:=List.all_eq_true.1 h4 j (List.mem_range.2 hj);rw [ho] at this;have:=Array.all_eq_true.1 this;obtain ⟨k,hk,rfl⟩:=Array.mem_iff_getElem.1 he
  simpa using this k hk
 ·intro o ho i hi;subst ho;have:=List.all_eq_true.1 h5 i (List.mem_range.2 hi);obtain ⟨k,hk,hx⟩:=Array.any_eq_true.1 this;simp only [Bool.and_eq_true,Bool.or_eq_true,beq_iff_eq] at hx;refine ⟨_,Array.getElem_mem hk,hx.1,hx.2.imp id fun h9 => ?_⟩
  split at h9
  ·next p hp =>
   obtain ⟨k',hk',hx'⟩:=Array.any_eq_true.1 h9;simp only [Bool.and_eq_true,beq_iff_eq] at hx';exact ⟨p,hp,_,Array.getElem_mem hk',hx'.1,hx'.2⟩
  ·cases h9

structure Ac (front : List Oper) (φs : List Fact) (W : World) (a0 : Act) (listed : Array Bool) (a : Act) (w : World) : Prop where
 old : At front φs W a0 listed a w
 cl : ∀ (j : Nat) (o : Oper),front[j]? = some o → listed.getD j false = true → ∀ e ∈ o.after,Region.binds .any e = true → listed.getD e.on false = true
theorem wpAny_grow {front : List Oper} {φs : List Fact} (hops : ops = (front ++ back.toList).toArray) (hB : growB a0.tmps.size front back = true) (hlen : φs.length = front.length)
  (hs : ∀ (i : Nat) (o : Oper) (φ : Fact),front[i]? = some o → φs[i]? = some φ → φ.Mono ∧ Obl P ops Q W a0 (knAll [] (front.take i) (φs.take i)) o φ) (hf : Fin P ops Q W a0 back (knAll [] front φs)) :
  ∀ (fuel : Nat) (listed : Array Bool) (a : Act) (w : World),listed.size = ops.size → listed.toList.count false ≤ fuel → (∀ o,back = some o → listed.getD front.length false = false) → Ac front φs W a0 listed a w → wpAny P .any ops Q fuel listed a w:=by
 obtain ⟨hn,hin,hdep,hlt,hback⟩:=growB_spec hB;rw [← hops] at hdep hlt
 have hsz : ops.size = front.length + back.toList.length:=by rw [hops];simp
 -- all have come up
 have hend : ∀ (listed : Array Bool) (a : Act) (w : World),listed.size = ops.size → (∀ i,i < ops.size → listed.getD i false = true) → (∀ o,back = some o → listed.getD front.length false = false) → Ac front φs W a0 listed a w → Q .normal a w:=by
  intro listed a w hz hall hb h;have h1:=Fin.last hf hlen hin h.old (fun i hi => hall i (by omega))
  cases hk : back with
  | none => rw [hk] at h1;exact h1
  | some o =>
   have h2:=hb o hk;rw [hall _ (by rw [hsz,hk];simp)] at h2
   cases h2
 intro fuel
 induction fuel with
 | zero =>
  intro listed a w hz hc hb h;have hall : ∀ i,i < ops.size → listed.getD i false = true:=fun i hi => no_false (by omega) i (by omega);refine ⟨?_,hend listed a w hz hall hb h⟩
  cases hr : Region.ready .any ops listed with
  | nil => rfl
  | cons j js =>
   have hm : j ∈ Region.ready .any ops listed:=by rw [hr];simp
   obtain ⟨h1,o,ho,-⟩:=mem_ready.1 hm;have hj:=(Array.getElem?_eq_some_iff.1 ho).1;rw [← getD_ft (by omega),hall j hj] at h1
   cases h1
 | succ fuel ih =>
  intro listed a w hz hc hb h;refine ⟨fun hr => hend listed a w hz (all_listed hz hlt hr) hb h,fun j hj => ?_⟩;obtain ⟨hun,o,ho,hall⟩:=mem_ready.1 hj;have hjs : j < ops.size:=(Array.getElem?_eq_some_iff.1 ho).1;have hcs:=count_set (listed:=listed) (i:=j) (by omega) hun
  by_cases hjf : j < front.length
  ·have hof : front[j]? = some o:=by rw [hops] at ho;simpa [List.getElem?_append_left hjf] using ho
   have hφ : φs[j]? = some (φs[j]'(by omega)):=List.getElem?_eq_getElem _;obtain ⟨hm,hob⟩:=hs j o _ hof hφ
   have hfacts : ∀ t ∈ o.looksAt ops,slotFact a0 (knAll [] (front.take j) (φs.take j)) a w t:=by
    intro t ht;unfold slotFact
    cases hk : (knAll [] (front.take j) (φs.take j)).lookup t with
    | some φ =>
     rcases lookup_some _ _ _ hk with ⟨i,p,h1,h2,h3⟩ | h1
     ·have hij : i < j:=by have:=(List.getElem?_eq_some_iff.1 h1).1;simp at this;omega
      rw [List.getElem?_take,if_pos hij] at h1 h3;obtain ⟨-,e,he,hon,hbi⟩:=hdep j o hof t ht i p h1 h2;have hl:=hall e he hbi;rw [hon] at hl;exact h.old.known i p φ h1 h3 t h2 hl
     ·simp at h1
    | none =>
     refine h.old.other t (fun i p hp hd => ?_)
     exfalso
     obtain ⟨hij,-⟩:=hdep j o hof t ht i p hp hd;have hi:=(List.getElem?_eq_some_iff.1 hp).1;exact (lookup_none _ _ _ hk).2 i p (φs[i]'(by omega)) (by rw [List.getElem?_take,if_pos hij];exact hp) (by rw [List.getElem?_take,if_pos hij];exact List.getElem?_eq_getElem _) hd
   have h1:=hob a w (wpAny P .any ops Q fuel (listed.setIfInBounds j true)) h.old.size h.old.below hfacts (fun v w' hbw hv => by
    refine ih _ _ _ (by simpa using hz) (by omega) (fun o' ho' => ?_) ⟨h.old.step hn hin (fun i o φ h1 h2 => (hs i o φ h1 h2).1) hof hφ (by omega) hbw hv,fun j' o' ho' hl e he hbe => (by
     by_cases ej : j = j'
     ·subst ej;obtain rfl : o = o':=Option.some.inj (hof.symm.trans ho');exact Gs.set_true (hall e he hbe)
     ·exact Gs.set_true (h.cl j' o' ho' (Gs.set_of_ne ej hl) e he hbe))⟩
    have h2:=hb o' ho'
    have e : ¬ j = front.length:=by omega
    simpa [Array.getD_eq_getD_getElem?,Array.getElem?_setIfInBounds,e] using h2)
   unfold wpOp;rw [ho]
   simp only
   split
   ·rename_i hw;rw [if_pos hw] at h1;exact .inl h1
   ·rename_i hw;rw [if_neg hw] at h1;exact h1
  ·cases hk : back with
   | none => rw [hk] at hsz;simp at hsz;omega
   | some b =>
    have hjn : j = front.length:=by rw [hk] at hsz;simp at hsz;omega
    subst hjn
    have hob : o = b:=by
     rw [hops,hk] at ho
     simp at ho
     exact ho.symm
    subst hob
    have hfl : ∀ i,i < front.length → listed.getD i false = true:=fun i hi => by
     obtain ⟨e,he,hbi,hon⟩:=hback o hk i hi;have hl:=hall e he hbi
     rcases hon with hon | ⟨p,hp,e',he',hon,hbi'⟩
     ·rwa [hon] at hl
     ·have:=h.cl e.on p hp hl e' he' hbi'
      rwa [hon] at this
    have h1:=Fin.last hf hlen hin h.old hfl;rw [hk] at h1
    have h2:=h1 (wpAny P .any ops Q fuel (listed.setIfInBounds front.length true)) (fun a' w' hq => by
     have hr : Region.ready .any ops (listed.setIfInBounds front.length true) = []:=by
      cases hr : Region.ready .any ops (listed.setIfInBounds front.length true) with
      | nil => rfl
      | cons i is =>
       have hm : i ∈ Region.ready .any ops (listed.setIfInBounds front.length true):=by rw [hr];simp
       obtain ⟨h3,o',ho',-⟩:=mem_ready.1 hm;have hi:=(Array.getElem?_eq_some_iff.1 ho').1
       exfalso
       by_cases e : front.length = i
       ·subst e
        simp [Array.getD_eq_getD_getElem?,show front.length < listed.size from by omega] at h3
       ·have h4:=hfl i (by rw [hk] at hsz;simp at hsz;omega);rw [getD_ft (by omega)] at h4
        simp [Array.getD_eq_getD_getElem?,e] at h3 h4
        rw [h3] at h4
        cases h4
     cases fuel with
     | zero => exact ⟨hr,hq⟩
     | succ fuel => exact ⟨fun _ => hq,fun i hi => by rw [hr] at hi;cases hi⟩)
    unfold wpOp;rw [ho]
    simp only
    split
    ·rename_i hw;rw [if_pos hw] at h2;exact .inl h2
    ·rename_i hw;rw [if_neg hw] at h2;exact h2
end
theorem wp_region_grow_last {P : Program} {id : Nat} {Q : Exit → Act → World → Prop} {a0 : Act} {W : World} {l : List Oper} {front : List Oper} {last : Oper} (hm : P.follows .mixedOrders = true) (hf : l.dropLast = front) (hb : l.getLast? = some last) (hB : growB a0.tmps.size front (some last) = true)
  (h : Grow P l.toArray Q W a0 (some last) front []) : (Code.region id l.toArray true).wp P Q a0 W:=by
 obtain ⟨φs,hlen,hs,hfi⟩:=Grow.spec _ _ h
 have hl : l = front ++ (some last).toList:=by
  obtain ⟨l',rfl⟩:=List.getLast?_eq_some_iff.1 hb;rw [← hf]
  simp
 refine wp_region_any hm (wpAny_grow (by rw [hl]) hB hlen hs hfi _ _ _ _ (by simp) ?_ (fun o ho => ?_) ⟨⟨rfl,rfl,(Below.refl _ _).drew,fun i o φ h1 h2 t ht hx => ?_,fun t _ => rfl⟩,fun j o h1 hx => ?_⟩)
 ·have:=List.count_le_length (a:=false) (l:=(Array.replicate l.toArray.size false).toList)
  simp at this ⊢
 ·exact repl_false _ _
 ·rw [repl_false] at hx;cases hx
 ·rw [repl_false] at hx;cases hx
end Gt
namespace Gu

def waits (front : List Oper) (i : Nat) : Nat → Array Edge → Bool
 | 0,after => after.any fun e => Region.binds .any e && e.on == i
 | f + 1,after => after.any fun e => Region.binds .any e && (e.on == i || match front[e.on]? with | some p => waits front i f p.after | none => false)
theorem waits_spec {front : List Oper} {i : Nat} {listed : Array Bool} (hc : ∀ (j : Nat) (o : Oper),front[j]? = some o → listed.getD j false = true → ∀ e ∈ o.after,Region.binds .any e = true → listed.getD e.on false = true) : ∀ (f : Nat) (after : Array Edge),waits front i f after = true → (∀ e ∈ after,Region.binds .any e = true → listed.getD e.on false = true) → listed.getD i false = true
 | 0,after,h,ha => by
  obtain ⟨k,hk,hx⟩:=Array.any_eq_true.1 h;simp only [Bool.and_eq_true,beq_iff_eq] at hx;have:=ha _ (Array.getElem_mem hk) hx.1
  rwa [hx.2] at this
 | f + 1,after,h,ha => by
  obtain ⟨k,hk,hx⟩:=Array.any_eq_true.1 h;simp only [Bool.and_eq_true,Bool.or_eq_true,beq_iff_eq] at hx;have h1:=ha _ (Array.getElem_mem hk) hx.1
  rcases hx.2 with h2 | h2
  ·rwa [h2] at h1
  ·split at h2
   ·next p hp => exact waits_spec hc f p.after h2 (fun e he hb => hc _ p hp h1 e he hb)
   ·cases h2
def lastTwo (P : Program) (ops : Array Oper) (Q : Exit → Act → World → Prop) (s t : Oper) (a : Act) (w : World) : Prop :=
 ∀ K : Act → World → Prop,(∀ a' w',(∀ K' : Act → World → Prop,(∀ a w,Q .normal a w → K' a w) → if Region.wanted t (yielded ops a'.tmps) = true then t.wp P a' w' K' Q else K' (a'.put t.dst undef) w') → K a' w') → if Region.wanted s (yielded ops a.tmps) = true then s.wp P a w K Q else K (a.put s.dst undef) w
def Fin (P : Program) (ops : Array Oper) (Q : Exit → Act → World → Prop) (W : World) (a0 : Act) (s t : Oper) (known : List (Tmp × Fact)) : Prop :=
 ∀ (x : Tmp → Value) (w : World),Below W.heap.size W w → (∀ p ∈ known,p.2 (x p.1) w) → lastTwo P ops Q s t (putsAll a0 known x) w
def Grow (P : Program) (ops : Array Oper) (Q : Exit → Act → World → Prop) (W : World) (a0 : Act) (s t : Oper) : List Oper → List (Tmp × Fact) → Prop
 | [],known => Fin P ops Q W a0 s t known
 | o :: rest,known => ∃ φ : Fact,φ.Mono ∧ Obl P ops Q W a0 known o φ ∧ Grow P ops Q W a0 s t rest (kn o.dst φ known)
section
variable {P : Program} {ops : Array Oper} {Q : Exit → Act → World → Prop} {W : World} {a0 : Act} {s t : Oper}
theorem Grow.step {o : Oper} {rest : List Oper} {known : List (Tmp × Fact)} {d : Tmp} (φ : Fact) (hd : o.dst = some d) (hφ : φ.Mono) (ho : Obl P ops Q W a0 known o φ)
  (h : Grow P ops Q W a0 s t rest ((d,φ) :: known)) : Grow P ops Q W a0 s t (o :: rest) known:=⟨φ,hφ,ho,(by rw [hd];exact h)⟩
theorem Grow.stepC {o : Oper} {rest : List Oper} {known : List (Tmp × Fact)} {d : Tmp} (c : Value) (hd : o.dst = some d) (ho : Obl P ops Q W a0 known o (fun v _ => v = c))
  (h : Grow P ops Q W a0 s t rest ((d,fun v _ => v = c) :: known)) : Grow P ops Q W a0 s t (o :: rest) known:=Grow.step _ hd (Fact.mono_eq c) ho h
theorem Grow.done {known : List (Tmp × Fact)} (h : Fin P ops Q W a0 s t known) : Grow P ops Q W a0 s t [] known:=h
theorem Grow.spec : ∀ (l : List Oper) (known : List (Tmp × Fact)),Grow P ops Q W a0 s t l known → ∃ φs : List Fact,φs.length = l.length ∧
  (∀ (i : Nat) (o : Oper) (φ : Fact),l[i]? = some o → φs[i]? = some φ → φ.Mono ∧ Obl P ops Q W a0 (knAll known (l.take i) (φs.take i)) o φ) ∧ Fin P ops Q W a0 s t (knAll known l φs)
 | [],known,h => ⟨[],rfl,fun i o φ h => by simp at h,by rw [knAll_nil];exact h⟩
 | o :: l,known,h => by
  obtain ⟨φ,hφ,ho,hr⟩:=h;obtain ⟨φs,hl,hs,hf⟩:=Grow.spec l _ hr;refine ⟨φ :: φs,by simp [hl],?_,hf⟩;intro i o' φ' h1 h2
  cases i with
  | zero =>
   simp only [List.getElem?_cons_zero,Option.some.injEq] at h1 h2;subst h1;subst h2;exact ⟨hφ,ho⟩
  | succ i =>
   simp only [List.getElem?_cons_succ] at h1 h2
   simpa [knAll] using hs i o' φ' h1 h2
def growB (n : Nat) (front : List Oper) (s t : Oper) : Bool :=
 let ops:=(front ++ [s,t]).toArray
 decide ((front.filterMap (·.dst)).Nodup) && front.all (fun o => match o.dst with | some d => decide (d < n) | none => true) &&
 (List.range front.length).all (fun j => match front[j]? with
  | some o => (o.looksAt ops).all (fun d => (List.range front.length).all fun i => match front[i]? with
    | some p => p.dst != some d || (decide (i < j) && o.after.any fun e => e.on == i && Region.binds .any e)
    | none => true)
  | none => true) &&
 (List.range ops.size).all (fun j => match ops[j]? with | some o => o.after.all (fun e => !Region.binds .any e || decide (e.on < j)) | none => true) &&
 (List.range front.length).all (fun i => waits front i 12 s.after) && t.after.any (fun e => Region.binds .any e && e.on == front.length)
theorem growB_spec {n : Nat} {front : List Oper} (h : growB n front s t = true) :
  (front.filterMap (·.dst)).Nodup ∧ (∀ o ∈ front,∀ d,o.dst = some d → d < n) ∧
  (∀ (j : Nat) (o : Oper),front[j]? = some o → ∀ d ∈ o.looksAt (front ++ [s,t]).toArray,∀ (i : Nat) (p : Oper),front[i]? = some p → p.dst = some d → i < j ∧ ∃ e ∈ o.after,e.on = i ∧ Region.binds .any e = true) ∧
  (∀ (j : Nat) o,(front ++ [s,t]).toArray[j]? = some o → ∀ e ∈ o.after,Region.binds .any e = true → e.on < j) ∧
  (∀ i,i < front.length → waits front i 12 s.after = true) ∧ ∃ e ∈ t.after,Region.binds .any e = true ∧ e.on = front.length:=by
 unfold growB at h;simp only [Bool.and_eq_true,decide_eq_true_eq] at h;obtain ⟨⟨⟨⟨⟨h1,h2⟩,h3⟩,h4⟩,h5⟩,h6⟩:=h;refine ⟨h1,?_,?_,?_,?_,?_⟩
 ·intro o ho d hd;have:=List.all_eq_true.1 h2 o ho;rw [hd] at this
  simpa using this
 ·intro j o ho d hd i p hp hpd;have hj : j < front.length:=(List.getElem?_eq_some_iff.1 ho).1;have hi : i < front.length:=(List.getElem?_eq_some_iff.1 hp).1;have:=List.all_eq_true.1 h3 j (List.mem_range.2 hj);rw [ho] at this;have:=List.all_eq_true.1 this d hd;have:=List.all_eq_true.1 this i (List.mem_range.2 hi);rw [hp] at this;simp only [hpd,bne_self_eq_false,Bool.false_or,Bool.and_eq_true,decide_eq_true_eq] at this;obtain ⟨h6,h7⟩:=this;obtain ⟨k,hk,hx⟩:=Array.any_eq_true.1 h7;simp only [Bool.and_eq_true,beq_iff_eq] at hx;exact ⟨h6,_,Array.getElem_mem hk,hx.1,hx.2⟩
 ·intro j o ho e he hbe;have hj : j < (front ++ [s,t]).toArray.size:=(Array.getElem?_eq_some_iff.1 ho).1;have:=List.all_eq_true.1 h4 j (List.mem_range.2 hj);rw [ho] at this;have:=Array.all_eq_true.1 this;obtain ⟨k,hk,rfl⟩:=Array.mem_iff_getElem.1 he;have h9:=this k hk;rw [hbe] at h9
  simpa using h9
 ·intro i hi;exact List.all_eq_true.1 h5 i (List.mem_range.2 hi)
 ·obtain ⟨k,hk,hx⟩:=Array.any_eq_true.1 h6;simp only [Bool.and_eq_true,beq_iff_eq] at hx;exact ⟨_,Array.getElem_mem hk,hx.1,hx.2⟩
theorem Fin.last {front : List Oper} {φs : List Fact} {listed : Array Bool} {a : Act} {w : World} (hf : Fin P ops Q W a0 s t (knAll [] front φs)) (hlen : φs.length = front.length) (hin : ∀ o ∈ front,∀ d,o.dst = some d → d < a0.tmps.size)
  (h : At front φs W a0 listed a w) (hall : ∀ i,i < front.length → listed.getD i false = true) : lastTwo P ops Q s t a w:=by
 have h9 : ∃ x,a = putsAll a0 (knAll [] front φs) x ∧ ∀ p ∈ knAll [] front φs,p.2 (x p.1) w:=Go.Proofs.YtmknjejaochfjaaGreatDoor.Fin.last (P:=P) (ops:=ops) (Q:=fun _ a' w' => ∃ x,a' = putsAll a0 (knAll [] front φs) x ∧ ∀ p ∈ knAll [] front φs,p.2 (x p.1) w') (back:=none) (fun x _ _ h2 => ⟨x,rfl,h2⟩) hlen hin h hall;obtain ⟨x,e,h2⟩:=h9;have h3:=hf x w h.below h2;rw [← e] at h3;exact h3
theorem run_op {fuel : Nat} {listed : Array Bool} {a : Act} {w : World} {j : Nat} {o : Oper} (ho : ops[j]? = some o) (h1 : if Region.wanted o (yielded ops a.tmps) = true then o.wp P a w (wpAny P .any ops Q fuel (listed.setIfInBounds j true)) Q else wpAny P .any ops Q fuel (listed.setIfInBounds j true) (a.put o.dst undef) w) : wpOp P ops Q j (wpAny P .any ops Q fuel (listed.setIfInBounds j true)) a w:=by
 unfold wpOp;rw [ho]
 simp only
 split
 ·rename_i hw;rw [if_pos hw] at h1;exact .inl h1
 ·rename_i hw;rw [if_neg hw] at h1;exact h1
theorem none_ready {listed : Array Bool} (hz : listed.size = ops.size) (hall : ∀ i,i < ops.size → listed.getD i false = true) : Region.ready .any ops listed = []:=by
 cases hr : Region.ready .any ops listed with
 | nil => rfl
 | cons j js =>
  have hm : j ∈ Region.ready .any ops listed:=by rw [hr];simp
  obtain ⟨h1,o,ho,-⟩:=mem_ready.1 hm;have hj:=(Array.getElem?_eq_some_iff.1 ho).1;rw [← getD_ft (by omega),hall j hj] at h1
  cases h1
theorem fin_any {fuel : Nat} {listed : Array Bool} {a : Act} {w : World} (hz : listed.size = ops.size) (hall : ∀ i,i < ops.size → listed.getD i false = true) (hq : Q .normal a w) : wpAny P .any ops Q fuel listed a w:=by
 have hr:=none_ready hz hall
 cases fuel with
 | zero => exact ⟨hr,hq⟩
 | succ fuel => exact ⟨fun _ => hq,fun i hi => by rw [hr] at hi;cases hi⟩
theorem wpAny_grow {front : List Oper} {φs : List Fact} (hops : ops = (front ++ [s,t]).toArray) (hB : growB a0.tmps.size front s t = true) (hlen : φs.length = front.length)
  (hs : ∀ (i : Nat) (o : Oper) (φ : Fact),front[i]? = some o → φs[i]? = some φ → φ.Mono ∧ Obl P ops Q W a0 (knAll [] (front.take i) (φs.take i)) o φ) (hf : Fin P ops Q W a0 s t (knAll [] front φs)) :
  ∀ (fuel : Nat) (listed : Array Bool) (a : Act) (w : World),listed.size = ops.size → listed.toList.count false ≤ fuel → listed.getD front.length false = false → listed.getD (front.length + 1) false = false → Gt.Ac front φs W a0 listed a w → wpAny P .any ops Q fuel listed a w:=by
 obtain ⟨hn,hin,hdep,hlt,hwait,e2,he2,hb2,hon2⟩:=growB_spec hB;rw [← hops] at hdep hlt
 have hsz : ops.size = front.length + 2:=by rw [hops];simp
 have hos : ops[front.length]? = some s:=by rw [hops];simp
 have hot : ops[front.length + 1]? = some t:=by rw [hops];simp
 intro fuel
 induction fuel with
 | zero =>
  intro listed a w hz hc hb hb' h;have h9:=no_false (by omega : listed.toList.count false = 0) front.length (by omega);rw [hb] at h9
  cases h9
 | succ fuel ih =>
  intro listed a w hz hc hb hb' h;refine ⟨fun hr => ?_,fun j hj => ?_⟩
  ·have h9:=Gs.all_listed hz hlt hr front.length (by omega);rw [hb] at h9
   cases h9
  obtain ⟨hun,o,ho,hall⟩:=mem_ready.1 hj;have hjs : j < ops.size:=(Array.getElem?_eq_some_iff.1 ho).1;have hcs:=count_set (listed:=listed) (i:=j) (by omega) hun
  by_cases hjf : j < front.length
  ·have hof : front[j]? = some o:=by rw [hops] at ho;simpa [List.getElem?_append_left hjf] using ho
   have hφ : φs[j]? = some (φs[j]'(by omega)):=List.getElem?_eq_getElem _;obtain ⟨hm,hob⟩:=hs j o _ hof hφ
   have hfacts : ∀ t ∈ o.looksAt ops,slotFact a0 (knAll [] (front.take j) (φs.take j)) a w t:=by
    intro t ht;unfold slotFact
    cases hk : (knAll [] (front.take j) (φs.take j)).lookup t with
    | some φ =>
     rcases lookup_some _ _ _ hk with ⟨i,p,h1,h2,h3⟩ | h1
     ·have hij : i < j:=by have:=(List.getElem?_eq_some_iff.1 h1).1;simp at this;omega
      rw [List.getElem?_take,if_pos hij] at h1 h3;obtain ⟨-,e,he,hon,hbi⟩:=hdep j o hof t ht i p h1 h2;have hl:=hall e he hbi;rw [hon] at hl;exact h.old.known i p φ h1 h3 t h2 hl
     ·simp at h1
    | none =>
     refine h.old.other t (fun i p hp hd => ?_)
     exfalso
     obtain ⟨hij,-⟩:=hdep j o hof t ht i p hp hd;have hi:=(List.getElem?_eq_some_iff.1 hp).1;exact (lookup_none _ _ _ hk).2 i p (φs[i]'(by omega)) (by rw [List.getElem?_take,if_pos hij];exact hp) (by rw [List.getElem?_take,if_pos hij];exact List.getElem?_eq_getElem _) hd
   have hkeep : ∀ i,¬ j = i → listed.getD i false = false → (listed.setIfInBounds j true).getD i false = false:=fun i e h2 => by
    simpa [Array.getD_eq_getD_getElem?,Array.getElem?_setIfInBounds,e] using h2
   exact run_op ho (hob a w _ h.old.size h.old.below hfacts (fun v w' hbw hv => ih _ _ _ (by simpa using hz) (by omega) (hkeep _ (by omega) hb) (hkeep _ (by omega) hb') ⟨h.old.step hn hin (fun i o φ h1 h2 => (hs i o φ h1 h2).1) hof hφ (by omega) hbw hv,fun j' o' ho' hl e he hbe => (by
     by_cases ej : j = j'
     ·subst ej;obtain rfl : o = o':=Option.some.inj (hof.symm.trans ho');exact Gs.set_true (hall e he hbe)
     ·exact Gs.set_true (h.cl j' o' ho' (Gs.set_of_ne ej hl) e he hbe))⟩))
  ·by_cases hj1 : j = front.length
   ·subst hj1;obtain rfl : s = o:=Option.some.inj (hos.symm.trans ho);have hfl : ∀ i,i < front.length → listed.getD i false = true:=fun i hi => waits_spec h.cl 12 s.after (hwait i hi) (fun e he hbe => hall e he hbe);refine run_op ho (Fin.last hf hlen hin h.old hfl _ (fun a' w' ht => ?_))
    have hz2 : (listed.setIfInBounds front.length true).size = ops.size:=by simpa using hz
    have hl2 : ∀ i,i < front.length + 1 → (listed.setIfInBounds front.length true).getD i false = true:=fun i hi => by
     by_cases e : front.length = i
     ·subst e
      simp [Array.getD_eq_getD_getElem?,show front.length < listed.size from by omega]
     ·exact Gs.set_true (hfl i (by omega))
    have hu2 : (listed.setIfInBounds front.length true).getD (front.length + 1) false = false:=by
     have e : ¬ front.length = front.length + 1:=by omega
     simpa [Array.getD_eq_getD_getElem?,Array.getElem?_setIfInBounds,e] using hb'
    cases fuel with
    | zero =>
     have h9:=no_false (by omega : (listed.setIfInBounds front.length true).toList.count false = 0) (front.length + 1) (by omega);rw [hu2] at h9
     cases h9
    | succ fuel =>
     refine ⟨fun hr => ?_,fun i hi => ?_⟩
     ·have h9:=Gs.all_listed hz2 hlt hr (front.length + 1) (by omega);rw [hu2] at h9
      cases h9
     ·obtain ⟨hun2,o2,ho2,-⟩:=mem_ready.1 hi;have his : i < ops.size:=(Array.getElem?_eq_some_iff.1 ho2).1
      have hie : i = front.length + 1:=Classical.byContradiction fun e => by
       have h9:=hl2 i (by omega);rw [getD_ft (by omega)] at h9;rw [h9] at hun2
       cases hun2
      subst hie;obtain rfl : t = o2:=Option.some.inj (hot.symm.trans ho2);refine run_op ho2 (ht _ (fun a3 w3 hq => fin_any (by simpa using hz2) (fun i hi => ?_) hq))
      by_cases e : front.length + 1 = i
      ·subst e
       simp [Array.getD_eq_getD_getElem?,show front.length + 1 < listed.size from by omega]
      ·exact Gs.set_true (hl2 i (by omega))
   ·obtain rfl : j = front.length + 1:=by omega
    obtain rfl : t = o:=Option.some.inj (hot.symm.trans ho);have h9:=hall e2 he2 hb2;rw [hon2,getD_ft (by omega)] at h9;rw [getD_ft (by omega)] at hb;rw [hb] at h9
    cases h9
end
theorem wp_region_grow_two {P : Program} {id : Nat} {Q : Exit → Act → World → Prop} {a0 : Act} {W : World} {l : List Oper} {front : List Oper} {s t : Oper} (hm : P.follows .mixedOrders = true) (hfr : l.dropLast.dropLast = front) (hss : l.dropLast.getLast? = some s) (htt : l.getLast? = some t) (hB : growB a0.tmps.size front s t = true)
  (h : Grow P l.toArray Q W a0 s t front []) : (Code.region id l.toArray true).wp P Q a0 W:=by
 have hl : l = front ++ [s,t]:=by
  obtain ⟨l',rfl⟩:=List.getLast?_eq_some_iff.1 htt;rw [List.dropLast_concat] at hfr hss;obtain ⟨l2,rfl⟩:=List.getLast?_eq_some_iff.1 hss;rw [List.dropLast_concat] at hfr;rw [← hfr]
  simp
 obtain ⟨φs,hlen,hs,hfi⟩:=Grow.spec _ _ h;refine wp_region_any hm (wpAny_grow (by rw [hl]) hB hlen hs hfi _ _ _ _ (by simp) ?_ ?_ ?_ ⟨⟨rfl,rfl,(Below.refl _ _).drew,fun i o φ h1 h2 d hd hx => ?_,fun d _ => rfl⟩,fun j o h1 hx => ?_⟩)
 ·have:=List.count_le_length (a:=false) (l:=(Array.replicate l.toArray.size false).toList)
  simp at this ⊢
 ·exact repl_false _ _
 ·exact repl_false _ _
 ·rw [repl_false] at hx;cases hx
 ·rw [repl_false] at hx;cases hx
end Gu
end Go.Proofs.YtmknjejaochfjaaGreatDoor

namespace Go.Proofs.YtmknjejaochfjaaGreatDoor
open Go.RowKit
namespace Rc
open Mk

theorem cs12B {w : World} {b : Nat} {v0 v1 v2 v3 v4 v5 v6 v7 v8 v9 v10 v11 : Value} {T : TypeId} (h : w.heap[b]? = some (.cells #[v0,v1,v2,v3,v4,v5,v6,v7,v8,v9,v10,v11] T (0,0))) : w.cell? ⟨b,0,none⟩ = some v0 ∧ w.cell? ⟨b,1,none⟩ = some v1 ∧ w.cell? ⟨b,2,none⟩ = some v2 ∧ w.cell? ⟨b,3,none⟩ = some v3 ∧ w.cell? ⟨b,4,none⟩ = some v4 ∧ w.cell? ⟨b,5,none⟩ = some v5 ∧ w.cell? ⟨b,6,none⟩ = some v6 ∧ w.cell? ⟨b,7,none⟩ = some v7 ∧ w.cell? ⟨b,8,none⟩ = some v8 ∧ w.cell? ⟨b,9,none⟩ = some v9 ∧ w.cell? ⟨b,10,none⟩ = some v10 ∧ w.cell? ⟨b,11,none⟩ = some v11:=⟨cellK h 0,cellK h 1,cellK h 2,cellK h 3,cellK h 4,cellK h 5,cellK h 6,cellK h 7,cellK h 8,cellK h 9,cellK h 10,cellK h 11⟩
theorem cs9B {w : World} {b : Nat} {v0 v1 v2 v3 v4 v5 v6 v7 v8 : Value} {T : TypeId} (h : w.heap[b]? = some (.cells #[v0,v1,v2,v3,v4,v5,v6,v7,v8] T (0,0))) : w.cell? ⟨b,0,none⟩ = some v0 ∧ w.cell? ⟨b,1,none⟩ = some v1 ∧ w.cell? ⟨b,2,none⟩ = some v2 ∧ w.cell? ⟨b,3,none⟩ = some v3 ∧ w.cell? ⟨b,4,none⟩ = some v4 ∧ w.cell? ⟨b,5,none⟩ = some v5 ∧ w.cell? ⟨b,6,none⟩ = some v6 ∧ w.cell? ⟨b,7,none⟩ = some v7 ∧ w.cell? ⟨b,8,none⟩ = some v8:=⟨cellK h 0,cellK h 1,cellK h 2,cellK h 3,cellK h 4,cellK h 5,cellK h 6,cellK h 7,cellK h 8⟩
def ErF (c : Cl) (x : Xd) (E : Nat → Addr) : Fact:=fun v _ => (∃ i,i < 9 ∧ ((i = 3 ∧ hit Vd.n c.vs (wMade ++ x.n) = true) ∨ (i = 4 ∧ hit Vd.n c.vs (wMade ++ x.n) = false ∧ ¬ c.vs.length < 8)) ∧ v = .iface 216 (.pointer (some (E i)))) ∨ (hit Vd.n c.vs (wMade ++ x.n) = false ∧ c.vs.length < 8 ∧ v = .nilIface)
theorem ErF.mono (c : Cl) (x : Xd) (E : Nat → Addr) : Fact.Mono (ErF c x E):=fun _ _ _ h _ => h

theorem iunb_any (d : Ad) (c : Cl) (x : Xd) (j : Nat) (k : Kd) (E : Nat → Addr) (w : World) (hr : ClRow w d c.raw) (hG : Ers w E) (hk : c.ks[j]? = some k) (hkn : k.n = x.k) (hri : RisBy Kd.n c.ks) :
  Calls Tryz.prog 31 #[.agg #[.slice d.a1 d.l1 d.c1,.slice d.a2 d.l2 d.c2,.slice d.a3 d.l3 d.c3,.slice d.a4 d.l4 d.c4,.slice d.a5 d.l5 d.c5,.int .i64 c.now],.agg #[.string x.n,.int .i64 x.z,.string x.k,.bool x.x,.string x.v]] w fun e w' => Below w.heap.size w w' ∧ ((¬ x.v = ⟨#[]⟩ ∧ e = .returned (.iface 216 (.pointer (some (E 6))))) ∨ (x.v = ⟨#[]⟩ ∧ k.x = true ∧ e = .returned (.iface 216 (.pointer (some (E 7))))) ∨ (x.v = ⟨#[]⟩ ∧ k.x = false ∧ e = .returned .nilIface)):=by
 have HR:=hidK hr;have HE:=hidK hG;have HK:=hidK (And.intro hk hkn);have HRI:=hidK hri;have HB:=hidK (Below.refl w.heap.size w);clear hr hG hk hkn hri
 by_cases hv : x.v = ⟨#[]⟩
 rotate_left
 ·have hq:=isE_no hv;have HV:=hidK hv;clear hv;have ev:=(HE.out.below (below2 w (.cells #[.slice d.a1 d.l1 d.c1,.slice d.a2 d.l2 d.c2,.slice d.a3 d.l3 d.c3,.slice d.a4 d.l4 d.c4,.slice d.a5 d.l5 d.c5,.int .i64 c.now] 36) (.cells #[.string x.n,.int .i64 x.z,.string x.k,.bool x.x,.string x.v] 55))).v6
  go_enter Tryz.func31,Tryz.ntmps31
  go_wp2
  go_ret;exact ⟨below2 _ _ _,.inl ⟨HV.out,rfl⟩⟩
 have hq:=isE_y hv;have HV:=hidK hv;clear hv
 go_enter Tryz.func31,Tryz.ntmps31
 go_wp2_with fail;refine (thekd_any d c.now c.ks x.k w _ HR.out.k (HB.out.trans ((below2 _ _ _).mono HB.out.size))).mono ?_;rintro e w1 ⟨hb,hf⟩;obtain ⟨HA0,HA1,hbx⟩:=slots2 hb;have Bk:=hidK HA0;have Bx:=hidK HA1;replace HB:=upB HB hbx;clear hb hbx HA0 HA1;have hit9:=hit_at HRI.out HK.out.1 HK.out.2
 rcases hf with ⟨hh,n9,hx,hn9,rfl,-,-⟩ | ⟨hh,rfl⟩
 rotate_left
 ·rw [hit9.2] at hh
  cases hh
 obtain ⟨-,rfl⟩:=HRI.out.inj HK.out.1 hx (HK.out.2.trans hn9.symm);clear hx hn9 hh hit9;have ev:=(HE.out.below HB.out).v7;have evl:=cell_lt ev
 cases hkx : k.x
 ·have HKX:=hidK hkx;clear hkx;obtain ⟨k0,k1,k2,k3,k4,k5⟩:=cs6 Bk.out;have ltk_1:=lt_of_some Bk.out;obtain ⟨x0,x1,x2,x3,x4⟩:=cs5 Bx.out;have ltx_1:=lt_of_some Bx.out
  go_wp2
  go_ret;exact ⟨HB.out.trans ((below1 _ _).mono HB.out.size),.inr (.inr ⟨HV.out,HKX.out,rfl⟩)⟩
 ·have HKX:=hidK hkx;clear hkx;obtain ⟨k0,k1,k2,k3,k4,k5⟩:=cs6 Bk.out;have ltk_1:=lt_of_some Bk.out;obtain ⟨x0,x1,x2,x3,x4⟩:=cs5 Bx.out;have ltx_1:=lt_of_some Bx.out
  go_wp2
  go_ret;exact ⟨HB.out.trans ((below1 _ _).mono HB.out.size),.inr (.inl ⟨HV.out,HKX.out,rfl⟩)⟩

theorem ifound_any (d : Ad) (c : Cl) (x : Xd) (t : ByteArray) (E : Nat → Addr) (w : World) (hr : ClRow w d c.raw) (hG : Ers w E) (hR : BestR c.vs x.n x.z x.k x.v t) (h8 : c.vs.length ≤ 8) (ht : t.size ≤ 20) (z0 : x.n.size ≤ 9223372036854775807) (z2 : x.k.size ≤ 9223372036854775807) (z4 : x.v.size ≤ 9223372036854775807) :
  Calls Tryz.prog 66 #[.agg #[.slice d.a1 d.l1 d.c1,.slice d.a2 d.l2 d.c2,.slice d.a3 d.l3 d.c3,.slice d.a4 d.l4 d.c4,.slice d.a5 d.l5 d.c5,.int .i64 c.now,.string x.n,.int .i64 x.z,.string x.k,.bool x.x,.string x.v,.string t]] w fun e w' => Below w.heap.size w w' ∧ ((bestV (svV x.z x.k x.x t) c.vs = none ∧ e = .returned (.tuple #[.agg #[.string ⟨#[]⟩,.int .i64 0,.string ⟨#[]⟩,.string ⟨#[]⟩,.bool false,.string ⟨#[]⟩,.bool false,.slice none 0 0],.iface 216 (.pointer (some (E 2)))])) ∨ (∃ u va vl vc,bestV (svV x.z x.k x.x t) c.vs = some u ∧ e = .returned (.tuple #[.agg #[.string u.n,.int .i64 u.c,.string u.z,.string u.k,.bool u.x,.string u.m,.bool u.y,.slice va vl vc],.nilIface]) ∧ TOwn w' va vl vc u.zs (fun k => w.heap.size ≤ k))):=by
 have HR:=hidK hr;have HE:=hidK hG;have HBR:=hidK hR;have HZ:=hidK (And.intro z0 (And.intro z2 z4));have HB:=hidK (Below.refl w.heap.size w);clear hr hG hR z0 z2 z4
 go_enter Tryz.func66,Tryz.ntmps66
 go_wp2_with fail;refine (ibest_any d.a3 d.l3 d.c3 c.vs x.n x.z x.k x.x x.v t _ HZ.out.1 HZ.out.2.1 HZ.out.2.2 (by omega) (vs_of (HR.out.v.below (HB.out.trans ((below2 _ _ _).mono HB.out.size))))).mono ?_;rintro e w1 ⟨u,p,va,vl,vc,rfl,hIs,hT,hO,hb⟩;have HT : Hid (TOwn w1 va vl vc u.zs (fun k => w.heap.size + 1 + 1 ≤ k)):=⟨hT,hO.imp id fun ⟨g,cur,e1,e2,e3⟩ => ⟨g,cur,e1,by simpa using e2,e3⟩⟩;clear hT hO;obtain ⟨HA0,HA1,hbx⟩:=slots2 hb;have Bs:=hidK HA0;have Br:=hidK HA1;replace HB:=upB HB hbx;clear hb hbx HA0 HA1
 rcases hIs with ⟨h,-,-⟩ | ⟨-,h,-,-⟩ | ⟨-,-,hbv,rfl,rfl⟩ | ⟨-,-,hbv,rfl⟩
 ·omega
 ·exact absurd HBR.out h
 ·have HBV:=hidK hbv;clear hbv;clear HT;have ev:=(HE.out.below HB.out).v2;have evl2:=cell_lt ev;have evl:=cell_lt HE.out.v2
  have evn : ¬ 2 = w.heap.size + 1:=by omega
  obtain ⟨r0,r1,r2,r3,r4,r5,r6,r7⟩:=cs8 Br.out;have ltr_1:=lt_of_some Br.out;have fr0:=froK Br.out 0;have fr1:=froK Br.out 1;have fr2:=froK Br.out 2;have fr3:=froK Br.out 3;have fr4:=froK Br.out 4;have fr5:=froK Br.out 5;have fr6:=froK Br.out 6;have fr7:=froK Br.out 7;have hrs:=lt_of_some Bs.out;have hrl : w.heap.size + 1 < w1.heap.size:=lt_of_some Br.out
  go_wp2
  go_region
  go_wp2
  exact bodyPost_ret (v:=.tuple #[.agg #[.string ⟨#[]⟩,.int .i64 0,.string ⟨#[]⟩,.string ⟨#[]⟩,.bool false,.string ⟨#[]⟩,.bool false,.slice none 0 0],.iface 216 (.pointer (some (E 2)))]) (by simp [results,Tryz.results66,go_sem, *]) rfl ⟨Below.drewn (Below.alloc (sb1 (sb1 (sb1 (sb1 (sb1 (sb1 (sb1 (sb1 (HB.out))))))))) (by simp [World.setCell];have:=HB.out.size;omega) _),.inl ⟨HBV.out,rfl⟩⟩
 have HBV:=hidK hbv;clear hbv;obtain ⟨r0,r1,r2,r3,r4,r5,r6,r7⟩:=cs8 Br.out;have ltr_1:=lt_of_some Br.out;have fr0:=froK Br.out 0;have fr1:=froK Br.out 1;have fr2:=froK Br.out 2;have fr3:=froK Br.out 3;have fr4:=froK Br.out 4;have fr5:=froK Br.out 5;have fr6:=froK Br.out 6;have fr7:=froK Br.out 7;have hrs:=lt_of_some Bs.out;have hrl : w.heap.size + 1 < w1.heap.size:=lt_of_some Br.out
 go_wp2
 exact bodyPost_ret (v:=.tuple #[.agg #[.string u.n,.int .i64 u.c,.string u.z,.string u.k,.bool u.x,.string u.m,.bool u.y,.slice va vl vc],.nilIface]) (by simp [results,Tryz.results66,go_sem, *]) rfl ⟨Below.alloc (sb1 (sb1 (sb1 (sb1 (sb1 (sb1 (sb1 (sb1 (HB.out))))))))) (by simp [World.setCell];have:=HB.out.size;omega) _,.inr ⟨u,va,vl,vc,HBV.out,rfl,HT.out.keep (fun k hk s => by have s1 : w.heap.size + 1 + 1 ≤ k:=s;exact (Below.heap_alloc _ _ _ (by simpa using hk)).trans (by rw [Below.heap_setCell _ _ _ _ (show k ≠ w.heap.size + 1 by omega),Below.heap_setCell _ _ _ _ (show k ≠ w.heap.size + 1 by omega),Below.heap_setCell _ _ _ _ (show k ≠ w.heap.size + 1 by omega),Below.heap_setCell _ _ _ _ (show k ≠ w.heap.size + 1 by omega),Below.heap_setCell _ _ _ _ (show k ≠ w.heap.size + 1 by omega),Below.heap_setCell _ _ _ _ (show k ≠ w.heap.size + 1 by omega),Below.heap_setCell _ _ _ _ (show k ≠ w.heap.size + 1 by omega),Below.heap_setCell _ _ _ _ (show k ≠ w.heap.size + 1 by omega)])) (fun k _ s => by have s1 : w.heap.size + 1 + 1 ≤ k:=s;show w.heap.size ≤ k;omega)⟩⟩

theorem imade_any (d : Ad) (c : Cl) (x : Xd) (t : ByteArray) (j : Nat) (k : Kd) (zo : ByteArray) (E : Nat → Addr) (w : World) (hr : ClRow w d c.raw) (hG : Ers w E) (hT : RightI c) (hx : ClaimOk x.n x.z x.k x.v) (hk : c.ks[j]? = some k) (hkn : k.n = x.k) (ht : t = ⟨#[]⟩ ∨ NameOk t) (hzo : zo = zoneOf t k.z) :
  Calls Tryz.prog 67 #[.agg #[.slice d.a1 d.l1 d.c1,.slice d.a2 d.l2 d.c2,.slice d.a3 d.l3 d.c3,.slice d.a4 d.l4 d.c4,.slice d.a5 d.l5 d.c5,.int .i64 c.now,.string x.n,.int .i64 x.z,.string x.k,.bool x.x,.string x.v,.string t]] w fun e w' => Below w.heap.size w w' ∧ ((¬ MayV x k t ∧ e = .returned (.tuple #[.agg #[.string ⟨#[]⟩,.int .i64 0,.string ⟨#[]⟩,.string ⟨#[]⟩,.bool false,.string ⟨#[]⟩,.bool false,.slice none 0 0],.iface 216 (.pointer (some (E 2)))])) ∨ (MayV x k t ∧ ((∃ i,i < 9 ∧ ((i = 3 ∧ hit Vd.n c.vs (wMade ++ x.n) = true) ∨ (i = 4 ∧ hit Vd.n c.vs (wMade ++ x.n) = false ∧ ¬ c.vs.length < 8)) ∧ e = .returned (.tuple #[.agg #[.string (wMade ++ x.n),.int .i64 x.z,.string zo,.string x.k,.bool x.x,.string x.n,.bool false,.slice none 0 0],.iface 216 (.pointer (some (E i)))])) ∨ (hit Vd.n c.vs (wMade ++ x.n) = false ∧ c.vs.length < 8 ∧ e = .returned (.tuple #[.agg #[.string (wMade ++ x.n),.int .i64 x.z,.string zo,.string x.k,.bool x.x,.string x.n,.bool false,.slice none 0 0],.nilIface]))))):=by
 have HR:=hidK hr;have HE:=hidK hG;have HT:=hidK hT;have HK:=hidK (And.intro hk hkn);have hko:=hT.2.1.2.1.2.1 j k hk;have HKO:=hidK hko;have HXO:=hidK hx;have HTZ:=hidK ht;have HZO:=hidK hzo;have HB:=hidK (Below.refl w.heap.size w);clear hr hG hT hx hk hkn ht hzo hko
 go_enter Tryz.func67,Tryz.ntmps67
 go_wp2_with fail;refine (thekd_any d c.now c.ks x.k w _ HR.out.k (HB.out.trans ((below2 _ _ _).mono HB.out.size))).mono ?_;rintro e w1 ⟨hb,hf⟩;obtain ⟨HA0,HA1,hbx⟩:=slots2 hb;have Bs:=hidK HA0;have Br:=hidK HA1;replace HB:=upB HB hbx;clear hb hbx HA0 HA1;have hit9:=hit_at HT.out.2.1.2.1.2.2 HK.out.1 HK.out.2
 rcases hf with ⟨hh,n9,hx,hn9,rfl,zk0,zk3⟩ | ⟨hh,rfl⟩
 rotate_left
 ·rw [hit9.2] at hh
  cases hh
 obtain ⟨-,rfl⟩:=HT.out.2.1.2.1.2.2.inj HK.out.1 hx (HK.out.2.trans hn9.symm);have HZK:=hidK (And.intro zk0 zk3);clear hx hn9 hh hit9 zk0 zk3
 by_cases hte : t = ⟨#[]⟩
 ·have hq:=isE_y hte
  have hzk : zo = k.z:=by rw [HZO.out];unfold zoneOf;rw [if_pos hte]
  have HTE:=hidK hte;clear hte;subst hzk;obtain ⟨s0,s1,s2,s3,s4,s5,s6,s7,s8,s9,s10,s11⟩:=cs12B Bs.out;have lts:=lt_of_some Bs.out;go_wp2_with fail;clear s0 s1 s2 s3 s4 s5 s6 s7 s8 s9 s10 s11 lts;have hxn:=HXO.out.1.2.1;have hxk:=HXO.out.2.2.1.2.1
  have hxv : x.v.size ≤ 9223372036854775807:=by
   rcases HXO.out.2.2.2 with h1 | h1
   ·rw [h1];decide
   ·have h2:=h1.2.1;omega
  have hz20 : (k.z).size ≤ 20:=by
   rcases HKO.out.2 with h1 | h1
   ·rw [h1];decide
   ·have h2:=h1.2.1;omega
  have hzn : ¬ k.z = ⟨#[]⟩ → NameOk k.z:=fun h9 => HKO.out.2.resolve_left h9;have HZN:=hidK hzn;clear hzn;refine (imake_any x.n x.z x.k x.x x.v k.n k.x k.y k.z k.z _ (by omega) (by omega) hxv HZK.out.1 HZK.out.2 (by omega)).mono ?_;rintro e w2 ⟨n0,c0,z0,k0,x0,m0,p0,rfl,hIs,hb⟩;obtain ⟨HA0,hbx⟩:=slots1 hb;replace Bs:=upK Bs hbx;replace Br:=upK Br hbx;have Bc:=hidK HA0;replace HB:=upB HB hbx;clear hb hbx HA0
  have hmay : MayV x k t ↔ ¬ k.z = ⟨#[]⟩ ∧ MakeM x.n x.k x.v k.n k.z (k.z):=by unfold MayV;rw [← HZO.out]
  have HMY:=hidK hmay;clear hmay
  rcases hIs with ⟨h,-,-⟩ | ⟨-,h,hz,rfl⟩ | ⟨-,-,h,hz,rfl⟩ | ⟨-,hR,hM,hz,rfl⟩
  ·omega
  ·have HNM : Hid (¬ MayV x k t):=fun h9 => h ⟨HXO.out,HKO.out,HZN.out (HMY.out.1 h9).1⟩;obtain ⟨rfl,rfl,rfl,rfl,rfl,rfl⟩:=hz;clear h;have ev:=(HE.out.below HB.out).v2;have evl2:=cell_lt ev;have evl:=cell_lt HE.out.v2
   have evn : ¬ 2 = w.heap.size + 1:=by omega
   obtain ⟨r0,r1,r2,r3,r4,r5,r6,r7⟩:=cs8 Br.out;have ltr_2:=lt_of_some Br.out;have fr0:=froK Br.out 0;have fr1:=froK Br.out 1;have fr2:=froK Br.out 2;have fr3:=froK Br.out 3;have fr4:=froK Br.out 4;have fr5:=froK Br.out 5;have fr6:=froK Br.out 6;have fr7:=froK Br.out 7;have hrl : w.heap.size + 1 < w2.heap.size:=lt_of_some Br.out
   go_wp2
   go_region
   go_wp2
   exact bodyPost_ret (v:=.tuple #[.agg #[.string ⟨#[]⟩,.int .i64 0,.string ⟨#[]⟩,.string ⟨#[]⟩,.bool false,.string ⟨#[]⟩,.bool false,.slice none 0 0],.iface 216 (.pointer (some (E 2)))]) (by simp [results,Tryz.results67,go_sem, *]) rfl ⟨Below.drewn (Below.alloc (sb1 (sb1 (sb1 (sb1 (sb1 (sb1 (sb1 (sb1 (HB.out))))))))) (by simp [World.setCell];have:=HB.out.size;omega) _),.inl ⟨HNM.out,rfl⟩⟩
  ·have HNM : Hid (¬ MayV x k t):=fun h9 => h (HMY.out.1 h9).2;obtain ⟨rfl,rfl,rfl,rfl,rfl,rfl⟩:=hz;clear h;have ev:=(HE.out.below HB.out).v2;have evl2:=cell_lt ev;have evl:=cell_lt HE.out.v2
   have evn : ¬ 2 = w.heap.size + 1:=by omega
   obtain ⟨r0,r1,r2,r3,r4,r5,r6,r7⟩:=cs8 Br.out;have ltr_2:=lt_of_some Br.out;have fr0:=froK Br.out 0;have fr1:=froK Br.out 1;have fr2:=froK Br.out 2;have fr3:=froK Br.out 3;have fr4:=froK Br.out 4;have fr5:=froK Br.out 5;have fr6:=froK Br.out 6;have fr7:=froK Br.out 7;have hrl : w.heap.size + 1 < w2.heap.size:=lt_of_some Br.out
   go_wp2
   go_region
   go_wp2
   exact bodyPost_ret (v:=.tuple #[.agg #[.string ⟨#[]⟩,.int .i64 0,.string ⟨#[]⟩,.string ⟨#[]⟩,.bool false,.string ⟨#[]⟩,.bool false,.slice none 0 0],.iface 216 (.pointer (some (E 2)))]) (by simp [results,Tryz.results67,go_sem, *]) rfl ⟨Below.drewn (Below.alloc (sb1 (sb1 (sb1 (sb1 (sb1 (sb1 (sb1 (sb1 (HB.out))))))))) (by simp [World.setCell];have:=HB.out.size;omega) _),.inl ⟨HNM.out,rfl⟩⟩
  have HMV : Hid (MayV x k t):=HMY.out.2 ⟨fun h9 => by have h1:=hR.2.2.1;rw [h9] at h1;exact absurd h1 (by decide),hM⟩;obtain ⟨rfl,rfl,hz0,rfl,rfl,rfl⟩:=hz;replace hz0:=hz0.symm;subst hz0;clear hR hM;obtain ⟨r0,r1,r2,r3,r4,r5,r6,r7⟩:=cs8 Br.out;have ltr_2:=lt_of_some Br.out;obtain ⟨s0,s1,s2,s3,s4,s5,s6,s7,s8,s9,s10,s11⟩:=cs12B Bs.out;have lts:=lt_of_some Bs.out;go_wp2_with fail;clear s0 s1 s2 s3 s4 s5 s6 s7 s8 s9 s10 s11 lts;clear r0 r1 r2 r3 r4 r5 r6 r7 ltr_2;obtain ⟨W,hW0⟩ : ∃ W,W = w2.alloc (.cells #[.string (wMade ++ x.n),.int .i64 x.z,.string k.z,.string x.k,.bool x.x,.string x.n,.bool false,.slice none 0 0,.int .i64 0] 141):=⟨_,rfl⟩;have BsW:=hidK ((Below.heap_alloc w2 (.cells #[.string (wMade ++ x.n),.int .i64 x.z,.string k.z,.string x.k,.bool x.x,.string x.n,.bool false,.slice none 0 0,.int .i64 0] 141) _ (lt_of_some Bs.out)).trans Bs.out);have BrW:=hidK ((Below.heap_alloc w2 (.cells #[.string (wMade ++ x.n),.int .i64 x.z,.string k.z,.string x.k,.bool x.x,.string x.n,.bool false,.slice none 0 0,.int .i64 0] 141) _ (lt_of_some Br.out)).trans Br.out);have BfW:=hidK (heap_alloc_new w2 (.cells #[.string (wMade ++ x.n),.int .i64 x.z,.string k.z,.string x.k,.bool x.x,.string x.n,.bool false,.slice none 0 0,.int .i64 0] 141));have HBW:=hidK (HB.out.trans ((below1 w2 (.cells #[.string (wMade ++ x.n),.int .i64 x.z,.string k.z,.string x.k,.bool x.x,.string x.n,.bool false,.slice none 0 0,.int .i64 0] 141)).mono HB.out.size));rw [← hW0] at BsW BrW BfW HBW ⊢
  have h28 : c.vs.length ≤ 9223372036854775807:=by have:=HT.out.sm.v;omega
  clear hW0;rename_i K0 hK0;refine Gu.wp_region_grow_two (by kernel_rfl) rfl rfl rfl (by kernel_rfl) ?_;refine' Gu.Grow.stepC _ rfl ?_ ?_;rotate_left 1
  ·refine Obl.plain rfl ?_;intro ac wg K hsz hW hf hK;clear hsz;have e7:=hf 7 (by decide)
   simp [slotFact,List.lookup] at e7
   clear hf;go_simp;refine hK _ _ (Below.refl _ _) ?_;with_reducible rfl
  refine' Gu.Grow.stepC _ rfl ?_ ?_;rotate_left 1
  ·refine Obl.plain rfl ?_;intro ac wg K hsz hW hf hK;clear hsz;have e33:=hf 33 (by decide)
   simp [slotFact,List.lookup] at e33
   clear hf;obtain ⟨f0,f1,f2,f3,f4,f5,f6,f7,f8⟩:=cs9B ((hW.block _ (lt_of_some BfW.out)).trans BfW.out);go_simp;refine hK _ _ (Below.refl _ _) ?_;with_reducible rfl
  refine' Gu.Grow.stepC _ rfl ?_ ?_;rotate_left 1
  ·refine Obl.plain rfl ?_;intro ac wg K hsz hW hf hK;clear hsz;have e1:=hf 1 (by decide)
   simp [slotFact,List.lookup] at e1
   clear hf;go_simp;refine hK _ _ (Below.refl _ _) ?_;with_reducible rfl
  refine' Gu.Grow.stepC _ rfl ?_ ?_;rotate_left 1
  ·refine Obl.plain rfl ?_;intro ac wg K hsz hW hf hK;clear hsz;have e35:=hf 35 (by decide)
   simp [slotFact,List.lookup] at e35
   clear hf;go_simp;refine hK _ _ (Below.refl _ _) ?_;with_reducible rfl
  refine' Gu.Grow.stepC _ rfl ?_ ?_;rotate_left 1
  ·refine Obl.plain rfl ?_;intro ac wg K hsz hW hf hK;clear hsz;have e36:=hf 36 (by decide)
   simp [slotFact,List.lookup] at e36
   clear hf;obtain ⟨s0,s1,s2,s3,s4,s5,s6,s7,s8,s9,s10,s11⟩:=cs12B ((hW.block _ (lt_of_some BsW.out)).trans BsW.out);go_simp;refine hK _ _ (Below.refl _ _) ?_;with_reducible rfl
  refine' Gu.Grow.stepC _ rfl ?_ ?_;rotate_left 1
  ·refine Obl.plain rfl ?_;intro ac wg K hsz hW hf hK;clear hsz;have e7:=hf 7 (by decide)
   simp [slotFact,List.lookup] at e7
   clear hf;go_simp;refine hK _ _ (Below.refl _ _) ?_;with_reducible rfl
  refine' Gu.Grow.stepC _ rfl ?_ ?_;rotate_left 1
  ·refine Obl.plain rfl ?_;intro ac wg K hsz hW hf hK;clear hsz;have e38:=hf 38 (by decide)
   simp [slotFact,List.lookup] at e38
   clear hf;go_simp;refine hK _ _ (Below.refl _ _) ?_;with_reducible rfl
  refine' Gu.Grow.stepC _ rfl ?_ ?_;rotate_left 1
  ·refine Obl.plain rfl ?_;intro ac wg K hsz hW hf hK;clear hsz;have e39:=hf 39 (by decide)
   simp [slotFact,List.lookup] at e39
   clear hf;obtain ⟨f0,f1,f2,f3,f4,f5,f6,f7,f8⟩:=cs9B ((hW.block _ (lt_of_some BfW.out)).trans BfW.out);go_simp;refine hK _ _ (Below.refl _ _) ?_;with_reducible rfl
  refine Gu.Grow.step (ErF c x E) rfl (ErF.mono c x E) ?_ ?_
  ·refine Obl.plain rfl ?_;intro ac wg K hsz hW hf hK;clear hsz;have e37:=hf 37 (by decide)
   simp [slotFact,List.lookup] at e37
   have e40:=hf 40 (by decide)
   simp [slotFact,List.lookup] at e40
   clear hf;go_simp;refine (refvd_any d.a3 d.l3 d.c3 c.vs (wMade ++ x.n) 8 E _ (HR.out.v.below (HBW.out.trans (hW.mono HBW.out.size))) (HE.out.below (HBW.out.trans (hW.mono HBW.out.size)))).mono ?_;rintro e w6 ⟨hb6,hf6⟩
   rcases hf6 with ⟨i,hi9,hwhy,rfl⟩ | ⟨hok,rfl⟩
   ·exact hK _ _ hb6 (.inl ⟨i,hi9,hwhy.imp id (fun h9 => ⟨h9.1,h9.2.1,by omega⟩),rfl⟩)
   ·exact hK _ _ hb6 (.inr ⟨hok.1,hok.2,rfl⟩)
  refine Gu.Grow.done ?_;intro q wz hW hf;simp only [List.forall_mem_cons] at hf;obtain ⟨h41,h40,h39,h38,h37,h36,h35,h34,h33,-⟩:=hf;obtain ⟨v9,hv9⟩ : ∃ v9,q 41 = v9:=⟨_,rfl⟩
  have h41' : ErF c x E v9 wz:=by rw [← hv9];exact h41
  have HER:=hidK h41';have HWZ:=hidK hW;have Br6:=upK BrW hW;clear h41 h41' hW;obtain ⟨r0,r1,r2,r3,r4,r5,r6,r7⟩:=cs8 Br6.out;have fr0:=froK Br6.out 0;have fr1:=froK Br6.out 1;have fr2:=froK Br6.out 2;have fr3:=froK Br6.out 3;have fr4:=froK Br6.out 4;have fr5:=froK Br6.out 5;have fr6:=froK Br6.out 6;have fr7:=froK Br6.out 7;have hrl:=lt_of_some Br6.out;intro K hK;rw [if_pos (by rfl)];simp only [putsAll,List.foldr,Act.put,List.setIfInBounds_toArray,List.set_cons_zero,List.set_cons_succ,h40,h39,h38,h37,h36,h35,h34,h33,hv9];go_simp;refine hK _ _ ?_;clear hK K;intro K hK;rw [if_pos (by rfl)];go_simp;refine hK _ _ ?_;refine hK0 _ _ ?_;clear hK hK0 K K0
  go_wp2
  rcases HER.out with ⟨i,hi9,hwhy,rfl⟩ | ⟨hh,h8,rfl⟩
  ·exact bodyPost_ret (v:=.tuple #[.agg #[.string (wMade ++ x.n),.int .i64 x.z,.string k.z,.string x.k,.bool x.x,.string x.n,.bool false,.slice none 0 0],.iface 216 (.pointer (some (E i)))]) (by simp [results,Tryz.results67,go_sem, *]) rfl ⟨sb1 (sb1 (sb1 (sb1 (sb1 (sb1 (sb1 (sb1 (HBW.out.trans (HWZ.out.mono HBW.out.size))))))))),.inr ⟨HMV.out,.inl ⟨i,hi9,hwhy,rfl⟩⟩⟩
  ·exact bodyPost_ret (v:=.tuple #[.agg #[.string (wMade ++ x.n),.int .i64 x.z,.string k.z,.string x.k,.bool x.x,.string x.n,.bool false,.slice none 0 0],.nilIface]) (by simp [results,Tryz.results67,go_sem, *]) rfl ⟨sb1 (sb1 (sb1 (sb1 (sb1 (sb1 (sb1 (sb1 (HBW.out.trans (HWZ.out.mono HBW.out.size))))))))),.inr ⟨HMV.out,.inr ⟨hh,h8,rfl⟩⟩⟩
 ·have hq:=isE_no hte
  have hzk : t = zo:=by rw [HZO.out];unfold zoneOf;rw [if_neg hte]
  have HTE:=hidK hte;clear hte;subst hzk;obtain ⟨s0,s1,s2,s3,s4,s5,s6,s7,s8,s9,s10,s11⟩:=cs12B Bs.out;have lts:=lt_of_some Bs.out;go_wp2_with fail;clear s0 s1 s2 s3 s4 s5 s6 s7 s8 s9 s10 s11 lts;have hxn:=HXO.out.1.2.1;have hxk:=HXO.out.2.2.1.2.1
  have hxv : x.v.size ≤ 9223372036854775807:=by
   rcases HXO.out.2.2.2 with h1 | h1
   ·rw [h1];decide
   ·have h2:=h1.2.1;omega
  have hz20 : (t).size ≤ 20:=by
   rcases HTZ.out with h1 | h1
   ·rw [h1];decide
   ·have h2:=h1.2.1;omega
  have hzn : ¬ t = ⟨#[]⟩ → NameOk t:=fun h9 => HTZ.out.resolve_left h9;have HZN:=hidK hzn;clear hzn;refine (imake_any x.n x.z x.k x.x x.v k.n k.x k.y k.z t _ (by omega) (by omega) hxv HZK.out.1 HZK.out.2 (by omega)).mono ?_;rintro e w2 ⟨n0,c0,z0,k0,x0,m0,p0,rfl,hIs,hb⟩;obtain ⟨HA0,hbx⟩:=slots1 hb;replace Bs:=upK Bs hbx;replace Br:=upK Br hbx;have Bc:=hidK HA0;replace HB:=upB HB hbx;clear hb hbx HA0
  have hmay : MayV x k t ↔ ¬ t = ⟨#[]⟩ ∧ MakeM x.n x.k x.v k.n k.z (t):=by unfold MayV;rw [← HZO.out]
  have HMY:=hidK hmay;clear hmay
  rcases hIs with ⟨h,-,-⟩ | ⟨-,h,hz,rfl⟩ | ⟨-,-,h,hz,rfl⟩ | ⟨-,hR,hM,hz,rfl⟩
  ·omega
  ·have HNM : Hid (¬ MayV x k t):=fun h9 => h ⟨HXO.out,HKO.out,HZN.out (HMY.out.1 h9).1⟩;obtain ⟨rfl,rfl,rfl,rfl,rfl,rfl⟩:=hz;clear h;have ev:=(HE.out.below HB.out).v2;have evl2:=cell_lt ev;have evl:=cell_lt HE.out.v2
   have evn : ¬ 2 = w.heap.size + 1:=by omega
   obtain ⟨r0,r1,r2,r3,r4,r5,r6,r7⟩:=cs8 Br.out;have ltr_2:=lt_of_some Br.out;have fr0:=froK Br.out 0;have fr1:=froK Br.out 1;have fr2:=froK Br.out 2;have fr3:=froK Br.out 3;have fr4:=froK Br.out 4;have fr5:=froK Br.out 5;have fr6:=froK Br.out 6;have fr7:=froK Br.out 7;have hrl : w.heap.size + 1 < w2.heap.size:=lt_of_some Br.out
   go_wp2
   go_region
   go_wp2
   exact bodyPost_ret (v:=.tuple #[.agg #[.string ⟨#[]⟩,.int .i64 0,.string ⟨#[]⟩,.string ⟨#[]⟩,.bool false,.string ⟨#[]⟩,.bool false,.slice none 0 0],.iface 216 (.pointer (some (E 2)))]) (by simp [results,Tryz.results67,go_sem, *]) rfl ⟨Below.drewn (Below.alloc (sb1 (sb1 (sb1 (sb1 (sb1 (sb1 (sb1 (sb1 (HB.out))))))))) (by simp [World.setCell];have:=HB.out.size;omega) _),.inl ⟨HNM.out,rfl⟩⟩
  ·have HNM : Hid (¬ MayV x k t):=fun h9 => h (HMY.out.1 h9).2;obtain ⟨rfl,rfl,rfl,rfl,rfl,rfl⟩:=hz;clear h;have ev:=(HE.out.below HB.out).v2;have evl2:=cell_lt ev;have evl:=cell_lt HE.out.v2
   have evn : ¬ 2 = w.heap.size + 1:=by omega
   obtain ⟨r0,r1,r2,r3,r4,r5,r6,r7⟩:=cs8 Br.out;have ltr_2:=lt_of_some Br.out;have fr0:=froK Br.out 0;have fr1:=froK Br.out 1;have fr2:=froK Br.out 2;have fr3:=froK Br.out 3;have fr4:=froK Br.out 4;have fr5:=froK Br.out 5;have fr6:=froK Br.out 6;have fr7:=froK Br.out 7;have hrl : w.heap.size + 1 < w2.heap.size:=lt_of_some Br.out
   go_wp2
   go_region
   go_wp2
   exact bodyPost_ret (v:=.tuple #[.agg #[.string ⟨#[]⟩,.int .i64 0,.string ⟨#[]⟩,.string ⟨#[]⟩,.bool false,.string ⟨#[]⟩,.bool false,.slice none 0 0],.iface 216 (.pointer (some (E 2)))]) (by simp [results,Tryz.results67,go_sem, *]) rfl ⟨Below.drewn (Below.alloc (sb1 (sb1 (sb1 (sb1 (sb1 (sb1 (sb1 (sb1 (HB.out))))))))) (by simp [World.setCell];have:=HB.out.size;omega) _),.inl ⟨HNM.out,rfl⟩⟩
  have HMV : Hid (MayV x k t):=HMY.out.2 ⟨fun h9 => by have h1:=hR.2.2.1;rw [h9] at h1;exact absurd h1 (by decide),hM⟩;obtain ⟨rfl,rfl,hz0,rfl,rfl,rfl⟩:=hz;replace hz0:=hz0.symm;subst hz0;clear hR hM;obtain ⟨r0,r1,r2,r3,r4,r5,r6,r7⟩:=cs8 Br.out;have ltr_2:=lt_of_some Br.out;obtain ⟨s0,s1,s2,s3,s4,s5,s6,s7,s8,s9,s10,s11⟩:=cs12B Bs.out;have lts:=lt_of_some Bs.out;go_wp2_with fail;clear s0 s1 s2 s3 s4 s5 s6 s7 s8 s9 s10 s11 lts;clear r0 r1 r2 r3 r4 r5 r6 r7 ltr_2;obtain ⟨W,hW0⟩ : ∃ W,W = w2.alloc (.cells #[.string (wMade ++ x.n),.int .i64 x.z,.string t,.string x.k,.bool x.x,.string x.n,.bool false,.slice none 0 0,.int .i64 0] 141):=⟨_,rfl⟩;have BsW:=hidK ((Below.heap_alloc w2 (.cells #[.string (wMade ++ x.n),.int .i64 x.z,.string t,.string x.k,.bool x.x,.string x.n,.bool false,.slice none 0 0,.int .i64 0] 141) _ (lt_of_some Bs.out)).trans Bs.out);have BrW:=hidK ((Below.heap_alloc w2 (.cells #[.string (wMade ++ x.n),.int .i64 x.z,.string t,.string x.k,.bool x.x,.string x.n,.bool false,.slice none 0 0,.int .i64 0] 141) _ (lt_of_some Br.out)).trans Br.out);have BfW:=hidK (heap_alloc_new w2 (.cells #[.string (wMade ++ x.n),.int .i64 x.z,.string t,.string x.k,.bool x.x,.string x.n,.bool false,.slice none 0 0,.int .i64 0] 141));have HBW:=hidK (HB.out.trans ((below1 w2 (.cells #[.string (wMade ++ x.n),.int .i64 x.z,.string t,.string x.k,.bool x.x,.string x.n,.bool false,.slice none 0 0,.int .i64 0] 141)).mono HB.out.size));rw [← hW0] at BsW BrW BfW HBW ⊢
  have h28 : c.vs.length ≤ 9223372036854775807:=by have:=HT.out.sm.v;omega
  clear hW0;rename_i K0 hK0;refine Gu.wp_region_grow_two (by kernel_rfl) rfl rfl rfl (by kernel_rfl) ?_;refine' Gu.Grow.stepC _ rfl ?_ ?_;rotate_left 1
  ·refine Obl.plain rfl ?_;intro ac wg K hsz hW hf hK;clear hsz;have e7:=hf 7 (by decide)
   simp [slotFact,List.lookup] at e7
   clear hf;go_simp;refine hK _ _ (Below.refl _ _) ?_;with_reducible rfl
  refine' Gu.Grow.stepC _ rfl ?_ ?_;rotate_left 1
  ·refine Obl.plain rfl ?_;intro ac wg K hsz hW hf hK;clear hsz;have e33:=hf 33 (by decide)
   simp [slotFact,List.lookup] at e33
   clear hf;obtain ⟨f0,f1,f2,f3,f4,f5,f6,f7,f8⟩:=cs9B ((hW.block _ (lt_of_some BfW.out)).trans BfW.out);go_simp;refine hK _ _ (Below.refl _ _) ?_;with_reducible rfl
  refine' Gu.Grow.stepC _ rfl ?_ ?_;rotate_left 1
  ·refine Obl.plain rfl ?_;intro ac wg K hsz hW hf hK;clear hsz;have e1:=hf 1 (by decide)
   simp [slotFact,List.lookup] at e1
   clear hf;go_simp;refine hK _ _ (Below.refl _ _) ?_;with_reducible rfl
  refine' Gu.Grow.stepC _ rfl ?_ ?_;rotate_left 1
  ·refine Obl.plain rfl ?_;intro ac wg K hsz hW hf hK;clear hsz;have e35:=hf 35 (by decide)
   simp [slotFact,List.lookup] at e35
   clear hf;go_simp;refine hK _ _ (Below.refl _ _) ?_;with_reducible rfl
  refine' Gu.Grow.stepC _ rfl ?_ ?_;rotate_left 1
  ·refine Obl.plain rfl ?_;intro ac wg K hsz hW hf hK;clear hsz;have e36:=hf 36 (by decide)
   simp [slotFact,List.lookup] at e36
   clear hf;obtain ⟨s0,s1,s2,s3,s4,s5,s6,s7,s8,s9,s10,s11⟩:=cs12B ((hW.block _ (lt_of_some BsW.out)).trans BsW.out);go_simp;refine hK _ _ (Below.refl _ _) ?_;with_reducible rfl
  refine' Gu.Grow.stepC _ rfl ?_ ?_;rotate_left 1
  ·refine Obl.plain rfl ?_;intro ac wg K hsz hW hf hK;clear hsz;have e7:=hf 7 (by decide)
   simp [slotFact,List.lookup] at e7
   clear hf;go_simp;refine hK _ _ (Below.refl _ _) ?_;with_reducible rfl
  refine' Gu.Grow.stepC _ rfl ?_ ?_;rotate_left 1
  ·refine Obl.plain rfl ?_;intro ac wg K hsz hW hf hK;clear hsz;have e38:=hf 38 (by decide)
   simp [slotFact,List.lookup] at e38
   clear hf;go_simp;refine hK _ _ (Below.refl _ _) ?_;with_reducible rfl
  refine' Gu.Grow.stepC _ rfl ?_ ?_;rotate_left 1
  ·refine Obl.plain rfl ?_;intro ac wg K hsz hW hf hK;clear hsz;have e39:=hf 39 (by decide)
   simp [slotFact,List.lookup] at e39
   clear hf;obtain ⟨f0,f1,f2,f3,f4,f5,f6,f7,f8⟩:=cs9B ((hW.block _ (lt_of_some BfW.out)).trans BfW.out);go_simp;refine hK _ _ (Below.refl _ _) ?_;with_reducible rfl
  refine Gu.Grow.step (ErF c x E) rfl (ErF.mono c x E) ?_ ?_
  ·refine Obl.plain rfl ?_;intro ac wg K hsz hW hf hK;clear hsz;have e37:=hf 37 (by decide)
   simp [slotFact,List.lookup] at e37
   have e40:=hf 40 (by decide)
   simp [slotFact,List.lookup] at e40
   clear hf;go_simp;refine (refvd_any d.a3 d.l3 d.c3 c.vs (wMade ++ x.n) 8 E _ (HR.out.v.below (HBW.out.trans (hW.mono HBW.out.size))) (HE.out.below (HBW.out.trans (hW.mono HBW.out.size)))).mono ?_;rintro e w6 ⟨hb6,hf6⟩
   rcases hf6 with ⟨i,hi9,hwhy,rfl⟩ | ⟨hok,rfl⟩
   ·exact hK _ _ hb6 (.inl ⟨i,hi9,hwhy.imp id (fun h9 => ⟨h9.1,h9.2.1,by omega⟩),rfl⟩)
   ·exact hK _ _ hb6 (.inr ⟨hok.1,hok.2,rfl⟩)
  refine Gu.Grow.done ?_;intro q wz hW hf;simp only [List.forall_mem_cons] at hf;obtain ⟨h41,h40,h39,h38,h37,h36,h35,h34,h33,-⟩:=hf;obtain ⟨v9,hv9⟩ : ∃ v9,q 41 = v9:=⟨_,rfl⟩
  have h41' : ErF c x E v9 wz:=by rw [← hv9];exact h41
  have HER:=hidK h41';have HWZ:=hidK hW;have Br6:=upK BrW hW;clear h41 h41' hW;obtain ⟨r0,r1,r2,r3,r4,r5,r6,r7⟩:=cs8 Br6.out;have fr0:=froK Br6.out 0;have fr1:=froK Br6.out 1;have fr2:=froK Br6.out 2;have fr3:=froK Br6.out 3;have fr4:=froK Br6.out 4;have fr5:=froK Br6.out 5;have fr6:=froK Br6.out 6;have fr7:=froK Br6.out 7;have hrl:=lt_of_some Br6.out;intro K hK;rw [if_pos (by rfl)];simp only [putsAll,List.foldr,Act.put,List.setIfInBounds_toArray,List.set_cons_zero,List.set_cons_succ,h40,h39,h38,h37,h36,h35,h34,h33,hv9];go_simp;refine hK _ _ ?_;clear hK K;intro K hK;rw [if_pos (by rfl)];go_simp;refine hK _ _ ?_;refine hK0 _ _ ?_;clear hK hK0 K K0
  go_wp2
  rcases HER.out with ⟨i,hi9,hwhy,rfl⟩ | ⟨hh,h8,rfl⟩
  ·exact bodyPost_ret (v:=.tuple #[.agg #[.string (wMade ++ x.n),.int .i64 x.z,.string t,.string x.k,.bool x.x,.string x.n,.bool false,.slice none 0 0],.iface 216 (.pointer (some (E i)))]) (by simp [results,Tryz.results67,go_sem, *]) rfl ⟨sb1 (sb1 (sb1 (sb1 (sb1 (sb1 (sb1 (sb1 (HBW.out.trans (HWZ.out.mono HBW.out.size))))))))),.inr ⟨HMV.out,.inl ⟨i,hi9,hwhy,rfl⟩⟩⟩
  ·exact bodyPost_ret (v:=.tuple #[.agg #[.string (wMade ++ x.n),.int .i64 x.z,.string t,.string x.k,.bool x.x,.string x.n,.bool false,.slice none 0 0],.nilIface]) (by simp [results,Tryz.results67,go_sem, *]) rfl ⟨sb1 (sb1 (sb1 (sb1 (sb1 (sb1 (sb1 (sb1 (HBW.out.trans (HWZ.out.mono HBW.out.size))))))))),.inr ⟨HMV.out,.inr ⟨hh,h8,rfl⟩⟩⟩

theorem insxd_any (a : Option Addr) (n cap i base vb : Nat) (X ys : List Value) (w : World) (ho : w.ownsRow base 55 5 (.slice a n cap) n X) (hn : n ≤ 8) (hin : i ≤ n) (hbs : base ≤ w.heap.size) (hy : w.heap[vb]? = some (.cells ys.toArray 55 (0,0))) (hyl : ys.length = 5) (hy1 : ∀ u ∈ ys,u.oneCell' = true) (hX1 : ∀ u ∈ X,u.oneCell' = true) (hne : ∀ g,a = some ⟨g,0,none⟩ → ¬ vb = g) :
  Calls Tryz.prog 158 #[.slice a n cap,.int .i64 i,.slice (some ⟨vb,0,none⟩) 1 1] w fun e w' => ∃ v',e = .returned v' ∧ w'.ownsRow base 55 5 v' (n + 1) (X.take (i * 5) ++ ys ++ X.drop (i * 5)) ∧ w.grownBy w' ((.slice a n cap : Value).ownBlock):=by
 obtain ⟨i0,hi,hz0,hz1,hz2⟩:=info_parts infoxd;have HI0:=hidK (And.intro hi (And.intro hz0 (And.intro hz1 hz2)));clear hi hz0 hz1 hz2;have hXl : X.length = n * 5:=ho.1
 have hnc : n ≤ cap ∧ cap ≤ 9223372036854775807:=by
  rcases ho.2 with ⟨h1,h2⟩ | ⟨g,cp,cur,h1,_,_,h4,h5,_⟩
  ·cases h1;omega
  ·cases h1;unfold maxLen at h5;omega
 have hyn : ∀ (j : Nat) u,ys[j]? = some u → w.cell? ((⟨vb,0,none⟩ : Addr).add j) = some u:=fun j u hu => by
  rw [Addr.add_lit,cellK hy,Nat.zero_add]
  simpa using hu
 have HYN:=hidK hyn;have HO:=hidK ho;have HY:=hidK hy;have hvl : vb < w.heap.size:=lt_of_some hy;have HX1:=hidK hX1;have HY1:=hidK hy1;clear hyn ho hy hX1 hy1
 by_cases hie : i = n
 ·subst hie
  have e1 : X.take (i * 5) ++ ys ++ X.drop (i * 5) = X ++ ys:=by rw [List.take_of_length_le (by omega),List.drop_of_length_le (by omega),List.append_nil]
  rw [e1];clear e1;have hc0 : i ≤ cap:=hnc.1;have hq : cap = i ∨ ¬ cap = i:=Classical.em _
  rcases hq with rfl | hcap
  ·go_enter Tryz.func158,Tryz.ntmps158
   go_wp2_with (first | (at_builtin;refine wpList_append_two rfl _ _ 135 33 rfl base 55 55 i0 (.agg #[.string ⟨#[]⟩,.int .i64 0,.string ⟨#[]⟩,.bool false,.string ⟨#[]⟩]) 5 64 Tryz.underlying135 Tryz.underlying33 HI0.out.1 HI0.out.2.1 HI0.out.2.2.1 HI0.out.2.2.2 rfl (by decide) _ _ _ rfl HO.out ⟨vb,0,none⟩ 1 1 ys rfl (by omega) HYN.out HY1.out (by unfold maxLen;omega) (by omega) hbs ?_))
   intro v' w' h1 h2;have H1:=hidK h1;have H2:=hidK h2;clear h1 h2
   go_wp2
   go_ret;exact ⟨v',rfl,H1.out,H2.out⟩
  ·go_enter Tryz.func158,Tryz.ntmps158
   go_wp2_with (first | (at_builtin;refine wpList_append_two rfl _ _ 135 33 rfl base 55 55 i0 (.agg #[.string ⟨#[]⟩,.int .i64 0,.string ⟨#[]⟩,.bool false,.string ⟨#[]⟩]) 5 64 Tryz.underlying135 Tryz.underlying33 HI0.out.1 HI0.out.2.1 HI0.out.2.2.1 HI0.out.2.2.2 rfl (by decide) _ _ _ rfl HO.out ⟨vb,0,none⟩ 1 1 ys rfl (by omega) HYN.out HY1.out (by unfold maxLen;omega) (by omega) hbs ?_))
   intro v' w' h1 h2;have H1:=hidK h1;have H2:=hidK h2;clear h1 h2
   go_wp2
   go_ret;exact ⟨v',rfl,H1.out,H2.out⟩
 have hil : i < n:=by omega
 obtain ⟨g,cur,rfl,hbg,hg,hcs,htk⟩ : ∃ g cur,a = some ⟨g,0,none⟩ ∧ base ≤ g ∧ w.heap[g]? = some (.cells cur 55 (0,0)) ∧ cur.size = cap * 5 ∧ cur.toList.take (n * 5) = X:=by
  rcases HO.out.2 with ⟨h1,h2⟩ | ⟨g,cp,cur,h1,h2,h3,h4,h5,h6,h7⟩
  ·cases h1;omega
  ·cases h1;exact ⟨g,cur,rfl,h2,h3,h6,h7⟩
 have hvg : ¬ vb = g:=hne g rfl;clear hne
 have hcell : ∀ (j : Nat) u,X[j]? = some u → w.cell? ⟨g,j,none⟩ = some u:=fun j u hj => by
  rw [cellK hg];rw [← htk,List.getElem?_take] at hj
  split at hj
  ·simpa using hj
  ·cases hj
 have hdl : (X.drop (i * 5)).length = (n - i) * 5:=by rw [List.length_drop,hXl,Nat.sub_mul]
 have hgl : g < w.heap.size:=lt_of_some hg
 by_cases hroom : n + 1 ≤ cap
 ·have hcp1 : ∀ ty dc sc,(Builtin.copy_ #[135,135] ty #[.slice (some ⟨g,(i + 1) * 5,none⟩) (n - i) dc,.slice (some ⟨g,i * 5,none⟩) (n + 1 - i) sc]).run Tryz.prog w.drew = .ok (goInt (Nat.min (n + 1 - i) (n - i))) (w.drew.setRow g (cur.toList.take ((i + 1) * 5) ++ X.drop (i * 5) ++ cur.toList.drop ((i + 1) * 5 + (X.drop (i * 5)).length)).toArray):=fun ty dc sc =>
   run_copy_rec w.drew 135 135 ty 55 g ((i + 1) * 5) (n - i) dc ⟨g,i * 5,none⟩ (n + 1 - i) sc 5 cur 55 (X.drop (i * 5)) i0 Tryz.underlying135 HI0.out.1 HI0.out.2.2.1 hg (by rw [hdl];simp only [Nat.min_def];split <;> omega) (fun j u hj => by
    rw [List.getElem?_drop] at hj;rw [Addr.add_lit]
    exact hcell _ u hj) (by rw [hdl,hcs];omega) (fun u hu => HX1.out u (List.mem_of_mem_drop hu))
  obtain ⟨cur1,hcur1⟩ : ∃ c1 : List Value,c1 = cur.toList.take ((i + 1) * 5) ++ X.drop (i * 5) ++ cur.toList.drop ((i + 1) * 5 + (X.drop (i * 5)).length):=⟨_,rfl⟩;rw [← hcur1] at hcp1
  have hc1l : cur1.length = cap * 5:=by rw [hcur1];simp only [List.length_append,List.length_take,List.length_drop,hXl,Array.length_toList,hcs];omega
  obtain ⟨W1,hW1⟩ : ∃ W1,W1 = w.drew.setRow g cur1.toArray:=⟨_,rfl⟩;rw [← hW1] at hcp1
  have hg1 : W1.heap[g]? = some (.cells cur1.toArray 55 (0,0)):=by rw [hW1];exact setRow_heap w.drew g _ _ 55 _ hg
  have hv1 : W1.heap[vb]? = w.heap[vb]?:=by rw [hW1];exact setRow_other w.drew g vb _ hvg
  have hcp2 : ∀ ty dc,(Builtin.copy_ #[135,33] ty #[.slice (some ⟨g,i * 5,none⟩) (n + 1 - i) dc,.slice (some ⟨vb,0,none⟩) 1 1]).run Tryz.prog W1 = .ok (goInt (Nat.min 1 (n + 1 - i))) (W1.setRow g (cur1.take (i * 5) ++ ys ++ cur1.drop (i * 5 + ys.length)).toArray):=fun ty dc => by
   have:=run_copy_rec W1 135 33 ty 55 g (i * 5) (n + 1 - i) dc ⟨vb,0,none⟩ 1 1 5 cur1.toArray 55 ys i0 Tryz.underlying135 HI0.out.1 HI0.out.2.2.1 hg1 (by rw [hyl];simp only [Nat.min_def];split <;> omega) (fun j u hj => by
    rw [Addr.add_lit,cellK (hv1.trans HY.out),Nat.zero_add]
    simpa using hj) (by simp only [List.size_toArray];rw [hc1l,hyl];omega) HY1.out
   simpa using this
  have hov : ∀ lb cb,(callFunc 177 #[.slice (some ⟨vb,0,none⟩) 1 1,.slice (some ⟨g,(i + 1) * 5,none⟩) lb cb]).run Tryz.prog w = .ok (.value (.bool false)) w:=fun lb cb => by
   rw [run_callFunc_extern Tryz.func177 (by kernel_rfl) (by kernel_rfl) (by kernel_rfl) (e:=Extern.SlicesOverlaps.overlaps #[33,33] #[4]) (by kernel_rfl),
    Lib.run_overlaps_apart w 33 4 55 Tryz.underlying33 5 (fun w => by kernel_rfl) ⟨vb,0,none⟩ ⟨g,(i + 1) * 5,none⟩ 1 1 lb cb hvg 55 55 ys.toArray.size cur.size (by simp [World.shape?,HY.out]) (by simp [World.shape?,hg]) (Nat.ne_of_gt (by rw [hcs];omega)) (froK HY.out _) (froK HY.out _)]
   rfl
  have hb2 : ¬ cap = i + 1:=by omega
  have hb4 : ¬ cap = i:=by omega
  have hb5 : ¬ ((i : Int) = (n : Int)):=by omega
  have hb6 : ¬ ((cap : Int) < (n : Int) + 1):=by omega
  have mixed : Tryz.prog.follows .mixedOrders = true:=by kernel_rfl
  have hw1 : IntKind.i64.wrap ((i : Int) + 1) = (i : Int) + 1:=by rw [IntKind.wrap_i64];omega
  have hb1 : (0 : Int) ≤ (i : Int) + 1:=by omega
  have hin : i ≤ n:=by omega
  have htn : ((i : Int) + 1).toNat = i + 1:=by omega
  have hb3 : (i : Int) ≤ (n : Int) + 1:=by omega
  have u0:=run_underlying Tryz.underlying135;have HG:=hidK hg;have HG1:=hidK hg1;have HW1:=hidK hW1;have HC1:=hidK hcur1;have HTK:=hidK htk;clear hg hg1 hW1 hcur1 htk hv1 hcell hdl hie
  go_enter Tryz.func158,Tryz.ntmps158
  go_wp2_with (simp only [hov])
  go_region_law_o (refine step_copy_run rfl _ _ 135 135 rfl _ _ (by simp [Act.eval,Act.put]) (by simp [Act.eval,Act.put]) (hcp1 (3) (cap - (i + 1)) (cap - i)) ?_)
  go_wp2_with (at_builtin;refine wpList_copy_run _ rfl _ _ 135 33 rfl _ _ rfl rfl (hcp2 _ _) ?_)
  go_ret;refine ⟨_,rfl,⟨?_,Or.inr ⟨g,cap,(cur1.take (i * 5) ++ (ys ++ cur1.drop (i * 5 + 5))).toArray,rfl,hbg,setRow_heap W1 g _ _ _ _ HG1.out,hroom,by unfold maxLen;omega,?_,?_⟩⟩,?_⟩
  ·simp only [List.length_append,List.length_take,List.length_drop]
   omega
  ·simp only [List.size_toArray,List.length_append,List.length_take,List.length_drop,hc1l]
   omega
  ·have e:=ins_list (a:=i * 5) (b:=n * 5) (c:=cap * 5) (m:=5) (c1:=cur1) HTK.out (by rw [Array.length_toList,hcs]) (by omega) (by omega) hyl (by rw [HC1.out,show (i + 1) * 5 = i * 5 + 5 by omega]);rw [show (n + 1) * 5 = n * 5 + 5 by omega]
   simpa using e
  ·have h1 : w.grownBy w.drew (some g):=⟨rfl,rfl,rfl,Nat.le_refl _,fun _ _ _ => rfl⟩
   have h2 : w.drew.grownBy W1 (some g):=by rw [HW1.out];exact grown_setRow w.drew g _
   exact (h1.trans h2).trans (grown_setRow W1 g _)
 have hcn : cap = n:=by omega
 subst hcn;obtain ⟨N,hN⟩ : ∃ N,N = w.heap.size:=⟨_,rfl⟩;obtain ⟨G,hG⟩ : ∃ G,G = grownCap w (cap + 1) cap 55:=⟨_,rfl⟩;obtain ⟨ROW,hROW⟩ : ∃ R : Array Value,R = (X.take (i * 5)).toArray ++ Builtin.zeroCells (.agg #[.string ⟨#[]⟩,.int .i64 0,.string ⟨#[]⟩,.bool false,.string ⟨#[]⟩] : Value).cells (cap + 1 - i) ++ Builtin.zeroCells (.agg #[.string ⟨#[]⟩,.int .i64 0,.string ⟨#[]⟩,.bool false,.string ⟨#[]⟩] : Value).cells (G - (cap + 1)):=⟨_,rfl⟩;obtain ⟨W1,hW1⟩ : ∃ W1,W1 = w.drew.alloc (.cells ROW 55):=⟨_,rfl⟩
 have hGn : cap + 1 ≤ G:=by rw [hG];exact grownCap_ge w _ _ _
 have hG63 : G ≤ 9223372036854775807:=by
  have:=grownCap_le_maxLen w (cap + 1) cap 55 (by unfold maxLen;omega);rw [← hG] at this;unfold maxLen at this
  omega
 have hRs : ROW.size = G * 5:=by
  rw [hROW];simp only [Array.size_append,List.size_toArray,List.length_take,size_zeroCells,hXl];rw [show (.agg #[.string ⟨#[]⟩,.int .i64 0,.string ⟨#[]⟩,.bool false,.string ⟨#[]⟩] : Value).cells.size = 5 from rfl]
  omega
 have hRt : ROW.toList.take (i * 5) = X.take (i * 5):=by
  rw [hROW,Array.toList_append,Array.toList_append,List.append_assoc];exact List.take_left' (by rw [List.length_take];omega)
 have hrz : ∀ ty,(Builtin.append_ #[135,3] ty #[.slice (some ⟨g,0,none⟩) i cap,.int .i64 ((cap : Int) + 1 - (i : Int))]).run Tryz.prog w = .ok (.slice (some ⟨N,0,none⟩) (cap + 1) G) W1:=fun ty => by
  have hold : (Builtin.firstCells i0.size i (.slice (some ⟨g,0,none⟩) i cap)).run Tryz.prog w.drew = .ok (X.take (i * 5)).toArray w.drew:=by
   rw [HI0.out.2.2.1]
   exact run_firstCells_some w.drew 5 i ⟨g,0,none⟩ i cap (X.take (i * 5)) (by rw [List.length_take];omega) (fun j v hj => by
    rw [Addr.add_lit,Nat.zero_add];rw [List.getElem?_take] at hj
    split at hj
    ·exact hcell j v hj
    ·cases hj)
  have h:=Lib.run_append_grow_zeros w 135 3 ty 55 i0 _ .i64 .i64 Tryz.underlying135 Tryz.underlying3 HI0.out.1 HI0.out.2.1 (some ⟨g,0,none⟩) i cap (X.take (i * 5)) hold (cap + 1 - i) (by omega) (by rw [HI0.out.2.2.1];decide) (by omega) (by omega) (by rw [HI0.out.2.2.2];omega) (by rw [HI0.out.2.2.2];exact growslice_fits (by omega) (by omega));rw [show i + (cap + 1 - i) = cap + 1 by omega,← hG,← hROW,← hW1,← hN] at h;rw [show (cap : Int) + 1 - (i : Int) = ((cap + 1 - i : Nat) : Int) by omega];exact h
 have hgN : W1.heap[N]? = some (.cells ROW 55 (0,0)):=by rw [hW1,hN];exact Go.heap_alloc_new w.drew _
 have hg1 : W1.heap[g]? = w.heap[g]?:=by rw [hW1];exact Go.heap_alloc_old w.drew _ hgl
 have hv1 : W1.heap[vb]? = w.heap[vb]?:=by rw [hW1];exact Go.heap_alloc_old w.drew _ hvl
 obtain ⟨R2,hR2⟩ : ∃ R2 : List Value,R2 = ROW.toList.take (i * 5) ++ ys ++ ROW.toList.drop (i * 5 + ys.length):=⟨_,rfl⟩;obtain ⟨W2,hW2⟩ : ∃ W2,W2 = W1.setRow N R2.toArray:=⟨_,rfl⟩
 have hcpA : ∀ ty dc,(Builtin.copy_ #[135,33] ty #[.slice (some ⟨N,i * 5,none⟩) (cap + 1 - i) dc,.slice (some ⟨vb,0,none⟩) 1 1]).run Tryz.prog W1 = .ok (goInt (Nat.min 1 (cap + 1 - i))) W2:=fun ty dc => by
  rw [hW2,hR2]
  exact run_copy_rec W1 135 33 ty 55 N (i * 5) (cap + 1 - i) dc ⟨vb,0,none⟩ 1 1 5 ROW 55 ys i0 Tryz.underlying135 HI0.out.1 HI0.out.2.2.1 hgN (by rw [hyl];simp only [Nat.min_def];split <;> omega) (fun j u hj => by
   rw [Addr.add_lit,cellK (hv1.trans HY.out),Nat.zero_add]
   simpa using hj) (by rw [hRs,hyl];omega) HY1.out
 have hR2l : R2.length = G * 5:=by
  rw [hR2];simp only [List.length_append,List.length_take,List.length_drop,Array.length_toList,hRs,hyl]
  omega
 have hgN2 : W2.heap[N]? = some (.cells R2.toArray 55 (0,0)):=by rw [hW2];exact setRow_heap W1 N _ _ 55 _ hgN
 have hgn : ¬ g = N:=by omega
 have hg2 : W2.heap[g]? = w.heap[g]?:=by rw [hW2,setRow_other W1 N g _ hgn];exact hg1
 obtain ⟨R3,hR3⟩ : ∃ R3 : List Value,R3 = R2.take ((i + 1) * 5) ++ X.drop (i * 5) ++ R2.drop ((i + 1) * 5 + (X.drop (i * 5)).length):=⟨_,rfl⟩;obtain ⟨W3,hW3⟩ : ∃ W3,W3 = W2.drew.setRow N R3.toArray:=⟨_,rfl⟩
 have hcpB : ∀ ty dc sc,(Builtin.copy_ #[135,135] ty #[.slice (some ⟨N,(i + 1) * 5,none⟩) (cap - i) dc,.slice (some ⟨g,i * 5,none⟩) (cap - i) sc]).run Tryz.prog W2.drew = .ok (goInt (Nat.min (cap - i) (cap - i))) W3:=fun ty dc sc => by
  have:=run_copy_rec W2.drew 135 135 ty 55 N ((i + 1) * 5) (cap - i) dc ⟨g,i * 5,none⟩ (cap - i) sc 5 R2.toArray 55 (X.drop (i * 5)) i0 Tryz.underlying135 HI0.out.1 HI0.out.2.2.1 hgN2 (by rw [hdl];simp only [Nat.min_def];split <;> omega) (fun j u hj => by
   rw [List.getElem?_drop] at hj;have hc:=hcell _ u hj;rw [Addr.add_lit];rw [← hc]
   exact World.cell?_of_block (w:=w) (w':=W2.drew) hg2) (by rw [hdl,List.size_toArray,hR2l];omega) (fun u hu => HX1.out u (List.mem_of_mem_drop hu))
  rw [hW3,hR3]
  simpa only [List.toList_toArray] using this
 have hW3o : ∀ k,¬ k = N → W3.heap[k]? = W1.heap[k]?:=fun k hk => by rw [hW3,setRow_other W2.drew N k _ hk];exact (congrArg (fun z : World => z.heap[k]?) hW2).trans (setRow_other W1 N k _ hk)
 have hfin : w.grownBy W3 (some g):=by
  have h0 : w.grownBy w.drew (some g):=⟨rfl,rfl,rfl,Nat.le_refl _,fun _ _ _ => rfl⟩
  have h1 : w.grownBy W1 (some g):=by rw [hW1];exact h0.trans (World.grownBy_alloc w.drew _ _)
  refine ⟨?_,?_,?_,?_,fun k hk hkg => (hW3o k (by omega)).trans (h1.block k hk hkg)⟩
  ·rw [hW3,hW2];exact h1.os
  ·rw [hW3,hW2];exact h1.tape
  ·rw [hW3,hW2];exact h1.output
  ·rw [hW3,hW2];exact Nat.le_trans h1.size (by simp [World.setRow])
 have hrow : W3.ownsRow base 55 5 (.slice (some ⟨N,0,none⟩) (cap + 1) G) (cap + 1) (X.take (i * 5) ++ ys ++ X.drop (i * 5)):=by
  refine ⟨?_,Or.inr ⟨N,G,R3.toArray,rfl,by omega,by rw [hW3];exact setRow_heap W2.drew N _ _ 55 _ hgN2,hGn,by unfold maxLen;omega,?_,?_⟩⟩
  ·simp only [List.length_append,List.length_take,List.length_drop]
   omega
  ·rw [hR3];simp only [List.size_toArray,List.length_append,List.length_take,List.length_drop,hR2l]
   omega
  ·have e:=grow_list (a:=i * 5) (b:=cap * 5) (m:=5) (R2:=R2) hRt hXl (by omega) hyl hR2 (R2.drop ((i + 1) * 5 + (X.drop (i * 5)).length));rw [hR3,show (cap + 1) * 5 = cap * 5 + 5 by omega,show (i + 1) * 5 = i * 5 + 5 by omega];rw [show (i + 1) * 5 = i * 5 + 5 by omega] at e
   simpa using e
 have hGi : ¬ G = i:=by omega
 have hGim : ¬ G = i + 1:=by omega
 have hci : ¬ cap = i:=by omega
 have hz2 : ¬ ((i : Int) = (cap : Int)):=by omega
 have hz3 : (cap : Int) < (cap : Int) + 1:=by omega
 have mixed : Tryz.prog.follows .mixedOrders = true:=by kernel_rfl
 have hw1 : IntKind.i64.wrap ((i : Int) + 1) = (i : Int) + 1:=by rw [IntKind.wrap_i64];omega
 have hb1 : (0 : Int) ≤ (i : Int) + 1:=by omega
 have hin : i ≤ cap:=by omega
 have htn : ((i : Int) + 1).toNat = i + 1:=by omega
 have hb3 : (i : Int) ≤ (cap : Int):=by omega
 have u0:=run_underlying Tryz.underlying135;have HF:=hidK (And.intro hrow hfin);clear hN hrow hfin hW3o hW3 hW2 hR3 hg2 hgN2 hR2l hR2 hv1 hg1 hgN hRt hRs hW1 hROW hG hcell hdl hie hg htk hcs HO
 go_enter Tryz.func158,Tryz.ntmps158
 go_wp2_with (first
  | (at_builtin;refine Lib.wpList_append_run _ rfl _ _ _ _ rfl _ _ rfl rfl _ _ (hrz _) ?_)
  | (at_builtin;refine wpList_copy_run _ rfl _ _ 135 33 rfl _ _ rfl rfl (hcpA _ _) ?_))

 go_region_law_o (refine step_copy_run rfl _ _ 135 135 rfl _ _ (by simp [Act.eval,Act.put]) (by simp [Act.eval,Act.put]) (hcpB 3 (G - (i + 1)) (cap - i)) ?_)
 go_wp2
 go_ret;exact ⟨_,rfl,HF.out.1,HF.out.2⟩

theorem clonexd_any (a : Option Addr) (n cap : Nat) (X : List Value) (w : World) (hn : n ≤ 8) (hXl : X.length = n * 5) (hX1 : ∀ u ∈ X,u.oneCell' = true) (hXc : ∀ (j : Nat) u,X[j]? = some u → ∃ g,a = some ⟨g,0,none⟩ ∧ w.cell? ⟨g,j,none⟩ = some u) :
  Calls Tryz.prog 159 #[.slice a n cap] w fun e w' => ∃ a' c',e = .returned (.slice a' n c') ∧ w'.ownsRow w.heap.size 55 5 (.slice a' n c') n X ∧ Below w.heap.size w w':=by
 obtain ⟨i0,hi,hz0,hz1,hz2⟩:=info_parts infoxd;have HI0:=hidK (And.intro hi (And.intro hz0 (And.intro hz1 hz2)));clear hi hz0 hz1 hz2;have HX1:=hidK hX1;have HXC:=hidK hXc;have heq : ∀ w : World,(binOp .eql 135 (.slice a n cap) (.slice none 0 0)).run Tryz.prog w = .ok (.bool a.isNone) w:=fun w => Lib.run_eql_slice_nil w 135 55 a n cap 0 0 Tryz.underlying135;clear hX1 hXc
 cases a with
 | none =>
  obtain rfl : X = []:=by
   rcases X with _ | ⟨u,X⟩
   ·rfl
   ·obtain ⟨g,e,_⟩:=HXC.out 0 u rfl
    cases e
  obtain rfl : n = 0:=by simp at hXl;omega
  go_enter Tryz.func159,Tryz.ntmps159
  go_wp2
  go_ret;exact ⟨none,0,rfl,World.ownsRow_nil _ _ _ _,Below.refl _ _⟩
 | some ad =>
  obtain ⟨ab,ao,asp⟩:=ad
  have hnew : ∀ (j : Nat) u,X[j]? = some u → (w.alloc (.cells #[] 55)).cell? ((⟨ab,ao,asp⟩ : Addr).add j) = some u:=fun j u hu => by
   obtain ⟨g,e,hc⟩:=HXC.out j u hu
   cases e
   rw [Addr.add_lit,Nat.zero_add];have hlt:=cell_lt hc;rw [← hc];exact World.cell?_of_block (heap_alloc_old w _ hlt)
  have HN:=hidK hnew;have HO : Hid ((w.alloc (.cells #[] 55)).ownsRow w.heap.size 55 5 (.slice (some ⟨w.heap.size,0,none⟩) 0 0) 0 []):=World.ownsRow_made w #[] 0 (Nat.le_refl _) (Nat.zero_le _) (by simp);clear hnew HXC
  go_enter Tryz.func159,Tryz.ntmps159
  go_wp2_with (at_builtin;refine wpList_append_two rfl _ _ 135 135 rfl w.heap.size 55 55 i0 (.agg #[.string ⟨#[]⟩,.int .i64 0,.string ⟨#[]⟩,.bool false,.string ⟨#[]⟩]) 5 64 Tryz.underlying135 Tryz.underlying135 HI0.out.1 HI0.out.2.1 HI0.out.2.2.1 HI0.out.2.2.2 rfl (by decide) _ _ _ rfl HO.out ⟨ab,ao,asp⟩ n cap X rfl hXl HN.out HX1.out (by unfold maxLen;omega) (by omega) (by simp) ?_)
  intro v' w' h1 h2
  obtain ⟨a',c',rfl⟩ : ∃ a' c',v' = .slice a' n c':=by
   rcases h1.2 with ⟨rfl,h0⟩ | ⟨g,cp,cu,rfl,_⟩
   ·exact ⟨none,0,by rw [h0]⟩
   ·exact ⟨_,_,rfl⟩
  have H1:=hidK h1;have H2:=hidK h2;clear h1 h2
  go_wp2
  go_ret;refine ⟨a',c',rfl,H1.out,((below1 w (.cells #[] 55)).grown H2.out (by simp) (fun g hg => ?_))⟩
  simp [Value.ownBlock] at hg
  omega

theorem withxd_any (a : Option Addr) (n cap : Nat) (xs : List Xd) (x : Xd) (hh : Nat) (Q Q2 : Nat → Prop) (w : World) (ho : ROwn w a n cap 5 55 (xs.map xdF) Q) (hn : n ≤ 8) (hxf : ∀ (i : Nat) f,(xdF x)[i]? = some f → ∃ v,[.string x.n,.int .i64 x.z,.string x.k,.bool x.x,.string x.v][i]? = some v ∧ f.Fr w hh Q2 v) (hq : ∀ k,Q k → Q2 k → False) :
  Calls Tryz.prog 104 #[.slice a n cap,.agg #[.string x.n,.int .i64 x.z,.string x.k,.bool x.x,.string x.v]] w fun e w' => ∃ a' l' c',e = .returned (.slice a' l' c') ∧ ROwn w' a' l' c' 5 55 ((inAt (pl Xd.n xs x.n) x xs).map xdF) (fun k => (Q k ∨ Q2 k) ∨ w.heap.size ≤ k) ∧ Below w.heap.size w w':=by
 have HR:=hidK ho.row
 have hxl : xs.length = n:=by simpa using ho.1
 obtain ⟨vss,H,hV,hcell⟩:=ho.recs
 have hvl : vss.length = n:=by rw [hV.len,List.length_map,hxl]
 have hfl : vss.flatten.length = n * 5:=by rw [flat_len hV.all,hvl]
 have HV:=hidK hV;have HC:=hidK hcell;have HF:=hidK hxf;have HQ:=hidK hq;clear ho hV hcell hxf hq
 have hmcalled : ∀ (v : Value) (w : World),(method 360 55 v "loop.example/g00571/impl.called").run Tryz.prog w = .ok (205,v) w:=fun _ _ => by kernel_rfl
 obtain ⟨j,hj⟩ : ∃ j,j = pl Xd.n xs x.n:=⟨_,rfl⟩
 have hjn : j ≤ n:=by rw [hj,← hxl];exact List.findIdx_le_length
 have HJ:=hidK hj
 have HFIN : Hid (∀ (w4 : World) v4 base,w.heap.size ≤ base → Below w.heap.size w w4 → w4.ownsRow base 55 5 v4 (n + 1) (vss.flatten.take (j * 5) ++ [.string x.n,.int .i64 x.z,.string x.k,.bool x.x,.string x.v] ++ vss.flatten.drop (j * 5)) → ∃ a' c',v4 = .slice a' (n + 1) c' ∧ ROwn w4 a' (n + 1) c' 5 55 ((inAt (pl Xd.n xs x.n) x xs).map xdF) (fun k => (Q k ∨ Q2 k) ∨ w.heap.size ≤ k)):=fun w4 v4 base hbs hB4 ho4 => by
  rw [← inAt_flat HV.out.all (by omega)] at ho4;have hV4:=(HV.out.below hB4).keep (w':=w4) (S':=fun k => (Q k ∨ Q2 k) ∨ w.heap.size ≤ k) (fun _ _ _ _ => rfl) (fun _ _ s => .inl (.inl s))
  obtain ⟨H4,hV5⟩:=hV4.ins (p:=j) (r:=xdF x) (vs:=[.string x.n,.int .i64 x.z,.string x.k,.bool x.x,.string x.v]) (hh:=fun _ => hh) rfl rfl (fun i f hf => by
   obtain ⟨v,h1,h2⟩:=HF.out i f hf
   exact ⟨v,h1,h2.keep (fun cu _ q => hB4.block _ (lt_of_some q)) (fun _ s => .inl (.inr s))⟩) (fun i zs h _ => by rcases i with _ | _ | _ | _ | _ | i <;> simp [xdF] at h) (fun i i2 zs zs2 h _ _ _ => by rcases i with _ | _ | _ | _ | _ | i <;> simp [xdF] at h) (by rw [List.length_map];omega)
  have h45 : VRecs w4 (fun k => (Q k ∨ Q2 k) ∨ w.heap.size ≤ k) 5 ((inAt j x xs).map xdF) (inAt j [.string x.n,.int .i64 x.z,.string x.k,.bool x.x,.string x.v] vss) H4:=by rw [inAt_map];exact hV5
  have hle : ((inAt j x xs).map xdF).length = n + 1:=by rw [List.length_map,inAt_len (by omega),hxl]
  obtain ⟨a',c',e,hR⟩:=h45.own ho4 hle.symm (by decide) (fun g hg => .inr (by have:=(ho4.lt g hg).1;omega));rw [hle] at e hR;rw [hj] at hR;exact ⟨a',c',e,hR⟩
 have HCL : Hid (∀ W,Below w.heap.size w W → ∀ (k : Nat) u,vss.flatten[k]? = some u → ∃ g,a = some ⟨g,0,none⟩ ∧ W.cell? ⟨g,k,none⟩ = some u):=fun W hW k u hu => by
  obtain ⟨g,h1,_,h3⟩:=HC.out k u hu;exact ⟨g,h1,(cell_below hW (cell_lt h3)).trans h3⟩
 have HV1:=hidK HV.out.one;clear HV HC HF HQ hj
 go_enter Tryz.func104,Tryz.ntmps104
 go_wp2_with fail;refine (calledxd_any x _).mono ?_;rintro e w1 ⟨rfl,hb1⟩;obtain ⟨hn1,hbx⟩:=slots1 hb1;have HN1:=hidK hn1;have HB1:=hidK hbx;clear hb1 hn1 hbx;go_wp2_with fail;refine (placexd_any a n cap xs x.n _ (HR.out.below HB1.out)).mono ?_;rintro e w2 ⟨rfl,hb2⟩;have HN2:=hidK ((hb2.block w.heap.size (lt_of_some HN1.out)).trans HN1.out);have HB2:=upB HB1 hb2;clear hb2 HN1 HB1;rw [← HJ.out]
 generalize hit Xd.n xs x.n = bb
 have hs2 : w.heap.size < w2.heap.size:=lt_of_some HN2.out;have HBD : Hid (Below w.heap.size w w2.drew):=Below.drewn HB2.out;obtain ⟨n0,n1,n2,n3,n4⟩:=cs5 (show w2.drew.heap[w.heap.size]? = _ from HN2.out)
 have hcl1 : Calls Tryz.prog 159 #[.slice a n cap] w2.drew fun e w3 => ∃ a3 c3,e = .returned (.slice a3 n c3) ∧ Hid (w3.ownsRow w2.heap.size 55 5 (.slice a3 n c3) n vss.flatten) ∧ Hid (Below w.heap.size w w3) ∧ w2.heap.size ≤ w3.heap.size ∧ w.heap.size < w3.heap.size ∧ w3.heap[w.heap.size]? = some (.cells #[.string x.n,.int .i64 x.z,.string x.k,.bool x.x,.string x.v] 55 (0,0)):=by
  refine (clonexd_any a n cap vss.flatten w2.drew hn hfl HV1.out (HCL.out _ HBD.out)).mono ?_;rintro e w3 ⟨a3,c3,rfl,ho3,hb3⟩;have hs3 : w2.heap.size ≤ w3.heap.size:=hb3.size;exact ⟨a3,c3,rfl,ho3,HBD.out.trans (hb3.mono HBD.out.size),hs3,by omega,(hb3.block w.heap.size hs2).trans (show w2.drew.heap[w.heap.size]? = _ from HN2.out)⟩
 have hcl2 : Calls Tryz.prog 159 #[.slice a n cap] (w2.alloc (.cells #[.string x.n,.int .i64 x.z,.string x.k,.bool x.x,.string x.v] 55)).drew fun e w3 => ∃ a3 c3,e = .returned (.slice a3 n c3) ∧ Hid (w3.ownsRow (w2.heap.size + 1) 55 5 (.slice a3 n c3) n vss.flatten) ∧ Hid (Below w.heap.size w w3) ∧ w2.heap.size + 1 ≤ w3.heap.size ∧ Hid (w3.heap[w2.heap.size]? = some (.cells #[.string x.n,.int .i64 x.z,.string x.k,.bool x.x,.string x.v] 55 (0,0))):=by
  have hbl:=Below.drewn (HB2.out.alloc HB2.out.size (.cells #[.string x.n,.int .i64 x.z,.string x.k,.bool x.x,.string x.v] 55))
  have hsz : (w2.alloc (.cells #[.string x.n,.int .i64 x.z,.string x.k,.bool x.x,.string x.v] 55)).drew.heap.size = w2.heap.size + 1:=by simp
  refine (clonexd_any a n cap vss.flatten _ hn hfl HV1.out (HCL.out _ hbl)).mono ?_;rintro e w3 ⟨a3,c3,rfl,ho3,hb3⟩;have hs3:=hb3.size;rw [hsz] at ho3 hs3;exact ⟨a3,c3,rfl,ho3,hbl.trans (hb3.mono hbl.size),hs3,(hb3.block w2.heap.size (by rw [hsz];omega)).trans (show (w2.alloc (.cells #[.string x.n,.int .i64 x.z,.string x.k,.bool x.x,.string x.v] 55)).drew.heap[w2.heap.size]? = _ from heap_alloc_new w2 _)⟩
 have hin1 : ∀ (w3 : World) a3 c3,w3.ownsRow w2.heap.size 55 5 (.slice a3 n c3) n vss.flatten → Below w.heap.size w w3 → w2.heap.size ≤ w3.heap.size → Calls Tryz.prog 158 #[.slice a3 n c3,.int .i64 j,.slice (some ⟨w3.heap.size,0,none⟩) 1 1] (w3.alloc (.cells #[.string x.n,.int .i64 x.z,.string x.k,.bool x.x,.string x.v] 55)) fun e w4 => ∃ a' c',e = .returned (.slice a' (n + 1) c') ∧ Hid (ROwn w4 a' (n + 1) c' 5 55 ((inAt (pl Xd.n xs x.n) x xs).map xdF) (fun k => (Q k ∨ Q2 k) ∨ w.heap.size ≤ k)) ∧ Hid (Below w.heap.size w w4):=fun w3 a3 c3 ho3 hB3 hs3 => by
  refine (insxd_any a3 n c3 j w2.heap.size w3.heap.size vss.flatten [.string x.n,.int .i64 x.z,.string x.k,.bool x.x,.string x.v] (w3.alloc (.cells #[.string x.n,.int .i64 x.z,.string x.k,.bool x.x,.string x.v] 55)) (ho3.alloc _) hn hjn (by simp;omega) (heap_alloc_new w3 _) rfl (by simp [Value.oneCell']) HV1.out (fun g hg e => by
   have h9:=(ho3.lt g (by rw [hg];rfl)).2
   omega)).mono ?_
  rintro e w4 ⟨v4,rfl,ho4,hg4⟩
  have hB5:=(hB3.alloc hB3.size (.cells #[.string x.n,.int .i64 x.z,.string x.k,.bool x.x,.string x.v] 55)).grown hg4 (by simp;omega) (fun g hg => by
   have h9:=(ho3.lt g hg).1
   omega)
  obtain ⟨a',c',rfl,hR⟩:=HFIN.out w4 v4 _ (by omega) hB5 ho4;exact ⟨a',c',rfl,hR,hB5⟩
 have hin2 : ∀ (w3 : World) a3 c3,w3.ownsRow (w2.heap.size + 1) 55 5 (.slice a3 n c3) n vss.flatten → Below w.heap.size w w3 → w2.heap.size + 1 ≤ w3.heap.size → w3.heap[w2.heap.size]? = some (.cells #[.string x.n,.int .i64 x.z,.string x.k,.bool x.x,.string x.v] 55 (0,0)) → Calls Tryz.prog 158 #[.slice a3 n c3,.int .i64 j,.slice (some ⟨w2.heap.size,0,none⟩) 1 1] w3 fun e w4 => ∃ a' c',e = .returned (.slice a' (n + 1) c') ∧ Hid (ROwn w4 a' (n + 1) c' 5 55 ((inAt (pl Xd.n xs x.n) x xs).map xdF) (fun k => (Q k ∨ Q2 k) ∨ w.heap.size ≤ k)) ∧ Hid (Below w.heap.size w w4):=fun w3 a3 c3 ho3 hB3 hs3 hy3 => by
  refine (insxd_any a3 n c3 j (w2.heap.size + 1) w2.heap.size vss.flatten [.string x.n,.int .i64 x.z,.string x.k,.bool x.x,.string x.v] w3 ho3 hn hjn hs3 hy3 rfl (by simp [Value.oneCell']) HV1.out (fun g hg e => by
   have h9:=(ho3.lt g (by rw [hg];rfl)).1
   omega)).mono ?_
  rintro e w4 ⟨v4,rfl,ho4,hg4⟩
  have hB5:=hB3.grown hg4 (by omega) (fun g hg => by
   have h9:=(ho3.lt g hg).1
   omega)
  obtain ⟨a',c',rfl,hR⟩:=HFIN.out w4 v4 _ (by omega) hB5 ho4;exact ⟨a',c',rfl,hR,hB5⟩
 have C1:=hidK hcl1;have C2:=hidK hcl2;have I1:=hidK hin1;have I2:=hidK hin2;clear hcl1 hcl2 hin1 hin2 HFIN HCL HR HJ HBD HB2
 have mixed : Tryz.prog.follows .mixedOrders = true:=by kernel_rfl
 go_wp2
 go_region_with (first
  | (go_at_call 159;refine C1.out.mono ?_;rintro e w3 ⟨a3,c3,rfl,HO3,HB3,hs3,hw3l,hx3⟩;obtain ⟨m0,m1,m2,m3,m4⟩:=cs5 hx3;clear hx3)
  | (go_at_call 159;refine C2.out.mono ?_;rintro e w3 ⟨a3,c3,rfl,HO3,HB3,hs3,HY3⟩)
  | (go_at_call 158;refine (I1.out w3 a3 c3 HO3.out HB3.out hs3).mono ?_;rintro e w4 ⟨a',c',rfl,HR5,HB5⟩)
  | (go_at_call 158;refine (I2.out w3 a3 c3 HO3.out HB3.out hs3 HY3.out).mono ?_;rintro e w4 ⟨a',c',rfl,HR5,HB5⟩))
 all_goals (
  go_wp2
  go_ret
  exact ⟨a',_,c',rfl,HR5.out,HB5.out⟩)

theorem below4 (w : World) (o p q r : Obj) : Below w.heap.size w ((((w.alloc o).alloc p).alloc q).alloc r):=(below3 w o p q).alloc (by simp;omega) r
theorem slots4 {w w' : World} {o p q r : Obj} (h : Below ((((w.alloc o).alloc p).alloc q).alloc r).heap.size ((((w.alloc o).alloc p).alloc q).alloc r) w') : w'.heap[w.heap.size]? = some o ∧ w'.heap[w.heap.size + 1]? = some p ∧ w'.heap[w.heap.size + 1 + 1]? = some q ∧ w'.heap[w.heap.size + 1 + 1 + 1]? = some r ∧ Below w.heap.size w w':=by
 obtain ⟨h1,h2⟩:=slots1 h;obtain ⟨h3,h4,h5,h6⟩:=slots3 h2;exact ⟨h3,h4,h5,by simpa using h1,h6⟩
def RoF (m : Nat) (T : TypeId) (rs : List (List Fv)) (S : Nat → Prop) : Fact:=fun v w => ∃ a l p,v = .slice a l p ∧ ROwn w a l p m T rs S
theorem RoF.mono (m : Nat) (T : TypeId) (rs : List (List Fv)) (S : Nat → Prop) : Fact.Mono (RoF m T rs S):=by
 rintro v w w' ⟨a,l,p,h1,h2⟩ hb;exact ⟨a,l,p,h1,h2.below hb⟩

theorem ipaired_any (d : Ad) (c : Cl) (x : Xd) (v : Vd) (va : Option Addr) (vl vc B : Nat) (w : World) (hr : ClRow w d c.raw) (hs : Sm c) (hv : TOwn w va vl vc v.zs (fun k => B ≤ k ∧ k < w.heap.size)) (hB : B ≤ w.heap.size) (z0 : x.n.size ≤ 9223372036854775807) (z2 : x.k.size ≤ 9223372036854775807) (y0 : v.n.size ≤ 9223372036854775807) (y2 : v.z.size ≤ 9223372036854775807) (y3 : v.k.size ≤ 9223372036854775807) :
  Calls Tryz.prog 68 #[.agg #[.slice d.a1 d.l1 d.c1,.slice d.a2 d.l2 d.c2,.slice d.a3 d.l3 d.c3,.slice d.a4 d.l4 d.c4,.slice d.a5 d.l5 d.c5,.int .i64 c.now],.agg #[.string x.n,.int .i64 x.z,.string x.k,.bool x.x,.string x.v],.agg #[.string v.n,.int .i64 v.c,.string v.z,.string v.k,.bool v.x,.string v.m,.bool v.y,.slice va vl vc]] w fun e w' => ∃ d',e = .returned (.agg #[.slice d'.a1 d'.l1 d'.c1,.slice d'.a2 d'.l2 d'.c2,.slice d'.a3 d'.l3 d'.c3,.slice d'.a4 d'.l4 d'.c4,.slice d'.a5 d'.l5 d'.c5,.int .i64 c.now]) ∧ ClOwn w' d' (pairC c (bdX x v.n) (bdV v x.n)).raw (fun k => B ≤ k) ∧ Below w.heap.size w w':=by
 have HR:=hidK hr;have HS:=hidK hs;have HV:=hidK hv;have HZ:=hidK (And.intro z0 (And.intro z2 (And.intro y0 (And.intro y2 y3))));have HB:=hidK (Below.refl w.heap.size w);clear hr hs hv z0 z2 y0 y2 y3
 go_enter Tryz.func68,Tryz.ntmps68
 go_wp2_with fail;refine (iownC_any d c _ (HR.out.below (below4 _ _ _ _ _)) HS.out).mono ?_;rintro e w1 ⟨d',rfl,ho,hb⟩;have HQ2:=hidK hb.size;simp only [size1] at HQ2 ho;obtain ⟨HA0,HA1,HA2,HA3,hbx⟩:=slots4 hb;have Bk:=hidK HA0;have Bx:=hidK HA1;have Bv:=hidK HA2;have Br:=hidK HA3;replace HB:=upB HB hbx;clear hb hbx HA0 HA1 HA2 HA3;obtain ⟨P,hP⟩:=ho;have HP:=hidK hP;have hq2 : w.heap.size + 1 + 1 + 1 + 1 ≤ w1.heap.size:=HQ2.out;clear hP;obtain ⟨W,hW0⟩ : ∃ W,W = w1.alloc (.cells #[.slice d'.a1 d'.l1 d'.c1,.slice d'.a2 d'.l2 d'.c2,.slice d'.a3 d'.l3 d'.c3,.slice d'.a4 d'.l4 d'.c4,.slice d'.a5 d'.l5 d'.c5,.int .i64 c.now] 36):=⟨_,rfl⟩
 have hWs : W.heap.size = w1.heap.size + 1:=by rw [hW0];simp
 have hb1 : Below w1.heap.size w1 W:=by rw [hW0];exact below1 _ _
 have HB1:=hidK hb1;have BxW:=upK Bx hb1;have BvW:=upK Bv hb1;have BrW:=upK Br hb1
 have BoW : Hid (W.heap[w1.heap.size]? = some (.cells #[.slice d'.a1 d'.l1 d'.c1,.slice d'.a2 d'.l2 d'.c2,.slice d'.a3 d'.l3 d'.c3,.slice d'.a4 d'.l4 d'.c4,.slice d'.a5 d'.l5 d'.c5,.int .i64 c.now] 36 (0,0))):=by rw [hW0];exact heap_alloc_new w1 (.cells #[.slice d'.a1 d'.l1 d'.c1,.slice d'.a2 d'.l2 d'.c2,.slice d'.a3 d'.l3 d'.c3,.slice d'.a4 d'.l4 d'.c4,.slice d'.a5 d'.l5 d'.c5,.int .i64 c.now] 36)
 have HBW:=upB HB hb1
 have hlx : d'.l4 ≤ 8:=by have h6:=HP.out.x.1;have h7 : (c.xs.map xdF).length = d'.l4:=h6;rw [List.length_map] at h7;have:=HS.out.x;omega
 have hlv : d'.l3 ≤ 8:=by have h6:=HP.out.v.1;have h7 : (c.vs.map vdF).length = d'.l3:=h6;rw [List.length_map] at h7;have:=HS.out.v;omega
 clear hb1;obtain ⟨x0,x1,x2,x3,x4⟩:=cs5 Bx.out;have ltx_1:=lt_of_some Bx.out;obtain ⟨v0,v1,v2,v3,v4,v5,v6,v7⟩:=cs8 Bv.out;have ltv_1:=lt_of_some Bv.out;go_wp2_with fail;clear x0 x1 x2 x3 x4 ltx_1 v0 v1 v2 v3 v4 v5 v6 v7 ltv_1;rw [← hW0];clear hW0;rename_i K0 hK0;refine Gt.wp_region_grow_last (by kernel_rfl) rfl rfl (by kernel_rfl) ?_;refine' Grow.stepC _ rfl ?_ ?_;rotate_left 1
 ·refine Obl.plain rfl ?_;intro ac wg K hsz hW hf hK;clear hsz;have e7:=hf 7 (by decide)
  simp [slotFact,List.lookup] at e7
  clear hf;go_simp;refine hK _ _ (Below.refl _ _) ?_;with_reducible rfl
 refine' Grow.stepC _ rfl ?_ ?_;rotate_left 1
 ·refine Obl.plain rfl ?_;intro ac wg K hsz hW hf hK;clear hsz;have e16:=hf 16 (by decide)
  simp [slotFact,List.lookup] at e16
  clear hf;obtain ⟨o0,o1,o2,o3,o4,o5⟩:=cs6 ((hW.block _ (lt_of_some BoW.out)).trans BoW.out);go_simp;refine hK _ _ (Below.refl _ _) ?_;with_reducible rfl
 refine' Grow.stepC _ rfl ?_ ?_;rotate_left 1
 ·refine Obl.plain rfl ?_;intro ac wg K hsz hW hf hK;clear hsz;have e4:=hf 4 (by decide)
  simp [slotFact,List.lookup] at e4
  clear hf;go_simp;refine hK _ _ (Below.refl _ _) ?_;with_reducible rfl
 refine' Grow.stepC _ rfl ?_ ?_;rotate_left 1
 ·refine Obl.plain rfl ?_;intro ac wg K hsz hW hf hK;clear hsz;have e18:=hf 18 (by decide)
  simp [slotFact,List.lookup] at e18
  clear hf;obtain ⟨x0,x1,x2,x3,x4⟩:=cs5 ((hW.block _ (lt_of_some BxW.out)).trans BxW.out);go_simp;refine hK _ _ (Below.refl _ _) ?_;with_reducible rfl
 refine Grow.step (RoF 5 55 ((wo Xd.n x.n c.xs).map xdF) (fun k => ((w.heap.size + 1 + 1 + 1 + 1 ≤ k ∧ P k = 4) ∧ k < w1.heap.size) ∨ w1.heap.size + 1 ≤ k)) rfl (RoF.mono _ _ _ _) ?_ ?_
 ·refine Obl.plain rfl ?_;intro ac wg K hsz hW hf hK;clear hsz;have e17:=hf 17 (by decide)
  simp [slotFact,List.lookup] at e17
  have e19:=hf 19 (by decide)
  simp [slotFact,List.lookup] at e19
  clear hf;go_simp;have hs6:=hW.size;refine (iwoxd_any d'.a4 d'.l4 d'.c4 c.xs x.n (fun k => (w.heap.size + 1 + 1 + 1 + 1 ≤ k ∧ P k = 4) ∧ k < w1.heap.size) _ (((HP.out.x.into (fun k hk s => ⟨s,hk⟩)).below HB1.out).below hW) hlx).mono ?_;rintro e w6 ⟨a2,l2,p2,rfl,ho6,hb6⟩;exact hK _ _ hb6 ⟨a2,l2,p2,rfl,ho6.into (fun k _ s => s.imp id (fun q => by have q1 : wg.heap.size ≤ k:=q;omega))⟩
 refine' Grow.stepC _ rfl ?_ ?_;rotate_left 1
 ·refine Obl.plain rfl ?_;intro ac wg K hsz hW hf hK;clear hsz;have e4:=hf 4 (by decide)
  simp [slotFact,List.lookup] at e4
  clear hf;obtain ⟨x0,x1,x2,x3,x4⟩:=cs5 ((hW.block _ (lt_of_some BxW.out)).trans BxW.out);go_simp;refine hK _ _ (Below.refl _ _) ?_;with_reducible rfl
 refine Grow.step (RoF 5 55 ((pairC c (bdX x v.n) (bdV v x.n)).xs.map xdF) (fun k => ((w.heap.size + 1 + 1 + 1 + 1 ≤ k ∧ P k = 4) ∧ k < w1.heap.size) ∨ w1.heap.size + 1 ≤ k)) rfl (RoF.mono _ _ _ _) ?_ ?_
 ·refine Obl.plain rfl ?_;intro ac wg K hsz hW hf hK;clear hsz;have e20:=hf 20 (by decide)
  simp [slotFact,List.lookup] at e20
  have e21:=hf 21 (by decide)
  simp [slotFact,List.lookup] at e21
  clear hf;obtain ⟨a2,l2,p2,e20,ho2⟩:=e20;go_simp;have hs6:=hW.size
  have hl2 : l2 ≤ 8:=by have h6:=ho2.1;rw [List.length_map] at h6;have h7:=wo_le Xd.n x.n c.xs;have:=HS.out.x;omega
  refine (withxd_any a2 l2 p2 (wo Xd.n x.n c.xs) (bdX x v.n) 0 _ (fun _ => False) _ ho2 hl2 (fun i f hf => by rcases i with _ | _ | _ | _ | _ | i <;> simp [xdF,bdX] at hf <;> subst hf;exact ⟨_,rfl,rfl,HZ.out.1⟩;exact ⟨_,rfl,rfl⟩;exact ⟨_,rfl,rfl,HZ.out.2.1⟩;exact ⟨_,rfl,rfl⟩;exact ⟨_,rfl,rfl,HZ.out.2.2.1⟩) (fun _ _ q => q)).mono ?_
  rintro e w6 ⟨a4,l4,p4,rfl,ho6,hb6⟩
  exact hK _ _ hb6 ⟨a4,l4,p4,rfl,ho6.into (fun k _ s => by
   rcases s with (s | s) | s
   ·exact s
   ·exact s.elim
   ·have q1 : wg.heap.size ≤ k:=s;exact .inr (by omega))⟩
 refine' Grow.stepC _ rfl ?_ ?_;rotate_left 1
 ·refine Obl.plain rfl ?_;intro ac wg K hsz hW hf hK;clear hsz;have e7:=hf 7 (by decide)
  simp [slotFact,List.lookup] at e7
  clear hf;go_simp;refine hK _ _ (Below.refl _ _) ?_;with_reducible rfl
 refine Grow.done ?_;intro q wz hW hf;simp only [List.forall_mem_cons] at hf;obtain ⟨h23,h22,h21,-,h19,h18,h17,h16,-⟩:=hf;obtain ⟨a4,l4,p4,hv22,ho22⟩:=h22;have HOX:=hidK ho22;have HWZ:=hidK hW;have BoZ:=upK BoW hW;obtain ⟨o0,o1,o2,o3,o4,o5⟩:=cs6 BoZ.out;have fo3:=froK BoZ.out 3;have hol:=lt_of_some BoZ.out;clear ho22;intro K hK;rw [if_pos (by rfl)];simp only [putsAll,List.foldr,Act.put,List.setIfInBounds_toArray,List.set_cons_zero,List.set_cons_succ,h23,h21,h19,h18,h17,h16,hv22];simp only [List.getLast];go_simp;refine hK _ _ ?_;refine hK0 _ _ ?_;clear hK hK0 K K0;obtain ⟨W2,hW2⟩ : ∃ W2,W2 = wz.setCell ⟨w1.heap.size,3,none⟩ (.slice a4 l4 p4):=⟨_,rfl⟩;rw [← hW2];have hzs:=HWZ.out.size
 have hW2s : W2.heap.size = wz.heap.size:=by rw [hW2];simp
 have hk2 : ∀ k,¬ k = w1.heap.size → W2.heap[k]? = wz.heap[k]?:=fun k h9 => by rw [hW2];exact Below.heap_setCell _ _ _ _ h9
 have Bo2 : Hid (W2.heap[w1.heap.size]? = some (.cells #[.slice d'.a1 d'.l1 d'.c1,.slice d'.a2 d'.l2 d'.c2,.slice d'.a3 d'.l3 d'.c3,.slice a4 l4 p4,.slice d'.a5 d'.l5 d'.c5,.int .i64 c.now] 36 (0,0))):=by
  have h9:=block_set (i:=3) BoZ.out (.slice a4 l4 p4);simp only [List.setIfInBounds_toArray,List.set_cons_zero,List.set_cons_succ] at h9;rw [hW2];exact h9
 have hvx:=lt_of_some BvW.out;have hrx:=lt_of_some BrW.out;have Bv2:=hidK ((hk2 (w.heap.size + 1 + 1) (by omega)).trans ((HWZ.out.block _ hvx).trans BvW.out));have Br2:=hidK ((hk2 (w.heap.size + 1 + 1 + 1) (by omega)).trans ((HWZ.out.block _ hrx).trans BrW.out))
 have HB2 : Hid (Below w.heap.size w W2):=by rw [hW2];exact set_below (show w.heap.size ≤ w1.heap.size by omega) (HBW.out.trans (HWZ.out.mono HBW.out.size))
 have HPV : Hid (ROwn W2 d'.a3 d'.l3 d'.c3 8 100 (c.vs.map vdF) (fun k => (w.heap.size + 1 + 1 + 1 + 1 ≤ k ∧ P k = 3) ∧ k < w1.heap.size)):=(HP.out.v.into (fun k hk s => ⟨s,hk⟩)).keep (fun k hk s => (hk2 k (by omega)).trans ((HWZ.out.block k (by omega)).trans (HB1.out.block k hk))) (fun _ _ s => s);have HK2:=hidK hk2;have HW2:=hidK hW2;clear hk2 hW2 o0 o1 o2 o3 o4 o5 fo3 hol;go_wp2_with fail;rename_i K0 hK0;refine Gt.wp_region_grow_last (by kernel_rfl) rfl rfl (by kernel_rfl) ?_;refine' Grow.stepC _ rfl ?_ ?_;rotate_left 1
 ·refine Obl.plain rfl ?_;intro ac wg K hsz hW hf hK;clear hsz;have e7:=hf 7 (by decide)
  simp [slotFact,List.lookup] at e7
  clear hf;go_simp;refine hK _ _ (Below.refl _ _) ?_;with_reducible rfl
 refine' Grow.stepC _ rfl ?_ ?_;rotate_left 1
 ·refine Obl.plain rfl ?_;intro ac wg K hsz hW hf hK;clear hsz;have e24:=hf 24 (by decide)
  simp [slotFact,List.lookup] at e24
  clear hf;obtain ⟨o0,o1,o2,o3,o4,o5⟩:=cs6 ((hW.block _ (lt_of_some Bo2.out)).trans Bo2.out);go_simp;refine hK _ _ (Below.refl _ _) ?_;with_reducible rfl
 refine' Grow.stepC _ rfl ?_ ?_;rotate_left 1
 ·refine Obl.plain rfl ?_;intro ac wg K hsz hW hf hK;clear hsz;have e5:=hf 5 (by decide)
  simp [slotFact,List.lookup] at e5
  clear hf;go_simp;refine hK _ _ (Below.refl _ _) ?_;with_reducible rfl
 refine' Grow.stepC _ rfl ?_ ?_;rotate_left 1
 ·refine Obl.plain rfl ?_;intro ac wg K hsz hW hf hK;clear hsz;have e26:=hf 26 (by decide)
  simp [slotFact,List.lookup] at e26
  clear hf;obtain ⟨v0,v1,v2,v3,v4,v5,v6,v7⟩:=cs8 ((hW.block _ (lt_of_some Bv2.out)).trans Bv2.out);go_simp;refine hK _ _ (Below.refl _ _) ?_;with_reducible rfl
 refine Grow.step (RoF 8 100 ((wo Vd.n v.n c.vs).map vdF) (fun k => ((w.heap.size + 1 + 1 + 1 + 1 ≤ k ∧ P k = 3) ∧ k < w1.heap.size) ∨ W2.heap.size ≤ k)) rfl (RoF.mono _ _ _ _) ?_ ?_
 ·refine Obl.plain rfl ?_;intro ac wg K hsz hW hf hK;clear hsz;have e25:=hf 25 (by decide)
  simp [slotFact,List.lookup] at e25
  have e27:=hf 27 (by decide)
  simp [slotFact,List.lookup] at e27
  clear hf;go_simp;have hs6:=hW.size;refine (iwovd_any d'.a3 d'.l3 d'.c3 c.vs v.n _ _ (HPV.out.below hW) hlv).mono ?_;rintro e w6 ⟨a2,l2,p2,rfl,ho6,hb6⟩;exact hK _ _ hb6 ⟨a2,l2,p2,rfl,ho6.into (fun k _ s => s.imp id (fun q => by have q1 : wg.heap.size ≤ k:=q;show W2.heap.size ≤ k;omega))⟩
 refine' Grow.stepC _ rfl ?_ ?_;rotate_left 1
 ·refine Obl.plain rfl ?_;intro ac wg K hsz hW hf hK;clear hsz;have e5:=hf 5 (by decide)
  simp [slotFact,List.lookup] at e5
  clear hf;obtain ⟨v0,v1,v2,v3,v4,v5,v6,v7⟩:=cs8 ((hW.block _ (lt_of_some Bv2.out)).trans Bv2.out);go_simp;refine hK _ _ (Below.refl _ _) ?_;with_reducible rfl
 refine Grow.step (RoF 8 100 ((pairC c (bdX x v.n) (bdV v x.n)).vs.map vdF) (fun k => ((w.heap.size + 1 + 1 + 1 + 1 ≤ k ∧ P k = 3) ∧ k < w1.heap.size) ∨ (B ≤ k ∧ k < w.heap.size) ∨ W2.heap.size ≤ k)) rfl (RoF.mono _ _ _ _) ?_ ?_
 ·refine Obl.plain rfl ?_;intro ac wg K hsz hW hf hK;clear hsz;have e28:=hf 28 (by decide)
  simp [slotFact,List.lookup] at e28
  have e29:=hf 29 (by decide)
  simp [slotFact,List.lookup] at e29
  clear hf;obtain ⟨a2,l2,p2,e28,ho2⟩:=e28;go_simp;have hs6:=hW.size;have hs7:=HB2.out.size
  have hl2 : l2 ≤ 8:=by have h6:=ho2.1;rw [List.length_map] at h6;have h7:=wo_le Vd.n v.n c.vs;have:=HS.out.v;omega
  obtain ⟨g,hg⟩:=(HV.out.below (HB2.out.trans (hW.mono HB2.out.size))).fr
  refine (withvd_any a2 l2 p2 (wo Vd.n v.n c.vs) (bdV v x.n) va vl vc g _ (fun k => B ≤ k ∧ k < w.heap.size) _ ho2 hl2 (vd_fr (x:=bdV v x.n) HZ.out.2.2.1 HZ.out.2.2.2.1 HZ.out.2.2.2.2 HZ.out.1 hg) (fun k q1 q2 => by
   have q3 : B ≤ k ∧ k < w.heap.size:=q2
   rcases q1 with q1 | q1
   ·omega
   ·have q4 : W2.heap.size ≤ k:=q1;omega)).mono ?_
  rintro e w6 ⟨a4,l4,p4,rfl,ho6,hb6⟩
  exact hK _ _ hb6 ⟨a4,l4,p4,rfl,ho6.into (fun k _ s => by
   rcases s with (s | s) | s
   ·exact s.imp id .inr
   ·exact .inr (.inl s)
   ·have q1 : wg.heap.size ≤ k:=s;exact .inr (.inr (show W2.heap.size ≤ k by omega)))⟩
 refine' Grow.stepC _ rfl ?_ ?_;rotate_left 1
 ·refine Obl.plain rfl ?_;intro ac wg K hsz hW hf hK;clear hsz;have e7:=hf 7 (by decide)
  simp [slotFact,List.lookup] at e7
  clear hf;go_simp;refine hK _ _ (Below.refl _ _) ?_;with_reducible rfl
 refine Grow.done ?_;intro q wy hW hf;simp only [List.forall_mem_cons] at hf;obtain ⟨h31,h30,h29,-,h27,h26,h25,h24,-⟩:=hf;obtain ⟨a3,l3,p3,hv30,ho30⟩:=h30;have HOV:=hidK ho30;have HWY:=hidK hW;have BoY:=upK Bo2 hW;have BrY:=upK Br2 hW;obtain ⟨o0,o1,o2,o3,o4,o5⟩:=cs6 BoY.out;have fo2:=froK BoY.out 2;have hol:=lt_of_some BoY.out;obtain ⟨r0,r1,r2,r3,r4,r5⟩:=cs6 BrY.out;have fr0:=froK BrY.out 0;have fr1:=froK BrY.out 1;have fr2:=froK BrY.out 2;have fr3:=froK BrY.out 3;have fr4:=froK BrY.out 4;have fr5:=froK BrY.out 5;have hrl:=lt_of_some BrY.out
 have hne : ¬ w.heap.size + 1 + 1 + 1 = w1.heap.size:=by omega
 have hne2 : ¬ w1.heap.size = w.heap.size + 1 + 1 + 1:=by omega
 clear ho30;intro K hK;rw [if_pos (by rfl)];simp only [putsAll,List.foldr,Act.put,List.setIfInBounds_toArray,List.set_cons_zero,List.set_cons_succ,h31,h29,h27,h26,h25,h24,hv30];simp only [List.getLast];go_simp;refine hK _ _ ?_;refine hK0 _ _ ?_;clear hK hK0 K K0
 go_wp2
 refine bodyPost_ret (v:=.agg #[.slice d'.a1 d'.l1 d'.c1,.slice d'.a2 d'.l2 d'.c2,.slice a3 l3 p3,.slice a4 l4 p4,.slice d'.a5 d'.l5 d'.c5,.int .i64 c.now]) (by simp [results,Tryz.results68,go_sem, *]) rfl ⟨⟨d'.a1,d'.l1,d'.c1,d'.a2,d'.l2,d'.c2,a3,l3,p3,a4,l4,p4,d'.a5,d'.l5,d'.c5⟩,rfl,?_,sb3 (sb3 (sb3 (sb3 (sb3 (sb3 (set_below (show w.heap.size ≤ w1.heap.size by omega) (HB2.out.trans (HWY.out.mono HB2.out.size))))))))⟩;have hys:=HWY.out.size
 have hWf : ∀ k,¬ k = w.heap.size + 1 + 1 + 1 → ¬ k = w1.heap.size → (((((((wy.setCell ⟨w1.heap.size,2,none⟩ (.slice a3 l3 p3)).setCell ⟨w.heap.size + 1 + 1 + 1,0,none⟩ (.slice d'.a1 d'.l1 d'.c1)).setCell ⟨w.heap.size + 1 + 1 + 1,1,none⟩ (.slice d'.a2 d'.l2 d'.c2)).setCell ⟨w.heap.size + 1 + 1 + 1,2,none⟩ (.slice a3 l3 p3)).setCell ⟨w.heap.size + 1 + 1 + 1,3,none⟩ (.slice a4 l4 p4)).setCell ⟨w.heap.size + 1 + 1 + 1,4,none⟩ (.slice d'.a5 d'.l5 d'.c5)).setCell ⟨w.heap.size + 1 + 1 + 1,5,none⟩ (.int .i64 c.now)).heap[k]? = wy.heap[k]?:=fun k h8 h9 => by rw [Below.heap_setCell _ _ _ _ (show k ≠ w.heap.size + 1 + 1 + 1 by omega),Below.heap_setCell _ _ _ _ (show k ≠ w.heap.size + 1 + 1 + 1 by omega),Below.heap_setCell _ _ _ _ (show k ≠ w.heap.size + 1 + 1 + 1 by omega),Below.heap_setCell _ _ _ _ (show k ≠ w.heap.size + 1 + 1 + 1 by omega),Below.heap_setCell _ _ _ _ (show k ≠ w.heap.size + 1 + 1 + 1 by omega),Below.heap_setCell _ _ _ _ (show k ≠ w.heap.size + 1 + 1 + 1 by omega),Below.heap_setCell _ _ _ _ (show k ≠ w1.heap.size by omega)]
 have hE1 : ∀ k,k < w1.heap.size → w.heap.size + 1 + 1 + 1 + 1 ≤ k → (((((((wy.setCell ⟨w1.heap.size,2,none⟩ (.slice a3 l3 p3)).setCell ⟨w.heap.size + 1 + 1 + 1,0,none⟩ (.slice d'.a1 d'.l1 d'.c1)).setCell ⟨w.heap.size + 1 + 1 + 1,1,none⟩ (.slice d'.a2 d'.l2 d'.c2)).setCell ⟨w.heap.size + 1 + 1 + 1,2,none⟩ (.slice a3 l3 p3)).setCell ⟨w.heap.size + 1 + 1 + 1,3,none⟩ (.slice a4 l4 p4)).setCell ⟨w.heap.size + 1 + 1 + 1,4,none⟩ (.slice d'.a5 d'.l5 d'.c5)).setCell ⟨w.heap.size + 1 + 1 + 1,5,none⟩ (.int .i64 c.now)).heap[k]? = w1.heap[k]?:=fun k h8 h9 => (hWf k (by omega) (by omega)).trans ((HWY.out.block k (by omega)).trans ((HK2.out k (by omega)).trans ((HWZ.out.block k (by omega)).trans (HB1.out.block k h8))))
 have hPk : ∀ k,k < w1.heap.size → w.heap.size + 1 + 1 + 1 + 1 ≤ k → (if k < w.heap.size then 3 else if k < w1.heap.size then P k else if k < W2.heap.size then 4 else 3) = P k:=fun k h8 h9 => by rw [if_neg (by omega),if_pos h8]
 refine ⟨fun k => if k < w.heap.size then 3 else if k < w1.heap.size then P k else if k < W2.heap.size then 4 else 3,?_,?_,?_,?_,?_⟩
 ·exact HP.out.n.keep (fun k hk s => hE1 k hk s.1) (fun k hk s => ⟨by have s1 : w.heap.size + 1 + 1 + 1 + 1 ≤ k:=s.1;show B ≤ k;omega,(hPk k hk s.1).trans s.2⟩)
 ·exact HP.out.k.keep (fun k hk s => hE1 k hk s.1) (fun k hk s => ⟨by have s1 : w.heap.size + 1 + 1 + 1 + 1 ≤ k:=s.1;show B ≤ k;omega,(hPk k hk s.1).trans s.2⟩)
 ·refine HOV.out.keep (fun k hk s => ?_) (fun k hk s => ?_)
  ·rcases s with s | s | s
   ·exact hWf k (by omega) (by omega)
   ·exact hWf k (by omega) (by omega)
   ·have s1 : W2.heap.size ≤ k:=s;exact hWf k (by omega) (by omega)
  ·rcases s with s | s | s
   ·exact ⟨by show B ≤ k;omega,(hPk k s.2 s.1.1).trans s.1.2⟩
   ·exact ⟨s.1,by show (if k < w.heap.size then 3 else if k < w1.heap.size then P k else if k < W2.heap.size then 4 else 3) = 3;rw [if_pos s.2]⟩
   ·have s1 : W2.heap.size ≤ k:=s;exact ⟨by show B ≤ k;omega,by show (if k < w.heap.size then 3 else if k < w1.heap.size then P k else if k < W2.heap.size then 4 else 3) = 3;rw [if_neg (by omega),if_neg (by omega),if_neg (by omega)]⟩
 ·refine HOX.out.keep (fun k hk s => ?_) (fun k hk s => ?_)
  ·have h9 : ¬ k = w1.heap.size ∧ ¬ k = w.heap.size + 1 + 1 + 1:=by rcases s with s | s <;> omega
   exact (hWf k h9.2 h9.1).trans ((HWY.out.block k (by omega)).trans (HK2.out k h9.1))
  ·rcases s with s | s
   ·exact ⟨by show B ≤ k;omega,(hPk k s.2 s.1.1).trans s.1.2⟩
   ·exact ⟨by show B ≤ k;omega,by show (if k < w.heap.size then 3 else if k < w1.heap.size then P k else if k < W2.heap.size then 4 else 3) = 4;rw [if_neg (by omega),if_neg (by omega),if_pos (by omega)]⟩
 ·exact HP.out.p.keep (fun k hk s => hE1 k hk s.1) (fun k hk s => ⟨by have s1 : w.heap.size + 1 + 1 + 1 + 1 ≤ k:=s.1;show B ≤ k;omega,(hPk k hk s.1).trans s.2⟩)

end Rc
end Go.Proofs.YtmknjejaochfjaaGreatDoor

namespace Go.Proofs.YtmknjejaochfjaaGreatDoor
open Go

def jump3 (J0 J1 J2 : Act → World → Prop) (Q : Exit → Act → World → Prop) : Exit → Act → World → Prop
 | .goto l,a,w => (l = 0 ∧ J0 a w) ∨ (l = 1 ∧ J1 a w) ∨ (l = 2 ∧ J2 a w)
 | e,a,w => Q e a w
theorem jump3_ret {J0 J1 J2 : Act → World → Prop} {Q : Exit → Act → World → Prop} {a : Act} {w : World} (h : Q .ret a w) : jump3 J0 J1 J2 Q .ret a w:=h
theorem jump3_0 {J0 J1 J2 : Act → World → Prop} {Q : Exit → Act → World → Prop} {a : Act} {w : World} (h : J0 a w) : jump3 J0 J1 J2 Q (.goto 0) a w:=.inl ⟨rfl,h⟩
theorem jump3_1 {J0 J1 J2 : Act → World → Prop} {Q : Exit → Act → World → Prop} {a : Act} {w : World} (h : J1 a w) : jump3 J0 J1 J2 Q (.goto 1) a w:=.inr (.inl ⟨rfl,h⟩)
theorem jump3_2 {J0 J1 J2 : Act → World → Prop} {Q : Exit → Act → World → Prop} {a : Act} {w : World} (h : J2 a w) : jump3 J0 J1 J2 Q (.goto 2) a w:=.inr (.inr ⟨rfl,h⟩)
theorem then_goto {K : Act → World → Prop} {Q : Exit → Act → World → Prop} {l : Nat} {a : Act} {w : World} (h : Q (.goto l) a w) : Exit.then K Q (.goto l) a w:=h

def never : Act → World → Prop:=fun _ _ => False

def at1 (P : Program) (Q : Exit → Act → World → Prop) (r1 : Code) : Act → World → Prop:=fun a w => r1.wp P (jump3 never never never Q) a w
def at0 (P : Program) (Q : Exit → Act → World → Prop) (r0 r1 : Code) : Act → World → Prop:=fun a w => r0.wp P (jump3 never (at1 P Q r1) never Q) a w
def at2 (P : Program) (Q : Exit → Act → World → Prop) (r0 r1 r2 : Code) : Act → World → Prop:=fun a w => r2.wp P (jump3 (at0 P Q r0 r1) never never Q) a w
theorem wp_scope_chain {P : Program} {a : Act} {w : World} {Q : Exit → Act → World → Prop} {c r0 r1 r2 : Code} (h0 : findLabel c 0 = some r0) (h1 : findLabel c 1 = some r1) (h2 : findLabel c 2 = some r2)
  (first : c.wp P (jump3 never (at1 P Q r1) (at2 P Q r0 r1 r2) Q) a w) : (Code.scope c).wp P Q a w:=by
 intro b k cs
 have g0 : gotoIn 0 (.inScope c :: k) = some (.code r0 :: .inScope c :: k):=by simp [gotoIn,h0]
 have g1 : gotoIn 1 (.inScope c :: k) = some (.code r1 :: .inScope c :: k):=by simp [gotoIn,h1]
 have g2 : gotoIn 2 (.inScope c :: k) = some (.code r2 :: .inScope c :: k):=by simp [gotoIn,h2]
 have key1 : ∀ a w,at1 P Q r1 a w → ∃ e a' w',Q e a' w' ∧ Arrives P (lone (b.at a (.code r1 :: .inScope c :: k)) cs w) b k cs e a' w':=by
  intro a w hJ;obtain ⟨e,a₁,w₁,hq,harr⟩:=hJ b (.inScope c :: k) cs
  cases e with
  | normal => exact ⟨.normal,a₁,w₁,hq,Steps.trans harr (.one step_inScope)⟩
  | exit id => exact ⟨.exit id,a₁,w₁,hq,fun k' hk => harr k' (by simp [exitTo,hk])⟩
  | goto l' =>
   rcases hq with ⟨e0,h⟩ | ⟨e1,h⟩ | ⟨e2,h⟩
   ·exact h.elim
   ·exact h.elim
   ·exact h.elim
  | ret => exact ⟨_,a₁,w₁,hq,harr⟩
  | panic ch => exact ⟨_,a₁,w₁,hq,harr⟩
  | outgrown => exact ⟨_,a₁,w₁,hq,harr⟩
 have key0 : ∀ a w,at0 P Q r0 r1 a w → ∃ e a' w',Q e a' w' ∧ Arrives P (lone (b.at a (.code r0 :: .inScope c :: k)) cs w) b k cs e a' w':=by
  intro a w hJ;obtain ⟨e,a₁,w₁,hq,harr⟩:=hJ b (.inScope c :: k) cs
  cases e with
  | normal => exact ⟨.normal,a₁,w₁,hq,Steps.trans harr (.one step_inScope)⟩
  | exit id => exact ⟨.exit id,a₁,w₁,hq,fun k' hk => harr k' (by simp [exitTo,hk])⟩
  | goto l' =>
   rcases hq with ⟨e0,h⟩ | ⟨e1,h⟩ | ⟨e2,h⟩
   ·exact h.elim
   ·subst e1;obtain ⟨e₂,a₂,w₂,hq₂,harr₂⟩:=key1 a₁ w₁ h;exact ⟨e₂,a₂,w₂,hq₂,.of_steps (harr _ g1) harr₂⟩
   ·exact h.elim
  | ret => exact ⟨_,a₁,w₁,hq,harr⟩
  | panic ch => exact ⟨_,a₁,w₁,hq,harr⟩
  | outgrown => exact ⟨_,a₁,w₁,hq,harr⟩
 have key2 : ∀ a w,at2 P Q r0 r1 r2 a w → ∃ e a' w',Q e a' w' ∧ Arrives P (lone (b.at a (.code r2 :: .inScope c :: k)) cs w) b k cs e a' w':=by
  intro a w hJ;obtain ⟨e,a₁,w₁,hq,harr⟩:=hJ b (.inScope c :: k) cs
  cases e with
  | normal => exact ⟨.normal,a₁,w₁,hq,Steps.trans harr (.one step_inScope)⟩
  | exit id => exact ⟨.exit id,a₁,w₁,hq,fun k' hk => harr k' (by simp [exitTo,hk])⟩
  | goto l' =>
   rcases hq with ⟨e0,h⟩ | ⟨e1,h⟩ | ⟨e2,h⟩
   ·subst e0;obtain ⟨e₂,a₂,w₂,hq₂,harr₂⟩:=key0 a₁ w₁ h;exact ⟨e₂,a₂,w₂,hq₂,.of_steps (harr _ g0) harr₂⟩
   ·exact h.elim
   ·exact h.elim
  | ret => exact ⟨_,a₁,w₁,hq,harr⟩
  | panic ch => exact ⟨_,a₁,w₁,hq,harr⟩
  | outgrown => exact ⟨_,a₁,w₁,hq,harr⟩
 obtain ⟨e,a₁,w₁,hq,harr⟩:=first b (.inScope c :: k) cs
 cases e with
 | normal => exact ⟨.normal,a₁,w₁,hq,.head step_scope (Steps.trans harr (.one step_inScope))⟩
 | exit id => exact ⟨.exit id,a₁,w₁,hq,fun k' hk => .head step_scope (harr k' (by simp [exitTo,hk]))⟩
 | goto l' =>
  rcases hq with ⟨_,h⟩ | ⟨rfl,h⟩ | ⟨rfl,h⟩
  ·exact h.elim
  ·obtain ⟨e₂,a₂,w₂,hq₂,harr₂⟩:=key1 a₁ w₁ h;exact ⟨e₂,a₂,w₂,hq₂,.of_steps (.head step_scope (harr _ g1)) harr₂⟩
  ·obtain ⟨e₂,a₂,w₂,hq₂,harr₂⟩:=key2 a₁ w₁ h;exact ⟨e₂,a₂,w₂,hq₂,.of_steps (.head step_scope (harr _ g2)) harr₂⟩
 | ret => exact ⟨_,a₁,w₁,hq,.of_steps (.one step_scope) harr⟩
 | panic ch => exact ⟨_,a₁,w₁,hq,.of_steps (.one step_scope) harr⟩
 | outgrown => exact ⟨_,a₁,w₁,hq,.of_steps (.one step_scope) harr⟩

theorem wp_scope_hid {P : Program} {a : Act} {w : World} {Q : Exit → Act → World → Prop} {c r0 r1 r2 : Code} (h0 : findLabel c 0 = some r0) (h1 : findLabel c 1 = some r1) (h2 : findLabel c 2 = some r2)
  (first : ∀ J1 J2 : Act → World → Prop,(∀ a w,r1.wp P (jump3 never never never Q) a w → J1 a w) → (∀ a w,(∀ J0 : Act → World → Prop,(∀ a w,r0.wp P (jump3 never J1 never Q) a w → J0 a w) → r2.wp P (jump3 J0 never never Q) a w) → J2 a w) → c.wp P (jump3 never J1 J2 Q) a w) : (Code.scope c).wp P Q a w :=
 wp_scope_chain h0 h1 h2 (first _ _ (fun _ _ h => h) (fun _ _ h => h (at0 P Q r0 r1) (fun _ _ h => h)))

end Go.Proofs.YtmknjejaochfjaaGreatDoor

namespace Go.Proofs.YtmknjejaochfjaaGreatDoor
open Go.RowKit
namespace Rc
open Mk

theorem set8 {w : World} {g : Nat} {T : TypeId} {c0 c1 c2 c3 c4 c5 c6 c7 : Value} (h : w.heap[g]? = some (.cells #[c0,c1,c2,c3,c4,c5,c6,c7] T (0,0))) (v0 v1 v2 v3 v4 v5 v6 v7 : Value) :
  ((((((((w.setCell ⟨g,0,none⟩ v0).setCell ⟨g,1,none⟩ v1).setCell ⟨g,2,none⟩ v2).setCell ⟨g,3,none⟩ v3).setCell ⟨g,4,none⟩ v4).setCell ⟨g,5,none⟩ v5).setCell ⟨g,6,none⟩ v6).setCell ⟨g,7,none⟩ v7).heap[g]? = some (.cells #[v0,v1,v2,v3,v4,v5,v6,v7] T (0,0)):=by
 rw [block_set (i:=7) (block_set (i:=6) (block_set (i:=5) (block_set (i:=4) (block_set (i:=3) (block_set (i:=2) (block_set (i:=1) (block_set (i:=0) h v0) v1) v2) v3) v4) v5) v6) v7];simp only [List.setIfInBounds_toArray,List.set_cons_zero,List.set_cons_succ]

theorem below5 (w : World) (o p q r s : Obj) : Below w.heap.size w (((((w.alloc o).alloc p).alloc q).alloc r).alloc s):=(below4 w o p q r).alloc (by simp;omega) s
theorem slots5 {w w' : World} {o p q r s : Obj} (h : Below (((((w.alloc o).alloc p).alloc q).alloc r).alloc s).heap.size (((((w.alloc o).alloc p).alloc q).alloc r).alloc s) w') : w'.heap[w.heap.size]? = some o ∧ w'.heap[w.heap.size + 1]? = some p ∧ w'.heap[w.heap.size + 1 + 1]? = some q ∧ w'.heap[w.heap.size + 1 + 1 + 1]? = some r ∧ w'.heap[w.heap.size + 1 + 1 + 1 + 1]? = some s ∧ Below w.heap.size w w':=by
 obtain ⟨h1,h2⟩:=slots1 h;obtain ⟨h3,h4,h5,h6,h7⟩:=slots4 h2;exact ⟨h3,h4,h5,h6,by simpa using h1,h7⟩
def PrF (B : Nat) (c : Cl) : Fact:=fun v w => ∃ d,v = .agg #[.slice d.a1 d.l1 d.c1,.slice d.a2 d.l2 d.c2,.slice d.a3 d.l3 d.c3,.slice d.a4 d.l4 d.c4,.slice d.a5 d.l5 d.c5,.int .i64 c.now] ∧ ClOwn w d c.raw (fun k => B ≤ k)
theorem PrF.mono (B : Nat) (c : Cl) : Fact.Mono (PrF B c):=by
 rintro v w w' ⟨d,h1,h2⟩ hb;exact ⟨d,h1,h2.below hb⟩
def PrO (B : Nat) (c : Cl) (n : ByteArray) : Fact:=fun v w => ∃ d,v = .agg #[.slice d.a1 d.l1 d.c1,.slice d.a2 d.l2 d.c2,.slice d.a3 d.l3 d.c3,.slice d.a4 d.l4 d.c4,.slice d.a5 d.l5 d.c5,.int .i64 c.now,.string n,.int .i64 0] ∧ ClOwn w d c.raw (fun k => B ≤ k)
theorem PrO.mono (B : Nat) (c : Cl) (n : ByteArray) : Fact.Mono (PrO B c n):=by
 rintro v w w' ⟨d,h1,h2⟩ hb;exact ⟨d,h1,h2.below hb⟩
theorem step_or (sv : Vd → Bool) (acc : Option Vd) (v : Vd) : stepB sv acc v = some v ∨ stepB sv acc v = acc:=by
 unfold stepB;exact (Decidable.em _).elim (fun h => .inl (if_pos h)) (fun h => .inr (if_neg h))
theorem best_in (sv : Vd → Bool) {u : Vd} : ∀ (vs : List Vd) (acc : Option Vd),vs.foldl (stepB sv) acc = some u → acc = some u ∨ u ∈ vs
 | [],acc,h => .inl h
 | v :: vs,acc,h => by
  have h2:=step_or sv acc v
  rcases best_in sv vs (stepB sv acc v) h with h1 | h1
  ·rcases h2 with h2 | h2
   ·rw [h2] at h1;exact .inr (by rw [Option.some.inj h1];exact List.mem_cons_self ..)
   ·rw [h2] at h1;exact .inl h1
  ·exact .inr (List.mem_cons_of_mem _ h1)
theorem bestV_at {sv : Vd → Bool} {vs : List Vd} {u : Vd} (h : bestV sv vs = some u) : ∃ j : Nat,vs[j]? = some u:=by
 rcases best_in sv vs none h with h1 | h1
 ·cases h1
 ·exact List.getElem?_of_mem h1

theorem ibindIn_any (d : Ad) (c : Cl) (x : Xd) (t : ByteArray) (i j : Nat) (k : Kd) (E : Nat → Addr) (w : World) (hr : ClRow w d c.raw) (hG : Ers w E) (hT : RightI c) (hx : c.xs[i]? = some x) (hxv : x.v = ⟨#[]⟩) (hk : c.ks[j]? = some k) (hkn : k.n = x.k) (ht : t = ⟨#[]⟩ ∨ NameOk t) :
  Calls Tryz.prog 32 #[.agg #[.slice d.a1 d.l1 d.c1,.slice d.a2 d.l2 d.c2,.slice d.a3 d.l3 d.c3,.slice d.a4 d.l4 d.c4,.slice d.a5 d.l5 d.c5,.int .i64 c.now],.agg #[.string x.n,.int .i64 x.z,.string x.k,.bool x.x,.string x.v],.string t] w (OutI (BinIs c i x k t) w):=by
 have HR:=hidK hr;have HE:=hidK hG;have HT:=hidK hT;have HX:=hidK (And.intro hx hxv);have HK:=hidK (And.intro hk hkn);have HTZ:=hidK ht;have HXO:=hidK (hT.2.1.2.2.2.1.2.1 i x hx);have HB:=hidK (Below.refl w.heap.size w);clear hr hG hT hx hxv hk hkn ht
 go_enter Tryz.func32,Tryz.ntmps32
 go_wp2_with fail;refine wp_scope_hid rfl rfl rfl (fun J1 J2 hJ1 hJ2 => ?_);have HJ1:=hidK hJ1;have HJ2:=hidK hJ2;clear hJ1 hJ2
 go_wp2
 go_step3
 go_wp2_with fail;have h8 : c.vs.length ≤ 8:=HT.out.sm.v;have hbr : BestR c.vs x.n x.z x.k x.v t:=⟨HXO.out,HTZ.out,h8,fun q u hu => HT.out.2.1.2.2.1.2.1 q u hu⟩
 have ht20 : t.size ≤ 20:=by
  rcases HTZ.out with h1 | h1
  ·rw [h1];decide
  ·exact h1.2.1
 have hz0 : x.n.size ≤ 20:=HXO.out.1.2.1;have hz2 : x.k.size ≤ 20:=HXO.out.2.2.1.2.1
 have hz4 : x.v.size ≤ 9223372036854775807:=by rw [HX.out.2];decide
 refine (ifound_any d c x t E _ (HR.out.below (below5 _ _ _ _ _ _)) (HE.out.below (below5 _ _ _ _ _ _)) hbr h8 ht20 (by omega) (by omega) hz4).mono ?_;rintro e w1 ⟨hb,hf⟩;have HQ:=hidK hb.size;simp only [size1] at HQ hf;obtain ⟨HA0,HA1,HA2,HA3,HA4,hbx⟩:=slots5 hb;have Bk:=hidK HA0;have Bx:=hidK HA1;have Br:=hidK HA2;have Bv:=hidK HA3;have Bs:=hidK HA4;replace HB:=upB HB hbx;clear hb hbx HA0 HA1 HA2 HA3 HA4;clear hbr hz4
 rcases hf with ⟨hbn,rfl⟩ | ⟨u,va,vl,vc,hbs,rfl,hto⟩
 rotate_left
 ·obtain ⟨j9,hu9⟩:=bestV_at hbs;have HU:=hidK hu9;have huo:=HT.out.2.1.2.2.1.2.1 j9 u hu9;have hu0 : u.n.size ≤ 20:=huo.1.2.1;have hu2 : u.z.size ≤ 20:=huo.2.2.1.2.1;have hu3 : u.k.size ≤ 20:=huo.2.2.2.1.2.1;have HBS:=hidK hbs;have HTO:=hidK hto;clear hbs hto hu9 huo;obtain ⟨v0,v1,v2,v3,v4,v5,v6,v7⟩:=cs8 Bv.out;have fv0:=froK Bv.out 0;have fv1:=froK Bv.out 1;have fv2:=froK Bv.out 2;have fv3:=froK Bv.out 3;have fv4:=froK Bv.out 4;have fv5:=froK Bv.out 5;have fv6:=froK Bv.out 6;have fv7:=froK Bv.out 7;have hvl:=lt_of_some Bv.out
  go_wp2
  go_step3
  refine then_goto (jump3_1 (HJ1.out _ _ ?_));clear v0 fv0 v1 fv1 v2 fv2 v3 fv3 v4 fv4 v5 fv5 v6 fv6 v7 fv7 hvl;obtain ⟨W5,hW5⟩ : ∃ W,W = ((((((((w1.setCell ⟨w.heap.size + 1 + 1 + 1,0,none⟩ (.string u.n)).setCell ⟨w.heap.size + 1 + 1 + 1,1,none⟩ (.int .i64 u.c)).setCell ⟨w.heap.size + 1 + 1 + 1,2,none⟩ (.string u.z)).setCell ⟨w.heap.size + 1 + 1 + 1,3,none⟩ (.string u.k)).setCell ⟨w.heap.size + 1 + 1 + 1,4,none⟩ (.bool u.x)).setCell ⟨w.heap.size + 1 + 1 + 1,5,none⟩ (.string u.m)).setCell ⟨w.heap.size + 1 + 1 + 1,6,none⟩ (.bool u.y)).setCell ⟨w.heap.size + 1 + 1 + 1,7,none⟩ (.slice va vl vc)):=⟨_,rfl⟩
  have hszW5 : W5.heap.size = w1.heap.size:=by rw [hW5];simp
  have hlk:=lt_of_some Bk.out
  have hkeep : ∀ q,¬ q = w.heap.size + 1 + 1 + 1 → W5.heap[q]? = w1.heap[q]?:=fun q h9 => by rw [hW5,Below.heap_setCell _ _ _ _ h9,Below.heap_setCell _ _ _ _ h9,Below.heap_setCell _ _ _ _ h9,Below.heap_setCell _ _ _ _ h9,Below.heap_setCell _ _ _ _ h9,Below.heap_setCell _ _ _ _ h9,Below.heap_setCell _ _ _ _ h9,Below.heap_setCell _ _ _ _ h9]
  have Dk:=hidK ((hkeep (w.heap.size) (by omega)).trans Bk.out);have Dx:=hidK ((hkeep (w.heap.size + 1) (by omega)).trans Bx.out);have Dr:=hidK ((hkeep (w.heap.size + 1 + 1) (by omega)).trans Br.out);have Ds:=hidK ((hkeep (w.heap.size + 1 + 1 + 1 + 1) (by omega)).trans Bs.out)
  have Dv : Hid (W5.heap[w.heap.size + 1 + 1 + 1]? = some (.cells #[.string u.n,.int .i64 u.c,.string u.z,.string u.k,.bool u.x,.string u.m,.bool u.y,.slice va vl vc] 100 (0,0))):=by rw [hW5];exact set8 Bv.out _ _ _ _ _ _ _ _
  have HBW5 : Hid (Below w.heap.size w W5):=by rw [hW5];exact sb3 (sb3 (sb3 (sb3 (sb3 (sb3 (sb3 (sb3 (HB.out))))))))
  have HKP:=hidK hkeep;clear hkeep;have hq1 : w.heap.size + 1 + 1 + 1 + 1 + 1 ≤ w1.heap.size:=HQ.out;have HT5 : Hid (TOwn W5 va vl vc u.zs (fun k => w.heap.size + 1 + 1 + 1 + 1 + 1 ≤ k)):=HTO.out.keep (fun k hk s => HKP.out k (by have s1 : w.heap.size + 1 + 1 + 1 + 1 + 1 ≤ k:=s;omega)) (fun _ _ s => s);have HCX : Hid (pairC c (bdX x u.n) (bdV u x.n) = bindC c i j9 x u):=pairC_found HT.out HX.out.1 HU.out;go_wp2_with fail;rw [← hW5];rename_i K0 hK0;refine wp_region_grow_last (by kernel_rfl) rfl rfl (by kernel_rfl) ?_;refine' Grow.stepC _ rfl ?_ ?_;rotate_left 1
  ·refine Obl.plain rfl ?_;intro ac wg K hsz hW hf hK;clear hsz;have e3:=hf 3 (by decide)
   simp [slotFact,List.lookup] at e3
   clear hf;obtain ⟨k0,k1,k2,k3,k4,k5⟩:=cs6 ((hW.block _ (lt_of_some Dk.out)).trans Dk.out);go_simp;refine hK _ _ (Below.refl _ _) ?_;with_reducible rfl
  refine' Grow.stepC _ rfl ?_ ?_;rotate_left 1
  ·refine Obl.plain rfl ?_;intro ac wg K hsz hW hf hK;clear hsz;have e4:=hf 4 (by decide)
   simp [slotFact,List.lookup] at e4
   clear hf;obtain ⟨x0,x1,x2,x3,x4⟩:=cs5 ((hW.block _ (lt_of_some Dx.out)).trans Dx.out);go_simp;refine hK _ _ (Below.refl _ _) ?_;with_reducible rfl
  refine' Grow.stepC _ rfl ?_ ?_;rotate_left 1
  ·refine Obl.plain rfl ?_;intro ac wg K hsz hW hf hK;clear hsz;have e7:=hf 7 (by decide)
   simp [slotFact,List.lookup] at e7
   clear hf;obtain ⟨v0,v1,v2,v3,v4,v5,v6,v7⟩:=cs8 ((hW.block _ (lt_of_some Dv.out)).trans Dv.out);go_simp;refine hK _ _ (Below.refl _ _) ?_;with_reducible rfl
  refine Grow.step (PrF (w.heap.size + 1 + 1 + 1 + 1 + 1) (bindC c i j9 x u)) rfl (PrF.mono _ _) ?_ ?_
  ·refine Obl.plain rfl ?_;intro ac wg K hsz hW hf hK;clear hsz;have e31:=hf 31 (by decide)
   simp [slotFact,List.lookup] at e31
   have e32:=hf 32 (by decide)
   simp [slotFact,List.lookup] at e32
   have e33:=hf 33 (by decide)
   simp [slotFact,List.lookup] at e33
   clear hf;go_simp;have hs6:=hW.size;refine (ipaired_any d c x u va vl vc (w.heap.size + 1 + 1 + 1 + 1 + 1) _ (HR.out.below (HBW5.out.trans (hW.mono HBW5.out.size))) HT.out.sm ((HT5.out.below hW).keep (fun _ _ _ => rfl) (fun k hk s => ⟨s,hk⟩)) (by omega) (by omega) (by omega) (by omega) (by omega) (by omega)).mono ?_;rintro e w6 ⟨d',rfl,ho6,hb6⟩;rw [HCX.out] at ho6;exact hK _ _ hb6 ⟨d',rfl,ho6⟩
  refine' Grow.stepC _ rfl ?_ ?_;rotate_left 1
  ·refine Obl.plain rfl ?_;intro ac wg K hsz hW hf hK;clear hsz;have e7:=hf 7 (by decide)
   simp [slotFact,List.lookup] at e7
   clear hf;go_simp;refine hK _ _ (Below.refl _ _) ?_;with_reducible rfl
  refine' Grow.stepC _ rfl ?_ ?_;rotate_left 1
  ·refine Obl.plain rfl ?_;intro ac wg K hsz hW hf hK;clear hsz;have e35:=hf 35 (by decide)
   simp [slotFact,List.lookup] at e35
   clear hf;obtain ⟨v0,v1,v2,v3,v4,v5,v6,v7⟩:=cs8 ((hW.block _ (lt_of_some Dv.out)).trans Dv.out);go_simp;refine hK _ _ (Below.refl _ _) ?_;with_reducible rfl
  refine Grow.step (PrO (w.heap.size + 1 + 1 + 1 + 1 + 1) (bindC c i j9 x u) (u.n)) rfl (PrO.mono _ _ _) ?_ ?_
  ·refine Obl.plain rfl ?_;intro ac wg K hsz hW hf hK;clear hsz;have e34:=hf 34 (by decide)
   simp [slotFact,List.lookup] at e34
   have e36:=hf 36 (by decide)
   simp [slotFact,List.lookup] at e36
   clear hf;obtain ⟨d',e34,ho⟩:=e34;go_simp;exact hK _ _ (Below.refl _ _) ⟨d',rfl,ho⟩
  refine Grow.done ?_;intro q wz hW hf;simp only [List.forall_mem_cons] at hf;obtain ⟨h37,h36,h35,-,h33,h32,h31,-⟩:=hf;obtain ⟨d',hv37,ho37⟩:=h37;have HO:=hidK ho37;have HWZ:=hidK hW;have Br6:=upK Dr hW;obtain ⟨r0,r1,r2,r3,r4,r5,r6,r7⟩:=cs8 Br6.out;have fr0:=froK Br6.out 0;have fr1:=froK Br6.out 1;have fr2:=froK Br6.out 2;have fr3:=froK Br6.out 3;have fr4:=froK Br6.out 4;have fr5:=froK Br6.out 5;have fr6:=froK Br6.out 6;have fr7:=froK Br6.out 7;have hrl:=lt_of_some Br6.out;clear ho37;intro K hK;rw [if_pos (by rfl)];simp only [putsAll,List.foldr,Act.put,List.setIfInBounds_toArray,List.set_cons_zero,List.set_cons_succ,h36,h35,h33,h32,h31,hv37];simp only [List.getLast];go_simp;refine hK _ _ ?_;refine hK0 _ _ ?_;clear hK hK0 K K0;have HV : Hid (BinIs c i x k t ⟨bindC c i j9 x u,u.n,0⟩):=.inl ⟨j9,u,HBS.out,HU.out,rfl⟩
  go_wp2
  refine jump3_ret ?_;refine bodyPost_ret (v:=.agg #[.slice d'.a1 d'.l1 d'.c1,.slice d'.a2 d'.l2 d'.c2,.slice d'.a3 d'.l3 d'.c3,.slice d'.a4 d'.l4 d'.c4,.slice d'.a5 d'.l5 d'.c5,.int .i64 c.now,.string (u.n),.int .i64 0]) (by simp [results,Tryz.results32,go_sem, *];try rfl) rfl ⟨d',⟨bindC c i j9 x u,u.n,0⟩,rfl,HV.out,?_,sb2 (sb2 (sb2 (sb2 (sb2 (sb2 (sb2 (sb2 (HBW5.out.trans (HWZ.out.mono HBW5.out.size)))))))))⟩;obtain ⟨P,hP⟩:=HO.out;exact ⟨P,hP.keep (w':=((((((((wz.setCell ⟨w.heap.size + 1 + 1,0,none⟩ (.slice d'.a1 d'.l1 d'.c1)).setCell ⟨w.heap.size + 1 + 1,1,none⟩ (.slice d'.a2 d'.l2 d'.c2)).setCell ⟨w.heap.size + 1 + 1,2,none⟩ (.slice d'.a3 d'.l3 d'.c3)).setCell ⟨w.heap.size + 1 + 1,3,none⟩ (.slice d'.a4 d'.l4 d'.c4)).setCell ⟨w.heap.size + 1 + 1,4,none⟩ (.slice d'.a5 d'.l5 d'.c5)).setCell ⟨w.heap.size + 1 + 1,5,none⟩ (.int .i64 c.now)).setCell ⟨w.heap.size + 1 + 1,6,none⟩ (.string (u.n))).setCell ⟨w.heap.size + 1 + 1,7,none⟩ (.int .i64 0))) (fun q hq s => by have s1 : w.heap.size + 1 + 1 + 1 + 1 + 1 ≤ q:=s;rw [Below.heap_setCell _ _ _ _ (show q ≠ w.heap.size + 1 + 1 by omega),Below.heap_setCell _ _ _ _ (show q ≠ w.heap.size + 1 + 1 by omega),Below.heap_setCell _ _ _ _ (show q ≠ w.heap.size + 1 + 1 by omega),Below.heap_setCell _ _ _ _ (show q ≠ w.heap.size + 1 + 1 by omega),Below.heap_setCell _ _ _ _ (show q ≠ w.heap.size + 1 + 1 by omega),Below.heap_setCell _ _ _ _ (show q ≠ w.heap.size + 1 + 1 by omega),Below.heap_setCell _ _ _ _ (show q ≠ w.heap.size + 1 + 1 by omega),Below.heap_setCell _ _ _ _ (show q ≠ w.heap.size + 1 + 1 by omega)]) (fun q _ s => by have s1 : w.heap.size + 1 + 1 + 1 + 1 + 1 ≤ q:=s;show w.heap.size ≤ q;omega)⟩
 have HBN:=hidK hbn;clear hbn;obtain ⟨v0,v1,v2,v3,v4,v5,v6,v7⟩:=cs8 Bv.out;have fv0:=froK Bv.out 0;have fv1:=froK Bv.out 1;have fv2:=froK Bv.out 2;have fv3:=froK Bv.out 3;have fv4:=froK Bv.out 4;have fv5:=froK Bv.out 5;have fv6:=froK Bv.out 6;have fv7:=froK Bv.out 7;have hvl:=lt_of_some Bv.out
 go_wp2
 go_step3
 refine then_goto (jump3_2 (HJ2.out _ _ (fun J0 hJ0 => ?_)));have HJ0:=hidK hJ0;clear hJ0;clear v0 fv0 v1 fv1 v2 fv2 v3 fv3 v4 fv4 v5 fv5 v6 fv6 v7 fv7 hvl;obtain ⟨W5,hW5⟩ : ∃ W,W = ((((((((w1.setCell ⟨w.heap.size + 1 + 1 + 1,0,none⟩ (.string ⟨#[]⟩)).setCell ⟨w.heap.size + 1 + 1 + 1,1,none⟩ (.int .i64 0)).setCell ⟨w.heap.size + 1 + 1 + 1,2,none⟩ (.string ⟨#[]⟩)).setCell ⟨w.heap.size + 1 + 1 + 1,3,none⟩ (.string ⟨#[]⟩)).setCell ⟨w.heap.size + 1 + 1 + 1,4,none⟩ (.bool false)).setCell ⟨w.heap.size + 1 + 1 + 1,5,none⟩ (.string ⟨#[]⟩)).setCell ⟨w.heap.size + 1 + 1 + 1,6,none⟩ (.bool false)).setCell ⟨w.heap.size + 1 + 1 + 1,7,none⟩ (.slice none 0 0)):=⟨_,rfl⟩
 have hszW5 : W5.heap.size = w1.heap.size:=by rw [hW5];simp
 have hlk:=lt_of_some Bk.out
 have hkeep : ∀ q,¬ q = w.heap.size + 1 + 1 + 1 → W5.heap[q]? = w1.heap[q]?:=fun q h9 => by rw [hW5,Below.heap_setCell _ _ _ _ h9,Below.heap_setCell _ _ _ _ h9,Below.heap_setCell _ _ _ _ h9,Below.heap_setCell _ _ _ _ h9,Below.heap_setCell _ _ _ _ h9,Below.heap_setCell _ _ _ _ h9,Below.heap_setCell _ _ _ _ h9,Below.heap_setCell _ _ _ _ h9]
 have Dk:=hidK ((hkeep (w.heap.size) (by omega)).trans Bk.out);have Dx:=hidK ((hkeep (w.heap.size + 1) (by omega)).trans Bx.out);have Dr:=hidK ((hkeep (w.heap.size + 1 + 1) (by omega)).trans Br.out);have Ds:=hidK ((hkeep (w.heap.size + 1 + 1 + 1 + 1) (by omega)).trans Bs.out)
 have Dv : Hid (W5.heap[w.heap.size + 1 + 1 + 1]? = some (.cells #[.string ⟨#[]⟩,.int .i64 0,.string ⟨#[]⟩,.string ⟨#[]⟩,.bool false,.string ⟨#[]⟩,.bool false,.slice none 0 0] 100 (0,0))):=by rw [hW5];exact set8 Bv.out _ _ _ _ _ _ _ _
 have HBW5 : Hid (Below w.heap.size w W5):=by rw [hW5];exact sb3 (sb3 (sb3 (sb3 (sb3 (sb3 (sb3 (sb3 (HB.out))))))))
 have HKP:=hidK hkeep;clear hkeep;rw [← hW5];clear hW5;obtain ⟨s0,s1,s2,s3,s4,s5,s6,s7,s8,s9,s10,s11⟩:=cs12B Ds.out;have lts:=lt_of_some Ds.out
 go_wp2
 go_step3
 refine then_goto (jump3_0 (HJ0.out _ _ ?_));go_wp2_with fail;clear s0 s1 s2 s3 s4 s5 s6 s7 s8 s9 s10 s11 lts;refine (imade_any d c x t j k (zoneOf t k.z) E _ (HR.out.below HBW5.out) (HE.out.below HBW5.out) HT.out HXO.out HK.out.1 HK.out.2 HTZ.out rfl).mono ?_;rintro e w2 ⟨hb,hf⟩
 have hq2 : w.heap.size + 1 + 1 + 1 + 1 + 1 ≤ w2.heap.size:=by have h1:=hb.size;have h2 : w.heap.size + 1 + 1 + 1 + 1 + 1 ≤ w1.heap.size:=HQ.out;omega
 replace Bk:=hidK ((hb.block _ (lt_of_some Dk.out)).trans Dk.out);replace Bx:=hidK ((hb.block _ (lt_of_some Dx.out)).trans Dx.out);replace Br:=hidK ((hb.block _ (lt_of_some Dr.out)).trans Dr.out);replace Bv:=hidK ((hb.block _ (lt_of_some Dv.out)).trans Dv.out);replace Bs:=hidK ((hb.block _ (lt_of_some Ds.out)).trans Ds.out);replace HB:=upB HBW5 hb;clear hb Dk Dx Dr Dv Ds HKP HBW5 hlk hszW5
 rcases hf with ⟨hm,rfl⟩ | ⟨hm,hf⟩
 ·have HV : Hid (BinIs c i x k t (co0 (codeOf 2))):=.inr ⟨HBN.out,.inl ⟨hm,rfl⟩⟩;obtain ⟨cc,hcc⟩ : ∃ cc,cc = codeOf 2:=⟨_,rfl⟩;rw [← hcc] at HV;obtain ⟨v0,v1,v2,v3,v4,v5,v6,v7⟩:=cs8 Bv.out;have fv0:=froK Bv.out 0;have fv1:=froK Bv.out 1;have fv2:=froK Bv.out 2;have fv3:=froK Bv.out 3;have fv4:=froK Bv.out 4;have fv5:=froK Bv.out 5;have fv6:=froK Bv.out 6;have fv7:=froK Bv.out 7;have hvl:=lt_of_some Bv.out;go_wp2_with fail;clear v0 fv0 v1 fv1 v2 fv2 v3 fv3 v4 fv4 v5 fv5 v6 fv6 v7 fv7 hvl;obtain ⟨W6,hW6⟩ : ∃ W,W = ((((((((w2.setCell ⟨w.heap.size + 1 + 1 + 1,0,none⟩ (.string ⟨#[]⟩)).setCell ⟨w.heap.size + 1 + 1 + 1,1,none⟩ (.int .i64 0)).setCell ⟨w.heap.size + 1 + 1 + 1,2,none⟩ (.string ⟨#[]⟩)).setCell ⟨w.heap.size + 1 + 1 + 1,3,none⟩ (.string ⟨#[]⟩)).setCell ⟨w.heap.size + 1 + 1 + 1,4,none⟩ (.bool false)).setCell ⟨w.heap.size + 1 + 1 + 1,5,none⟩ (.string ⟨#[]⟩)).setCell ⟨w.heap.size + 1 + 1 + 1,6,none⟩ (.bool false)).setCell ⟨w.heap.size + 1 + 1 + 1,7,none⟩ (.slice none 0 0)):=⟨_,rfl⟩
  have hszW6 : W6.heap.size = w2.heap.size:=by rw [hW6];simp
  have hlk:=lt_of_some Bk.out
  have hkeep : ∀ q,¬ q = w.heap.size + 1 + 1 + 1 → W6.heap[q]? = w2.heap[q]?:=fun q h9 => by rw [hW6,Below.heap_setCell _ _ _ _ h9,Below.heap_setCell _ _ _ _ h9,Below.heap_setCell _ _ _ _ h9,Below.heap_setCell _ _ _ _ h9,Below.heap_setCell _ _ _ _ h9,Below.heap_setCell _ _ _ _ h9,Below.heap_setCell _ _ _ _ h9,Below.heap_setCell _ _ _ _ h9]
  have Dk:=hidK ((hkeep (w.heap.size) (by omega)).trans Bk.out);have Dx:=hidK ((hkeep (w.heap.size + 1) (by omega)).trans Bx.out);have Dr:=hidK ((hkeep (w.heap.size + 1 + 1) (by omega)).trans Br.out);have Ds:=hidK ((hkeep (w.heap.size + 1 + 1 + 1 + 1) (by omega)).trans Bs.out)
  have Dv : Hid (W6.heap[w.heap.size + 1 + 1 + 1]? = some (.cells #[.string ⟨#[]⟩,.int .i64 0,.string ⟨#[]⟩,.string ⟨#[]⟩,.bool false,.string ⟨#[]⟩,.bool false,.slice none 0 0] 100 (0,0))):=by rw [hW6];exact set8 Bv.out _ _ _ _ _ _ _ _
  have HBW6 : Hid (Below w.heap.size w W6):=by rw [hW6];exact sb3 (sb3 (sb3 (sb3 (sb3 (sb3 (sb3 (sb3 (HB.out))))))))
  have HKP:=hidK hkeep;clear hkeep;rw [← hW6];clear hW6;refine (refused_any E 2 cc hcc _ (HE.out.below HBW6.out) (by decide)).mono ?_;rintro e w3 ⟨rfl,hb⟩;clear hcc;have Br3:=upK Dr hb;have HB3:=upB HBW6 hb;clear hb;obtain ⟨r0,r1,r2,r3,r4,r5,r6,r7⟩:=cs8 Br3.out;have fr0:=froK Br3.out 0;have fr1:=froK Br3.out 1;have fr2:=froK Br3.out 2;have fr3:=froK Br3.out 3;have fr4:=froK Br3.out 4;have fr5:=froK Br3.out 5;have fr6:=froK Br3.out 6;have fr7:=froK Br3.out 7;have hrl : w.heap.size + 1 + 1 < w3.heap.size:=lt_of_some Br3.out
  go_wp2
  refine jump3_ret ?_;exact bodyPost_ret (v:=.agg #[.slice none 0 0,.slice none 0 0,.slice none 0 0,.slice none 0 0,.slice none 0 0,.int .i64 0,.string ⟨#[]⟩,.int .i64 cc]) (by simp [results,Tryz.results32,go_sem, *]) rfl ⟨ad0,co0 cc,rfl,HV.out,own0 _ _,sb2 (sb2 (sb2 (sb2 (sb2 (sb2 (sb2 (sb2 (HB3.out))))))))⟩
 rcases hf with ⟨i9,hi9,hwhy,rfl⟩ | ⟨hh,h8',rfl⟩
 ·rcases hwhy with ⟨rfl,hh⟩ | ⟨rfl,hh,hf8⟩
  ·have HV : Hid (BinIs c i x k t (co0 (codeOf 3))):=.inr ⟨HBN.out,.inr ⟨hm,.inl ⟨hh,rfl⟩⟩⟩;obtain ⟨cc,hcc⟩ : ∃ cc,cc = codeOf 3:=⟨_,rfl⟩;rw [← hcc] at HV;obtain ⟨v0,v1,v2,v3,v4,v5,v6,v7⟩:=cs8 Bv.out;have fv0:=froK Bv.out 0;have fv1:=froK Bv.out 1;have fv2:=froK Bv.out 2;have fv3:=froK Bv.out 3;have fv4:=froK Bv.out 4;have fv5:=froK Bv.out 5;have fv6:=froK Bv.out 6;have fv7:=froK Bv.out 7;have hvl:=lt_of_some Bv.out;go_wp2_with fail;clear v0 fv0 v1 fv1 v2 fv2 v3 fv3 v4 fv4 v5 fv5 v6 fv6 v7 fv7 hvl;obtain ⟨W6,hW6⟩ : ∃ W,W = ((((((((w2.setCell ⟨w.heap.size + 1 + 1 + 1,0,none⟩ (.string (wMade ++ x.n))).setCell ⟨w.heap.size + 1 + 1 + 1,1,none⟩ (.int .i64 x.z)).setCell ⟨w.heap.size + 1 + 1 + 1,2,none⟩ (.string (zoneOf t k.z))).setCell ⟨w.heap.size + 1 + 1 + 1,3,none⟩ (.string x.k)).setCell ⟨w.heap.size + 1 + 1 + 1,4,none⟩ (.bool x.x)).setCell ⟨w.heap.size + 1 + 1 + 1,5,none⟩ (.string x.n)).setCell ⟨w.heap.size + 1 + 1 + 1,6,none⟩ (.bool false)).setCell ⟨w.heap.size + 1 + 1 + 1,7,none⟩ (.slice none 0 0)):=⟨_,rfl⟩
   have hszW6 : W6.heap.size = w2.heap.size:=by rw [hW6];simp
   have hlk:=lt_of_some Bk.out
   have hkeep : ∀ q,¬ q = w.heap.size + 1 + 1 + 1 → W6.heap[q]? = w2.heap[q]?:=fun q h9 => by rw [hW6,Below.heap_setCell _ _ _ _ h9,Below.heap_setCell _ _ _ _ h9,Below.heap_setCell _ _ _ _ h9,Below.heap_setCell _ _ _ _ h9,Below.heap_setCell _ _ _ _ h9,Below.heap_setCell _ _ _ _ h9,Below.heap_setCell _ _ _ _ h9,Below.heap_setCell _ _ _ _ h9]
   have Dk:=hidK ((hkeep (w.heap.size) (by omega)).trans Bk.out);have Dx:=hidK ((hkeep (w.heap.size + 1) (by omega)).trans Bx.out);have Dr:=hidK ((hkeep (w.heap.size + 1 + 1) (by omega)).trans Br.out);have Ds:=hidK ((hkeep (w.heap.size + 1 + 1 + 1 + 1) (by omega)).trans Bs.out)
   have Dv : Hid (W6.heap[w.heap.size + 1 + 1 + 1]? = some (.cells #[.string (wMade ++ x.n),.int .i64 x.z,.string (zoneOf t k.z),.string x.k,.bool x.x,.string x.n,.bool false,.slice none 0 0] 100 (0,0))):=by rw [hW6];exact set8 Bv.out _ _ _ _ _ _ _ _
   have HBW6 : Hid (Below w.heap.size w W6):=by rw [hW6];exact sb3 (sb3 (sb3 (sb3 (sb3 (sb3 (sb3 (sb3 (HB.out))))))))
   have HKP:=hidK hkeep;clear hkeep;rw [← hW6];clear hW6;refine (refused_any E 3 cc hcc _ (HE.out.below HBW6.out) (by decide)).mono ?_;rintro e w3 ⟨rfl,hb⟩;clear hcc;have Br3:=upK Dr hb;have HB3:=upB HBW6 hb;clear hb;obtain ⟨r0,r1,r2,r3,r4,r5,r6,r7⟩:=cs8 Br3.out;have fr0:=froK Br3.out 0;have fr1:=froK Br3.out 1;have fr2:=froK Br3.out 2;have fr3:=froK Br3.out 3;have fr4:=froK Br3.out 4;have fr5:=froK Br3.out 5;have fr6:=froK Br3.out 6;have fr7:=froK Br3.out 7;have hrl : w.heap.size + 1 + 1 < w3.heap.size:=lt_of_some Br3.out
   go_wp2
   refine jump3_ret ?_;exact bodyPost_ret (v:=.agg #[.slice none 0 0,.slice none 0 0,.slice none 0 0,.slice none 0 0,.slice none 0 0,.int .i64 0,.string ⟨#[]⟩,.int .i64 cc]) (by simp [results,Tryz.results32,go_sem, *]) rfl ⟨ad0,co0 cc,rfl,HV.out,own0 _ _,sb2 (sb2 (sb2 (sb2 (sb2 (sb2 (sb2 (sb2 (HB3.out))))))))⟩
  have HV : Hid (BinIs c i x k t (co0 (codeOf 4))):=.inr ⟨HBN.out,.inr ⟨hm,.inr ⟨hh,.inl ⟨hf8,rfl⟩⟩⟩⟩;obtain ⟨cc,hcc⟩ : ∃ cc,cc = codeOf 4:=⟨_,rfl⟩;rw [← hcc] at HV;obtain ⟨v0,v1,v2,v3,v4,v5,v6,v7⟩:=cs8 Bv.out;have fv0:=froK Bv.out 0;have fv1:=froK Bv.out 1;have fv2:=froK Bv.out 2;have fv3:=froK Bv.out 3;have fv4:=froK Bv.out 4;have fv5:=froK Bv.out 5;have fv6:=froK Bv.out 6;have fv7:=froK Bv.out 7;have hvl:=lt_of_some Bv.out;go_wp2_with fail;clear v0 fv0 v1 fv1 v2 fv2 v3 fv3 v4 fv4 v5 fv5 v6 fv6 v7 fv7 hvl;obtain ⟨W6,hW6⟩ : ∃ W,W = ((((((((w2.setCell ⟨w.heap.size + 1 + 1 + 1,0,none⟩ (.string (wMade ++ x.n))).setCell ⟨w.heap.size + 1 + 1 + 1,1,none⟩ (.int .i64 x.z)).setCell ⟨w.heap.size + 1 + 1 + 1,2,none⟩ (.string (zoneOf t k.z))).setCell ⟨w.heap.size + 1 + 1 + 1,3,none⟩ (.string x.k)).setCell ⟨w.heap.size + 1 + 1 + 1,4,none⟩ (.bool x.x)).setCell ⟨w.heap.size + 1 + 1 + 1,5,none⟩ (.string x.n)).setCell ⟨w.heap.size + 1 + 1 + 1,6,none⟩ (.bool false)).setCell ⟨w.heap.size + 1 + 1 + 1,7,none⟩ (.slice none 0 0)):=⟨_,rfl⟩
  have hszW6 : W6.heap.size = w2.heap.size:=by rw [hW6];simp
  have hlk:=lt_of_some Bk.out
  have hkeep : ∀ q,¬ q = w.heap.size + 1 + 1 + 1 → W6.heap[q]? = w2.heap[q]?:=fun q h9 => by rw [hW6,Below.heap_setCell _ _ _ _ h9,Below.heap_setCell _ _ _ _ h9,Below.heap_setCell _ _ _ _ h9,Below.heap_setCell _ _ _ _ h9,Below.heap_setCell _ _ _ _ h9,Below.heap_setCell _ _ _ _ h9,Below.heap_setCell _ _ _ _ h9,Below.heap_setCell _ _ _ _ h9]
  have Dk:=hidK ((hkeep (w.heap.size) (by omega)).trans Bk.out);have Dx:=hidK ((hkeep (w.heap.size + 1) (by omega)).trans Bx.out);have Dr:=hidK ((hkeep (w.heap.size + 1 + 1) (by omega)).trans Br.out);have Ds:=hidK ((hkeep (w.heap.size + 1 + 1 + 1 + 1) (by omega)).trans Bs.out)
  have Dv : Hid (W6.heap[w.heap.size + 1 + 1 + 1]? = some (.cells #[.string (wMade ++ x.n),.int .i64 x.z,.string (zoneOf t k.z),.string x.k,.bool x.x,.string x.n,.bool false,.slice none 0 0] 100 (0,0))):=by rw [hW6];exact set8 Bv.out _ _ _ _ _ _ _ _
  have HBW6 : Hid (Below w.heap.size w W6):=by rw [hW6];exact sb3 (sb3 (sb3 (sb3 (sb3 (sb3 (sb3 (sb3 (HB.out))))))))
  have HKP:=hidK hkeep;clear hkeep;rw [← hW6];clear hW6;refine (refused_any E 4 cc hcc _ (HE.out.below HBW6.out) (by decide)).mono ?_;rintro e w3 ⟨rfl,hb⟩;clear hcc;have Br3:=upK Dr hb;have HB3:=upB HBW6 hb;clear hb;obtain ⟨r0,r1,r2,r3,r4,r5,r6,r7⟩:=cs8 Br3.out;have fr0:=froK Br3.out 0;have fr1:=froK Br3.out 1;have fr2:=froK Br3.out 2;have fr3:=froK Br3.out 3;have fr4:=froK Br3.out 4;have fr5:=froK Br3.out 5;have fr6:=froK Br3.out 6;have fr7:=froK Br3.out 7;have hrl : w.heap.size + 1 + 1 < w3.heap.size:=lt_of_some Br3.out
  go_wp2
  refine jump3_ret ?_;exact bodyPost_ret (v:=.agg #[.slice none 0 0,.slice none 0 0,.slice none 0 0,.slice none 0 0,.slice none 0 0,.int .i64 0,.string ⟨#[]⟩,.int .i64 cc]) (by simp [results,Tryz.results32,go_sem, *]) rfl ⟨ad0,co0 cc,rfl,HV.out,own0 _ _,sb2 (sb2 (sb2 (sb2 (sb2 (sb2 (sb2 (sb2 (HB3.out))))))))⟩
 have HMY:=hidK (And.intro hm (And.intro hh h8'));obtain ⟨v0,v1,v2,v3,v4,v5,v6,v7⟩:=cs8 Bv.out;have fv0:=froK Bv.out 0;have fv1:=froK Bv.out 1;have fv2:=froK Bv.out 2;have fv3:=froK Bv.out 3;have fv4:=froK Bv.out 4;have fv5:=froK Bv.out 5;have fv6:=froK Bv.out 6;have fv7:=froK Bv.out 7;have hvl:=lt_of_some Bv.out
 go_wp2
 go_step3
 refine then_goto (jump3_1 (HJ1.out _ _ ?_));clear hm hh h8';clear v0 fv0 v1 fv1 v2 fv2 v3 fv3 v4 fv4 v5 fv5 v6 fv6 v7 fv7 hvl;obtain ⟨W6,hW6⟩ : ∃ W,W = ((((((((w2.setCell ⟨w.heap.size + 1 + 1 + 1,0,none⟩ (.string (wMade ++ x.n))).setCell ⟨w.heap.size + 1 + 1 + 1,1,none⟩ (.int .i64 x.z)).setCell ⟨w.heap.size + 1 + 1 + 1,2,none⟩ (.string (zoneOf t k.z))).setCell ⟨w.heap.size + 1 + 1 + 1,3,none⟩ (.string x.k)).setCell ⟨w.heap.size + 1 + 1 + 1,4,none⟩ (.bool x.x)).setCell ⟨w.heap.size + 1 + 1 + 1,5,none⟩ (.string x.n)).setCell ⟨w.heap.size + 1 + 1 + 1,6,none⟩ (.bool false)).setCell ⟨w.heap.size + 1 + 1 + 1,7,none⟩ (.slice none 0 0)):=⟨_,rfl⟩
 have hszW6 : W6.heap.size = w2.heap.size:=by rw [hW6];simp
 have hlk:=lt_of_some Bk.out
 have hkeep : ∀ q,¬ q = w.heap.size + 1 + 1 + 1 → W6.heap[q]? = w2.heap[q]?:=fun q h9 => by rw [hW6,Below.heap_setCell _ _ _ _ h9,Below.heap_setCell _ _ _ _ h9,Below.heap_setCell _ _ _ _ h9,Below.heap_setCell _ _ _ _ h9,Below.heap_setCell _ _ _ _ h9,Below.heap_setCell _ _ _ _ h9,Below.heap_setCell _ _ _ _ h9,Below.heap_setCell _ _ _ _ h9]
 have Dk:=hidK ((hkeep (w.heap.size) (by omega)).trans Bk.out);have Dx:=hidK ((hkeep (w.heap.size + 1) (by omega)).trans Bx.out);have Dr:=hidK ((hkeep (w.heap.size + 1 + 1) (by omega)).trans Br.out);have Ds:=hidK ((hkeep (w.heap.size + 1 + 1 + 1 + 1) (by omega)).trans Bs.out)
 have Dv : Hid (W6.heap[w.heap.size + 1 + 1 + 1]? = some (.cells #[.string (wMade ++ x.n),.int .i64 x.z,.string (zoneOf t k.z),.string x.k,.bool x.x,.string x.n,.bool false,.slice none 0 0] 100 (0,0))):=by rw [hW6];exact set8 Bv.out _ _ _ _ _ _ _ _
 have HBW6 : Hid (Below w.heap.size w W6):=by rw [hW6];exact sb3 (sb3 (sb3 (sb3 (sb3 (sb3 (sb3 (sb3 (HB.out))))))))
 have HKP:=hidK hkeep;clear hkeep;have hxn18 : x.n.size ≤ 18:=HMY.out.1.2.2.2.2
 have hzz : (zoneOf t k.z).size ≤ 20:=by
  have h1 : (zoneOf t k.z) = k.z ∨ (zoneOf t k.z) = t:=by unfold zoneOf;split <;> simp
  rcases h1 with h1 | h1
  ·rw [h1]
   rcases (HT.out.2.1.2.1.2.1 j k HK.out.1).2 with h2 | h2
   ·rw [h2];decide
   ·exact h2.2.1
  ·rw [h1];exact ht20
 have hmn : (wMade ++ x.n).size ≤ 20:=by
  rw [ByteArray.size_append];have h1 : wMade.size = 2:=rfl
  omega
 have HCX : Hid (pairC c (bdX x (wMade ++ x.n)) (mkV x (zoneOf t k.z)) = makeC c i x (zoneOf t k.z)):=pairC_made HT.out HX.out.1 HMY.out.2.1;have HMB : Hid (bdV (mkV x (zoneOf t k.z)) x.n = mkV x (zoneOf t k.z)):=rfl;go_wp2_with fail;rw [← hW6];rename_i K0 hK0;refine wp_region_grow_last (by kernel_rfl) rfl rfl (by kernel_rfl) ?_;refine' Grow.stepC _ rfl ?_ ?_;rotate_left 1
 ·refine Obl.plain rfl ?_;intro ac wg K hsz hW hf hK;clear hsz;have e3:=hf 3 (by decide)
  simp [slotFact,List.lookup] at e3
  clear hf;obtain ⟨k0,k1,k2,k3,k4,k5⟩:=cs6 ((hW.block _ (lt_of_some Dk.out)).trans Dk.out);go_simp;refine hK _ _ (Below.refl _ _) ?_;with_reducible rfl
 refine' Grow.stepC _ rfl ?_ ?_;rotate_left 1
 ·refine Obl.plain rfl ?_;intro ac wg K hsz hW hf hK;clear hsz;have e4:=hf 4 (by decide)
  simp [slotFact,List.lookup] at e4
  clear hf;obtain ⟨x0,x1,x2,x3,x4⟩:=cs5 ((hW.block _ (lt_of_some Dx.out)).trans Dx.out);go_simp;refine hK _ _ (Below.refl _ _) ?_;with_reducible rfl
 refine' Grow.stepC _ rfl ?_ ?_;rotate_left 1
 ·refine Obl.plain rfl ?_;intro ac wg K hsz hW hf hK;clear hsz;have e7:=hf 7 (by decide)
  simp [slotFact,List.lookup] at e7
  clear hf;obtain ⟨v0,v1,v2,v3,v4,v5,v6,v7⟩:=cs8 ((hW.block _ (lt_of_some Dv.out)).trans Dv.out);go_simp;refine hK _ _ (Below.refl _ _) ?_;with_reducible rfl
 refine Grow.step (PrF (w.heap.size + 1 + 1 + 1 + 1 + 1) (makeC c i x (zoneOf t k.z))) rfl (PrF.mono _ _) ?_ ?_
 ·refine Obl.plain rfl ?_;intro ac wg K hsz hW hf hK;clear hsz;have e31:=hf 31 (by decide)
  simp [slotFact,List.lookup] at e31
  have e32:=hf 32 (by decide)
  simp [slotFact,List.lookup] at e32
  have e33:=hf 33 (by decide)
  simp [slotFact,List.lookup] at e33
  clear hf;go_simp;have hs6:=hW.size;refine (ipaired_any d c x (mkV x (zoneOf t k.z)) none 0 0 (w.heap.size + 1 + 1 + 1 + 1 + 1) _ (HR.out.below (HBW6.out.trans (hW.mono HBW6.out.size))) HT.out.sm ⟨⟨rfl,Nat.le_refl _,by omega,fun q y hy => by simp [mkV] at hy,.inl rfl⟩,.inl rfl⟩ (by omega) (by omega) (by omega) (show (wMade ++ x.n).size ≤ 9223372036854775807 by omega) (show (zoneOf t k.z).size ≤ 9223372036854775807 by omega) (show x.k.size ≤ 9223372036854775807 by omega)).mono ?_;rintro e w6 ⟨d',rfl,ho6,hb6⟩;rw [HMB.out,show (mkV x (zoneOf t k.z)).n = wMade ++ x.n from rfl,HCX.out] at ho6;exact hK _ _ hb6 ⟨d',rfl,ho6⟩
 refine' Grow.stepC _ rfl ?_ ?_;rotate_left 1
 ·refine Obl.plain rfl ?_;intro ac wg K hsz hW hf hK;clear hsz;have e7:=hf 7 (by decide)
  simp [slotFact,List.lookup] at e7
  clear hf;go_simp;refine hK _ _ (Below.refl _ _) ?_;with_reducible rfl
 refine' Grow.stepC _ rfl ?_ ?_;rotate_left 1
 ·refine Obl.plain rfl ?_;intro ac wg K hsz hW hf hK;clear hsz;have e35:=hf 35 (by decide)
  simp [slotFact,List.lookup] at e35
  clear hf;obtain ⟨v0,v1,v2,v3,v4,v5,v6,v7⟩:=cs8 ((hW.block _ (lt_of_some Dv.out)).trans Dv.out);go_simp;refine hK _ _ (Below.refl _ _) ?_;with_reducible rfl
 refine Grow.step (PrO (w.heap.size + 1 + 1 + 1 + 1 + 1) (makeC c i x (zoneOf t k.z)) ((mkV x (zoneOf t k.z)).n)) rfl (PrO.mono _ _ _) ?_ ?_
 ·refine Obl.plain rfl ?_;intro ac wg K hsz hW hf hK;clear hsz;have e34:=hf 34 (by decide)
  simp [slotFact,List.lookup] at e34
  have e36:=hf 36 (by decide)
  simp [slotFact,List.lookup] at e36
  clear hf;obtain ⟨d',e34,ho⟩:=e34;go_simp;exact hK _ _ (Below.refl _ _) ⟨d',rfl,ho⟩
 refine Grow.done ?_;intro q wz hW hf;simp only [List.forall_mem_cons] at hf;obtain ⟨h37,h36,h35,-,h33,h32,h31,-⟩:=hf;obtain ⟨d',hv37,ho37⟩:=h37;have HO:=hidK ho37;have HWZ:=hidK hW;have Br6:=upK Dr hW;obtain ⟨r0,r1,r2,r3,r4,r5,r6,r7⟩:=cs8 Br6.out;have fr0:=froK Br6.out 0;have fr1:=froK Br6.out 1;have fr2:=froK Br6.out 2;have fr3:=froK Br6.out 3;have fr4:=froK Br6.out 4;have fr5:=froK Br6.out 5;have fr6:=froK Br6.out 6;have fr7:=froK Br6.out 7;have hrl:=lt_of_some Br6.out;clear ho37;intro K hK;rw [if_pos (by rfl)];simp only [putsAll,List.foldr,Act.put,List.setIfInBounds_toArray,List.set_cons_zero,List.set_cons_succ,h36,h35,h33,h32,h31,hv37];simp only [List.getLast];go_simp;refine hK _ _ ?_;refine hK0 _ _ ?_;clear hK hK0 K K0;have HV : Hid (BinIs c i x k t ⟨makeC c i x (zoneOf t k.z),(mkV x (zoneOf t k.z)).n,0⟩):=.inr ⟨HBN.out,.inr ⟨HMY.out.1,.inr ⟨HMY.out.2.1,.inr ⟨HMY.out.2.2,rfl⟩⟩⟩⟩
 go_wp2
 refine jump3_ret ?_;refine bodyPost_ret (v:=.agg #[.slice d'.a1 d'.l1 d'.c1,.slice d'.a2 d'.l2 d'.c2,.slice d'.a3 d'.l3 d'.c3,.slice d'.a4 d'.l4 d'.c4,.slice d'.a5 d'.l5 d'.c5,.int .i64 c.now,.string ((mkV x (zoneOf t k.z)).n),.int .i64 0]) (by simp [results,Tryz.results32,go_sem, *];try rfl) rfl ⟨d',⟨makeC c i x (zoneOf t k.z),(mkV x (zoneOf t k.z)).n,0⟩,rfl,HV.out,?_,sb2 (sb2 (sb2 (sb2 (sb2 (sb2 (sb2 (sb2 (HBW6.out.trans (HWZ.out.mono HBW6.out.size)))))))))⟩;obtain ⟨P,hP⟩:=HO.out;exact ⟨P,hP.keep (w':=((((((((wz.setCell ⟨w.heap.size + 1 + 1,0,none⟩ (.slice d'.a1 d'.l1 d'.c1)).setCell ⟨w.heap.size + 1 + 1,1,none⟩ (.slice d'.a2 d'.l2 d'.c2)).setCell ⟨w.heap.size + 1 + 1,2,none⟩ (.slice d'.a3 d'.l3 d'.c3)).setCell ⟨w.heap.size + 1 + 1,3,none⟩ (.slice d'.a4 d'.l4 d'.c4)).setCell ⟨w.heap.size + 1 + 1,4,none⟩ (.slice d'.a5 d'.l5 d'.c5)).setCell ⟨w.heap.size + 1 + 1,5,none⟩ (.int .i64 c.now)).setCell ⟨w.heap.size + 1 + 1,6,none⟩ (.string ((mkV x (zoneOf t k.z)).n))).setCell ⟨w.heap.size + 1 + 1,7,none⟩ (.int .i64 0))) (fun q hq s => by have s1 : w.heap.size + 1 + 1 + 1 + 1 + 1 ≤ q:=s;rw [Below.heap_setCell _ _ _ _ (show q ≠ w.heap.size + 1 + 1 by omega),Below.heap_setCell _ _ _ _ (show q ≠ w.heap.size + 1 + 1 by omega),Below.heap_setCell _ _ _ _ (show q ≠ w.heap.size + 1 + 1 by omega),Below.heap_setCell _ _ _ _ (show q ≠ w.heap.size + 1 + 1 by omega),Below.heap_setCell _ _ _ _ (show q ≠ w.heap.size + 1 + 1 by omega),Below.heap_setCell _ _ _ _ (show q ≠ w.heap.size + 1 + 1 by omega),Below.heap_setCell _ _ _ _ (show q ≠ w.heap.size + 1 + 1 by omega),Below.heap_setCell _ _ _ _ (show q ≠ w.heap.size + 1 + 1 by omega)]) (fun q _ s => by have s1 : w.heap.size + 1 + 1 + 1 + 1 + 1 ≤ q:=s;show w.heap.size ≤ q;omega)⟩

end Rc
end Go.Proofs.YtmknjejaochfjaaGreatDoor

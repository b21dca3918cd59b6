import Derived.Test.YtpibkpofdbjdaaaGreatDoorB5
/-
 Lists of records that came in, opened.
-/
set_option maxRecDepth 100000
set_option maxHeartbeats 12800000
namespace Go.Proofs.YtpibkpofdbjdaaaGreatDoor
theorem qqa14 {p : Prop} (h : p:=by
 obtain ⟨f,hf⟩:=choose_lt each;refine ⟨some ⟨b,o,none⟩,len,cap,(List.range len).map f,by simpa using hcs,by simp,hl,hm',.inr ⟨b,o,rfl,hblt,fun j r hj => ?_⟩⟩;rw [List.getElem?_map,List.getElem?_map] at hj;by_cases hjl : j < len
 ·rw [List.getElem?_range hjl] at hj;obtain rfl:=Option.some.inj hj;exact hf j hjl
 ·rw [List.getElem?_eq_none qqd7] at hj;cases hj) : p:=h
theorem qqa61 {p : Prop} (h : p:=by
 cases hi;exact ⟨_,(hc 0 qqd1).trans e0,rfl,show b0.size ≤ _ by omega⟩) : p:=h
theorem qqa93 {p : Prop} (h : p:=by
 cases hi;exact ⟨_,(hc 2 qqd1).trans e2,rfl,show b2.size ≤ _ by omega⟩) : p:=h
theorem qqa113 {p : Prop} (h : p:=by
 obtain ⟨_,hl0,hc0⟩:=World.cells?_some k1;have:=hc0 0 qqd1;rw [List.getElem?_eq_getElem qqd1] at this;rcases Nat.lt_or_ge b w.heap.size with h1 | h1
 ·exact h1
 ·simp [Addr.add,World.cell?,Array.getElem?_eq_none h1] at this) : p:=h
theorem qqa117 {p : Prop} (h : p:=by
 obtain ⟨_,hl0,hc0⟩:=World.cells?_some k1;have:=hc0 0 qqd1;rw [List.getElem?_eq_getElem qqd1] at this;simpa [Addr.add] using World.cell?_spot this) : p:=h
theorem qqa127 {p : Prop} (h : p:=by
 have:=hc0 j hj;rw [add_add,Addr.add_lit] at this;rw [Nat.add_assoc];exact this) : p:=h
theorem qqa129 {p : Prop} (h : p:=by
 exact ⟨none,0,0,[],by simpa using hcs,rfl,Nat.le_refl _,by omega,.inl rfl⟩) : p:=h
theorem qqa130 {p : Prop} (h : p:=by
 subst h0;exact ⟨some a,0,cap,[],by simpa using hcs,rfl,hl,hm',.inl rfl⟩) : p:=h
end Go.Proofs.YtpibkpofdbjdaaaGreatDoor
namespace Go.Proofs.YtpibkpofdbjdaaaGreatDoor
open Go.RowKit Go.ChangeShapes Go.WideShapes Go.Deep
namespace Rc

section
variable {H : Type} {enc : TypeId × Value → H} {w : World} {base : Nat} {spare : Nat → Bool} {held : Bool}

theorem nd_of_trod {b o n : Nat} {cs : List Value} {x : DataW H × List MemPlace} (hc : ∀ i,i < 7 → w.cell? ⟨b,o + i,none⟩ = cs[i]?) (h : DataW.trod enc Tryz.prog w base spare held n 93 cs = some x) : ∃ v : Nd,RAt w b o (ndF v):=by
 obtain ⟨m,hl,hf⟩:=open_aggC Tryz.underlying93 qqd2 qqd2 h;obtain ⟨c0,y0,e0,t0⟩:=hf 0 _ rfl;obtain ⟨b0,q0,-,s0⟩:=DataW.trod_string Tryz.underlying9 t0;obtain rfl : c0 = .string b0:=by simpa using q0
 obtain ⟨c1,y1,e1,t1⟩:=hf 1 _ rfl;obtain ⟨b1,q1,-,s1⟩:=DataW.trod_string Tryz.underlying9 t1;obtain rfl : c1 = .string b1:=by simpa using q1
 obtain ⟨c2,y2,e2,t2⟩:=hf 2 _ rfl;obtain ⟨b2,q2,-,s2⟩:=DataW.trod_int Tryz.underlying2 t2;obtain rfl : c2 = .int .i64 b2:=by simpa using q2
 obtain ⟨c3,y3,e3,t3⟩:=hf 3 _ rfl;obtain ⟨b3,q3,-,s3⟩:=DataW.trod_int Tryz.underlying2 t3;obtain rfl : c3 = .int .i64 b3:=by simpa using q3
 obtain ⟨c4,y4,e4,t4⟩:=hf 4 _ rfl;obtain ⟨b4,q4,-,s4⟩:=DataW.trod_int Tryz.underlying2 t4;obtain rfl : c4 = .int .i64 b4:=by simpa using q4
 obtain ⟨c5,y5,e5,t5⟩:=hf 5 _ rfl;obtain ⟨b5,q5,-⟩:=DataW.trod_bool Tryz.underlying4 t5;obtain rfl : c5 = .bool b5:=by simpa using q5
 obtain ⟨c6,y6,e6,t6⟩:=hf 6 _ rfl;obtain ⟨b6,l6,p6,zz,rfl,r6⟩:=row_of_trod Tryz.underlying67 Tryz.underlying9 qqd2 t6;unfold maxLen at s0 s1;refine ⟨⟨b0,b1,b2,b3,b4,b5,zz⟩,fun i f hi => ?_⟩;rcases i with _ | _ | _ | _ | _ | _ | _ | i
 ·exact qqa61
 ·cases hi;exact ⟨_,(hc 1 qqd1).trans e1,rfl,show b1.size ≤ _ by omega⟩
 ·cases hi;exact ⟨_,(hc 2 qqd1).trans e2,rfl⟩
 ·cases hi;exact ⟨_,(hc 3 qqd1).trans e3,rfl⟩
 ·cases hi;exact ⟨_,(hc 4 qqd1).trans e4,rfl⟩
 ·cases hi;exact ⟨_,(hc 5 qqd1).trans e5,rfl⟩
 ·cases hi;exact ⟨_,(hc 6 qqd1).trans e6,b6,l6,p6,rfl,r6⟩
 ·first | (cases hi;done) | (simp [ndF] at hi;done)

theorem ndrow_of_trod {n : Nat} {c : Value} {y : DataW H × List MemPlace} (h : DataW.trod enc Tryz.prog w base spare held n 22 [c] = some y) : ∃ a len cap,∃ xs : List Nd,c = .slice a len cap ∧ RRow w a len cap 7 (xs.map ndF):=by
 rcases open_slice Tryz.underlying22 h with ⟨hcs,_⟩ | ⟨a,len,cap,m,n',D,Pl,hcs,hb,hl,hm,hmm,_,hx⟩
 ·exact qqa129
 obtain ⟨hlm,hm'⟩:=qqb25;have hce : Tryz.prog.cellsOf 93 = 7:=qqd2
 rw [hce] at hx;by_cases h0 : len = 0
 ·exact qqa130
 obtain ⟨b,o,spot⟩:=a;obtain ⟨cs0,k1,k2⟩:=hx 0 qqd1;have hspot : spot = none:=by
  exact qqa117
 subst hspot;have hblt : b < w.heap.size:=by
  exact qqa113
 have each : ∀ i,i < len → ∃ v : Nd,RAt w b (o + i * 7) (ndF v):=fun i hi => by
  obtain ⟨cs,k1,k2⟩:=hx i qqd1;obtain ⟨_,hl0,hc0⟩:=World.cells?_some k1;refine nd_of_trod (fun j hj => ?_) k2;exact qqa127
 have hin : Inhabited Nd:=⟨⟨⟨#[]⟩,⟨#[]⟩,0,0,0,false,[]⟩⟩;exact qqa14

theorem kd_of_trod {b o n : Nat} {cs : List Value} {x : DataW H × List MemPlace} (hc : ∀ i,i < 4 → w.cell? ⟨b,o + i,none⟩ = cs[i]?) (h : DataW.trod enc Tryz.prog w base spare held n 96 cs = some x) : ∃ v : Kd,RAt w b o (kdF v):=by
 obtain ⟨m,hl,hf⟩:=open_aggC Tryz.underlying96 qqd2 qqd2 h;obtain ⟨c0,y0,e0,t0⟩:=hf 0 _ rfl;obtain ⟨b0,q0,-,s0⟩:=DataW.trod_string Tryz.underlying9 t0;obtain rfl : c0 = .string b0:=by simpa using q0
 obtain ⟨c1,y1,e1,t1⟩:=hf 1 _ rfl;obtain ⟨b1,q1,-⟩:=DataW.trod_bool Tryz.underlying4 t1;obtain rfl : c1 = .bool b1:=by simpa using q1
 obtain ⟨c2,y2,e2,t2⟩:=hf 2 _ rfl;obtain ⟨b2,q2,-⟩:=DataW.trod_bool Tryz.underlying4 t2;obtain rfl : c2 = .bool b2:=by simpa using q2
 obtain ⟨c3,y3,e3,t3⟩:=hf 3 _ rfl;obtain ⟨b3,q3,-,s3⟩:=DataW.trod_string Tryz.underlying9 t3;obtain rfl : c3 = .string b3:=by simpa using q3
 unfold maxLen at s0 s3;refine ⟨⟨b0,b1,b2,b3⟩,fun i f hi => ?_⟩;rcases i with _ | _ | _ | _ | i
 ·exact qqa61
 ·cases hi;exact ⟨_,(hc 1 qqd1).trans e1,rfl⟩
 ·cases hi;exact ⟨_,(hc 2 qqd1).trans e2,rfl⟩
 ·cases hi;exact ⟨_,(hc 3 qqd1).trans e3,rfl,show b3.size ≤ _ by omega⟩
 ·first | (cases hi;done) | (simp [kdF] at hi;done)

theorem kdrow_of_trod {n : Nat} {c : Value} {y : DataW H × List MemPlace} (h : DataW.trod enc Tryz.prog w base spare held n 23 [c] = some y) : ∃ a len cap,∃ xs : List Kd,c = .slice a len cap ∧ RRow w a len cap 4 (xs.map kdF):=by
 rcases open_slice Tryz.underlying23 h with ⟨hcs,_⟩ | ⟨a,len,cap,m,n',D,Pl,hcs,hb,hl,hm,hmm,_,hx⟩
 ·exact qqa129
 obtain ⟨hlm,hm'⟩:=qqb25;have hce : Tryz.prog.cellsOf 96 = 4:=qqd2
 rw [hce] at hx;by_cases h0 : len = 0
 ·exact qqa130
 obtain ⟨b,o,spot⟩:=a;obtain ⟨cs0,k1,k2⟩:=hx 0 qqd1;have hspot : spot = none:=by
  exact qqa117
 subst hspot;have hblt : b < w.heap.size:=by
  exact qqa113
 have each : ∀ i,i < len → ∃ v : Kd,RAt w b (o + i * 4) (kdF v):=fun i hi => by
  obtain ⟨cs,k1,k2⟩:=hx i qqd1;obtain ⟨_,hl0,hc0⟩:=World.cells?_some k1;refine kd_of_trod (fun j hj => ?_) k2;exact qqa127
 have hin : Inhabited Kd:=⟨⟨⟨#[]⟩,false,false,⟨#[]⟩⟩⟩;exact qqa14

theorem vd_of_trod {b o n : Nat} {cs : List Value} {x : DataW H × List MemPlace} (hc : ∀ i,i < 8 → w.cell? ⟨b,o + i,none⟩ = cs[i]?) (h : DataW.trod enc Tryz.prog w base spare held n 99 cs = some x) : ∃ v : Vd,RAt w b o (vdF v):=by
 obtain ⟨m,hl,hf⟩:=open_aggC Tryz.underlying99 qqd2 qqd2 h;obtain ⟨c0,y0,e0,t0⟩:=hf 0 _ rfl;obtain ⟨b0,q0,-,s0⟩:=DataW.trod_string Tryz.underlying9 t0;obtain rfl : c0 = .string b0:=by simpa using q0
 obtain ⟨c1,y1,e1,t1⟩:=hf 1 _ rfl;obtain ⟨b1,q1,-,s1⟩:=DataW.trod_int Tryz.underlying2 t1;obtain rfl : c1 = .int .i64 b1:=by simpa using q1
 obtain ⟨c2,y2,e2,t2⟩:=hf 2 _ rfl;obtain ⟨b2,q2,-,s2⟩:=DataW.trod_string Tryz.underlying9 t2;obtain rfl : c2 = .string b2:=by simpa using q2
 obtain ⟨c3,y3,e3,t3⟩:=hf 3 _ rfl;obtain ⟨b3,q3,-,s3⟩:=DataW.trod_string Tryz.underlying9 t3;obtain rfl : c3 = .string b3:=by simpa using q3
 obtain ⟨c4,y4,e4,t4⟩:=hf 4 _ rfl;obtain ⟨b4,q4,-⟩:=DataW.trod_bool Tryz.underlying4 t4;obtain rfl : c4 = .bool b4:=by simpa using q4
 obtain ⟨c5,y5,e5,t5⟩:=hf 5 _ rfl;obtain ⟨b5,q5,-,s5⟩:=DataW.trod_string Tryz.underlying9 t5;obtain rfl : c5 = .string b5:=by simpa using q5
 obtain ⟨c6,y6,e6,t6⟩:=hf 6 _ rfl;obtain ⟨b6,q6,-⟩:=DataW.trod_bool Tryz.underlying4 t6;obtain rfl : c6 = .bool b6:=by simpa using q6
 obtain ⟨c7,y7,e7,t7⟩:=hf 7 _ rfl;obtain ⟨b7,l7,p7,zz,rfl,r7⟩:=row_of_trod Tryz.underlying67 Tryz.underlying9 qqd2 t7;unfold maxLen at s0 s2 s3 s5;refine ⟨⟨b0,b1,b2,b3,b4,b5,b6,zz⟩,fun i f hi => ?_⟩;rcases i with _ | _ | _ | _ | _ | _ | _ | _ | i
 ·exact qqa61
 ·cases hi;exact ⟨_,(hc 1 qqd1).trans e1,rfl⟩
 ·exact qqa93
 ·cases hi;exact ⟨_,(hc 3 qqd1).trans e3,rfl,show b3.size ≤ _ by omega⟩
 ·cases hi;exact ⟨_,(hc 4 qqd1).trans e4,rfl⟩
 ·cases hi;exact ⟨_,(hc 5 qqd1).trans e5,rfl,show b5.size ≤ _ by omega⟩
 ·cases hi;exact ⟨_,(hc 6 qqd1).trans e6,rfl⟩
 ·cases hi;exact ⟨_,(hc 7 qqd1).trans e7,b7,l7,p7,rfl,r7⟩
 ·first | (cases hi;done) | (simp [vdF] at hi;done)

theorem vdrow_of_trod {n : Nat} {c : Value} {y : DataW H × List MemPlace} (h : DataW.trod enc Tryz.prog w base spare held n 24 [c] = some y) : ∃ a len cap,∃ xs : List Vd,c = .slice a len cap ∧ RRow w a len cap 8 (xs.map vdF):=by
 rcases open_slice Tryz.underlying24 h with ⟨hcs,_⟩ | ⟨a,len,cap,m,n',D,Pl,hcs,hb,hl,hm,hmm,_,hx⟩
 ·exact qqa129
 obtain ⟨hlm,hm'⟩:=qqb25;have hce : Tryz.prog.cellsOf 99 = 8:=qqd2
 rw [hce] at hx;by_cases h0 : len = 0
 ·exact qqa130
 obtain ⟨b,o,spot⟩:=a;obtain ⟨cs0,k1,k2⟩:=hx 0 qqd1;have hspot : spot = none:=by
  exact qqa117
 subst hspot;have hblt : b < w.heap.size:=by
  exact qqa113
 have each : ∀ i,i < len → ∃ v : Vd,RAt w b (o + i * 8) (vdF v):=fun i hi => by
  obtain ⟨cs,k1,k2⟩:=hx i qqd1;obtain ⟨_,hl0,hc0⟩:=World.cells?_some k1;refine vd_of_trod (fun j hj => ?_) k2;exact qqa127
 have hin : Inhabited Vd:=⟨⟨⟨#[]⟩,0,⟨#[]⟩,⟨#[]⟩,false,⟨#[]⟩,false,[]⟩⟩;exact qqa14

theorem xd_of_trod {b o n : Nat} {cs : List Value} {x : DataW H × List MemPlace} (hc : ∀ i,i < 5 → w.cell? ⟨b,o + i,none⟩ = cs[i]?) (h : DataW.trod enc Tryz.prog w base spare held n 102 cs = some x) : ∃ v : Xd,RAt w b o (xdF v):=by
 obtain ⟨m,hl,hf⟩:=open_aggC Tryz.underlying102 qqd2 qqd2 h;obtain ⟨c0,y0,e0,t0⟩:=hf 0 _ rfl;obtain ⟨b0,q0,-,s0⟩:=DataW.trod_string Tryz.underlying9 t0;obtain rfl : c0 = .string b0:=by simpa using q0
 obtain ⟨c1,y1,e1,t1⟩:=hf 1 _ rfl;obtain ⟨b1,q1,-,s1⟩:=DataW.trod_int Tryz.underlying2 t1;obtain rfl : c1 = .int .i64 b1:=by simpa using q1
 obtain ⟨c2,y2,e2,t2⟩:=hf 2 _ rfl;obtain ⟨b2,q2,-,s2⟩:=DataW.trod_string Tryz.underlying9 t2;obtain rfl : c2 = .string b2:=by simpa using q2
 obtain ⟨c3,y3,e3,t3⟩:=hf 3 _ rfl;obtain ⟨b3,q3,-⟩:=DataW.trod_bool Tryz.underlying4 t3;obtain rfl : c3 = .bool b3:=by simpa using q3
 obtain ⟨c4,y4,e4,t4⟩:=hf 4 _ rfl;obtain ⟨b4,q4,-,s4⟩:=DataW.trod_string Tryz.underlying9 t4;obtain rfl : c4 = .string b4:=by simpa using q4
 unfold maxLen at s0 s2 s4;refine ⟨⟨b0,b1,b2,b3,b4⟩,fun i f hi => ?_⟩;rcases i with _ | _ | _ | _ | _ | i
 ·exact qqa61
 ·cases hi;exact ⟨_,(hc 1 qqd1).trans e1,rfl⟩
 ·exact qqa93
 ·cases hi;exact ⟨_,(hc 3 qqd1).trans e3,rfl⟩
 ·cases hi;exact ⟨_,(hc 4 qqd1).trans e4,rfl,show b4.size ≤ _ by omega⟩
 ·first | (cases hi;done) | (simp [xdF] at hi;done)

theorem xdrow_of_trod {n : Nat} {c : Value} {y : DataW H × List MemPlace} (h : DataW.trod enc Tryz.prog w base spare held n 25 [c] = some y) : ∃ a len cap,∃ xs : List Xd,c = .slice a len cap ∧ RRow w a len cap 5 (xs.map xdF):=by
 rcases open_slice Tryz.underlying25 h with ⟨hcs,_⟩ | ⟨a,len,cap,m,n',D,Pl,hcs,hb,hl,hm,hmm,_,hx⟩
 ·exact qqa129
 obtain ⟨hlm,hm'⟩:=qqb25;have hce : Tryz.prog.cellsOf 102 = 5:=qqd2
 rw [hce] at hx;by_cases h0 : len = 0
 ·exact qqa130
 obtain ⟨b,o,spot⟩:=a;obtain ⟨cs0,k1,k2⟩:=hx 0 qqd1;have hspot : spot = none:=by
  exact qqa117
 subst hspot;have hblt : b < w.heap.size:=by
  exact qqa113
 have each : ∀ i,i < len → ∃ v : Xd,RAt w b (o + i * 5) (xdF v):=fun i hi => by
  obtain ⟨cs,k1,k2⟩:=hx i qqd1;obtain ⟨_,hl0,hc0⟩:=World.cells?_some k1;refine xd_of_trod (fun j hj => ?_) k2;exact qqa127
 have hin : Inhabited Xd:=⟨⟨⟨#[]⟩,0,⟨#[]⟩,false,⟨#[]⟩⟩⟩;exact qqa14

theorem pd_of_trod {b o n : Nat} {cs : List Value} {x : DataW H × List MemPlace} (hc : ∀ i,i < 6 → w.cell? ⟨b,o + i,none⟩ = cs[i]?) (h : DataW.trod enc Tryz.prog w base spare held n 104 cs = some x) : ∃ v : Pd,RAt w b o (pdF v):=by
 obtain ⟨m,hl,hf⟩:=open_aggC Tryz.underlying104 qqd2 qqd2 h;obtain ⟨c0,y0,e0,t0⟩:=hf 0 _ rfl;obtain ⟨b0,q0,-,s0⟩:=DataW.trod_string Tryz.underlying9 t0;obtain rfl : c0 = .string b0:=by simpa using q0
 obtain ⟨c1,y1,e1,t1⟩:=hf 1 _ rfl;obtain ⟨b1,q1,-,s1⟩:=DataW.trod_int Tryz.underlying2 t1;obtain rfl : c1 = .int .i64 b1:=by simpa using q1
 obtain ⟨c2,y2,e2,t2⟩:=hf 2 _ rfl;obtain ⟨b2,q2,-,s2⟩:=DataW.trod_string Tryz.underlying9 t2;obtain rfl : c2 = .string b2:=by simpa using q2
 obtain ⟨c3,y3,e3,t3⟩:=hf 3 _ rfl;obtain ⟨b3,l3,p3,zz,rfl,r3⟩:=row_of_trod Tryz.underlying67 Tryz.underlying9 qqd2 t3;obtain ⟨c4,y4,e4,t4⟩:=hf 4 _ rfl;obtain ⟨b4,q4,-,s4⟩:=DataW.trod_string Tryz.underlying9 t4;obtain rfl : c4 = .string b4:=by simpa using q4
 obtain ⟨c5,y5,e5,t5⟩:=hf 5 _ rfl;obtain ⟨b5,q5,-,s5⟩:=DataW.trod_int Tryz.underlying2 t5;obtain rfl : c5 = .int .i64 b5:=by simpa using q5
 unfold maxLen at s0 s2 s4;refine ⟨⟨b0,b1,b2,zz,b4,b5⟩,fun i f hi => ?_⟩;rcases i with _ | _ | _ | _ | _ | _ | i
 ·exact qqa61
 ·cases hi;exact ⟨_,(hc 1 qqd1).trans e1,rfl⟩
 ·exact qqa93
 ·cases hi;exact ⟨_,(hc 3 qqd1).trans e3,b3,l3,p3,rfl,r3⟩
 ·cases hi;exact ⟨_,(hc 4 qqd1).trans e4,rfl,show b4.size ≤ _ by omega⟩
 ·cases hi;exact ⟨_,(hc 5 qqd1).trans e5,rfl⟩
 ·first | (cases hi;done) | (simp [pdF] at hi;done)

theorem pdrow_of_trod {n : Nat} {c : Value} {y : DataW H × List MemPlace} (h : DataW.trod enc Tryz.prog w base spare held n 26 [c] = some y) : ∃ a len cap,∃ xs : List Pd,c = .slice a len cap ∧ RRow w a len cap 6 (xs.map pdF):=by
 rcases open_slice Tryz.underlying26 h with ⟨hcs,_⟩ | ⟨a,len,cap,m,n',D,Pl,hcs,hb,hl,hm,hmm,_,hx⟩
 ·exact qqa129
 obtain ⟨hlm,hm'⟩:=qqb25;have hce : Tryz.prog.cellsOf 104 = 6:=qqd2
 rw [hce] at hx;by_cases h0 : len = 0
 ·exact qqa130
 obtain ⟨b,o,spot⟩:=a;obtain ⟨cs0,k1,k2⟩:=hx 0 qqd1;have hspot : spot = none:=by
  exact qqa117
 subst hspot;have hblt : b < w.heap.size:=by
  exact qqa113
 have each : ∀ i,i < len → ∃ v : Pd,RAt w b (o + i * 6) (pdF v):=fun i hi => by
  obtain ⟨cs,k1,k2⟩:=hx i qqd1;obtain ⟨_,hl0,hc0⟩:=World.cells?_some k1;refine pd_of_trod (fun j hj => ?_) k2;exact qqa127
 have hin : Inhabited Pd:=⟨⟨⟨#[]⟩,0,⟨#[]⟩,[],⟨#[]⟩,0⟩⟩;exact qqa14

end

end Rc
end Go.Proofs.YtpibkpofdbjdaaaGreatDoor

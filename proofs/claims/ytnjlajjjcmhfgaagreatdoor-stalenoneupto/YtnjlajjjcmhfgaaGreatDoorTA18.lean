import Derived.Test.YtnjlajjjcmhfgaaGreatDoorTA17
import Derived.Laws.EntriesVeiled
namespace Go.Proofs.YtnjlajjjcmhfgaaGreatDoor
open Go.RowKit
open Mm (Turn)
set_option linter.unusedVariables false
set_option linter.unusedSimpArgs false
set_option maxRecDepth 100000 in
theorem eqB (a b:Blo) (w:World):(Op.equalIn 10000 45 (.agg #[.int .i64 a.asid,.int .i64 a.t.size,.int .u32 a.t.va,.int .u64 a.t.pa,.int .i64 a.t.dom,.int .i64 a.t.ap,.int .u32 a.t.bits,.bool a.t.ng,.bool a.t.xn]) (.agg #[.int .i64 b.asid,.int .i64 b.t.size,.int .u32 b.t.va,.int .u64 b.t.pa,.int .i64 b.t.dom,.int .i64 b.t.ap,.int .u32 b.t.bits,.bool b.t.ng,.bool b.t.xn])).run Tryz.prog w= .ok (a.same b) w:=by
  obtain ⟨a0,a1,a2,a3,a4,a5,a6,a7,a8⟩:=a
  obtain ⟨b0,b1,b2,b3,b4,b5,b6,b7,b8⟩:=b
  go_simp
  simp only [Blo.same,Tra.same]
  repeat' split
  all_goals simp_all
end Go.Proofs.YtnjlajjjcmhfgaaGreatDoor
namespace Go.Proofs.YtnjlajjjcmhfgaaGreatDoor
open Go.RowKit
open Mm (Turn)
set_option linter.unusedVariables false
set_option linter.unusedSimpArgs false
end Go.Proofs.YtnjlajjjcmhfgaaGreatDoor
namespace Go.Proofs.YtnjlajjjcmhfgaaGreatDoor
open Go.RowKit
open Mm (Turn)
set_option linter.unusedVariables false
set_option linter.unusedSimpArgs false
set_option maxRecDepth 100000 in
set_option maxHeartbeats 4000000 in
theorem picked_1y (va asid:Int) (W:World) (h1:va=0) (h2:asid=0) :
    Calls Tryz.prog 45 #[.agg #[.int .i64 1,.int .u32 va,.int .i64 asid]] W fun e w'=>e= .returned (.func (.func 77) #[] #[])∧Bl w' W.heap.size 34 [.int .i64 1,.int .u32 va,.int .i64 asid]∧Below W.heap.size W w':=by
  subst h1
  subst h2
  have HA:=isAsid_any 0
  go_enter Tryz.func45,Tryz.ntmps45
  go_wp2_with (go_at_call 76; refine (HA _).mono ?_; rintro e w' ⟨rfl,rfl⟩)
  go_ret
  exact ⟨rfl,Bl.new _ _ _,below_new _ _⟩
set_option maxRecDepth 100000 in
set_option maxHeartbeats 4000000 in
theorem picked_1a (va asid:Int) (W:World) (h1:¬va=0) :
    Calls Tryz.prog 45 #[.agg #[.int .i64 1,.int .u32 va,.int .i64 asid]] W fun e w'=>e= .returned (.func (.func 82) #[] #[])∧Bl w' W.heap.size 34 [.int .i64 1,.int .u32 va,.int .i64 asid]∧Below W.heap.size W w':=by
  have HA:=isAsid_any asid
  go_enter Tryz.func45,Tryz.ntmps45
  go_wp2_with (go_at_call 76; refine (HA _).mono ?_; rintro e w' ⟨rfl,rfl⟩)
  go_ret
  exact ⟨rfl,Bl.new _ _ _,below_new _ _⟩
set_option maxRecDepth 100000 in
set_option maxHeartbeats 4000000 in
theorem picked_1b (va asid:Int) (W:World) (h1:va=0) (h2:¬asid=0) :
    Calls Tryz.prog 45 #[.agg #[.int .i64 1,.int .u32 va,.int .i64 asid]] W fun e w'=>e= .returned (.func (.func 82) #[] #[])∧Bl w' W.heap.size 34 [.int .i64 1,.int .u32 va,.int .i64 asid]∧Below W.heap.size W w':=by
  subst h1
  have HA:=isAsid_any asid
  go_enter Tryz.func45,Tryz.ntmps45
  go_wp2_with (go_at_call 76; refine (HA _).mono ?_; rintro e w' ⟨rfl,rfl⟩)
  go_ret
  exact ⟨rfl,Bl.new _ _ _,below_new _ _⟩
set_option maxRecDepth 100000 in
set_option maxHeartbeats 4000000 in
theorem picked_2y (va asid:Int) (W:World) (h1:asF asid=true) :
    Calls Tryz.prog 45 #[.agg #[.int .i64 2,.int .u32 va,.int .i64 asid]] W fun e w'=>e= .returned (.func (.func 78) #[] #[.pointer (some ⟨W.heap.size,0,none⟩)])∧Bl w' W.heap.size 34 [.int .i64 2,.int .u32 va,.int .i64 asid]∧Below W.heap.size W w':=by
  have HA:=isAsid_any asid
  rw [h1] at HA
  go_enter Tryz.func45,Tryz.ntmps45
  go_wp2_with (go_at_call 76; refine (HA _).mono ?_; rintro e w' ⟨rfl,rfl⟩)
  go_ret
  exact ⟨rfl,Bl.new _ _ _,below_new _ _⟩
set_option maxRecDepth 100000 in
set_option maxHeartbeats 4000000 in
theorem picked_2n (va asid:Int) (W:World) (h1:asF asid=false) :
    Calls Tryz.prog 45 #[.agg #[.int .i64 2,.int .u32 va,.int .i64 asid]] W fun e w'=>e= .returned (.func (.func 82) #[] #[])∧Bl w' W.heap.size 34 [.int .i64 2,.int .u32 va,.int .i64 asid]∧Below W.heap.size W w':=by
  have HA:=isAsid_any asid
  rw [h1] at HA
  go_enter Tryz.func45,Tryz.ntmps45
  go_wp2_with (go_at_call 76; refine (HA _).mono ?_; rintro e w' ⟨rfl,rfl⟩)
  go_ret
  exact ⟨rfl,Bl.new _ _ _,below_new _ _⟩
set_option maxRecDepth 100000 in
set_option maxHeartbeats 4000000 in
theorem picked_3y (va asid:Int) (W:World) (h1:va=0) (h2:asF asid=true) :
    Calls Tryz.prog 45 #[.agg #[.int .i64 3,.int .u32 va,.int .i64 asid]] W fun e w'=>e= .returned (.func (.func 79) #[] #[.pointer (some ⟨W.heap.size,0,none⟩)])∧Bl w' W.heap.size 34 [.int .i64 3,.int .u32 va,.int .i64 asid]∧Below W.heap.size W w':=by
  subst h1
  have HA:=isAsid_any asid
  rw [h2] at HA
  go_enter Tryz.func45,Tryz.ntmps45
  go_wp2_with (go_at_call 76; refine (HA _).mono ?_; rintro e w' ⟨rfl,rfl⟩)
  go_ret
  exact ⟨rfl,Bl.new _ _ _,below_new _ _⟩
set_option maxRecDepth 100000 in
set_option maxHeartbeats 4000000 in
theorem picked_3a (va asid:Int) (W:World) (h1:¬va=0) :
    Calls Tryz.prog 45 #[.agg #[.int .i64 3,.int .u32 va,.int .i64 asid]] W fun e w'=>e= .returned (.func (.func 82) #[] #[])∧Bl w' W.heap.size 34 [.int .i64 3,.int .u32 va,.int .i64 asid]∧Below W.heap.size W w':=by
  have HA:=isAsid_any asid
  go_enter Tryz.func45,Tryz.ntmps45
  go_wp2_with (go_at_call 76; refine (HA _).mono ?_; rintro e w' ⟨rfl,rfl⟩)
  go_ret
  exact ⟨rfl,Bl.new _ _ _,below_new _ _⟩
set_option maxRecDepth 100000 in
set_option maxHeartbeats 4000000 in
theorem picked_3b (va asid:Int) (W:World) (h1:va=0) (h2:asF asid=false) :
    Calls Tryz.prog 45 #[.agg #[.int .i64 3,.int .u32 va,.int .i64 asid]] W fun e w'=>e= .returned (.func (.func 82) #[] #[])∧Bl w' W.heap.size 34 [.int .i64 3,.int .u32 va,.int .i64 asid]∧Below W.heap.size W w':=by
  subst h1
  have HA:=isAsid_any asid
  rw [h2] at HA
  go_enter Tryz.func45,Tryz.ntmps45
  go_wp2_with (go_at_call 76; refine (HA _).mono ?_; rintro e w' ⟨rfl,rfl⟩)
  go_ret
  exact ⟨rfl,Bl.new _ _ _,below_new _ _⟩
set_option maxRecDepth 100000 in
set_option maxHeartbeats 4000000 in
theorem picked_4y (va asid:Int) (W:World) (h1:asid=0) :
    Calls Tryz.prog 45 #[.agg #[.int .i64 4,.int .u32 va,.int .i64 asid]] W fun e w'=>e= .returned (.func (.func 80) #[] #[.pointer (some ⟨W.heap.size,0,none⟩)])∧Bl w' W.heap.size 34 [.int .i64 4,.int .u32 va,.int .i64 asid]∧Below W.heap.size W w':=by
  subst h1
  have HA:=isAsid_any 0
  go_enter Tryz.func45,Tryz.ntmps45
  go_wp2_with (go_at_call 76; refine (HA _).mono ?_; rintro e w' ⟨rfl,rfl⟩)
  go_ret
  exact ⟨rfl,Bl.new _ _ _,below_new _ _⟩
set_option maxRecDepth 100000 in
set_option maxHeartbeats 4000000 in
theorem picked_4n (va asid:Int) (W:World) (h1:¬asid=0) :
    Calls Tryz.prog 45 #[.agg #[.int .i64 4,.int .u32 va,.int .i64 asid]] W fun e w'=>e= .returned (.func (.func 82) #[] #[])∧Bl w' W.heap.size 34 [.int .i64 4,.int .u32 va,.int .i64 asid]∧Below W.heap.size W w':=by
  have HA:=isAsid_any asid
  go_enter Tryz.func45,Tryz.ntmps45
  go_wp2_with (go_at_call 76; refine (HA _).mono ?_; rintro e w' ⟨rfl,rfl⟩)
  go_ret
  exact ⟨rfl,Bl.new _ _ _,below_new _ _⟩
set_option maxRecDepth 100000 in
set_option maxHeartbeats 4000000 in
theorem picked_no (va asid:Int) (k:Int) (W:World) (h1:¬k=1) (h2:¬k=2) (h3:¬k=3) (h4:¬k=4) :
    Calls Tryz.prog 45 #[.agg #[.int .i64 k,.int .u32 va,.int .i64 asid]] W fun e w'=>e= .returned (.func (.func 82) #[] #[])∧Bl w' W.heap.size 34 [.int .i64 k,.int .u32 va,.int .i64 asid]∧Below W.heap.size W w':=by
  have HA:=isAsid_any asid
  go_enter Tryz.func45,Tryz.ntmps45
  go_wp2_with (go_at_call 76; refine (HA _).mono ?_; rintro e w' ⟨rfl,rfl⟩)
  go_ret
  exact ⟨rfl,Bl.new _ _ _,below_new _ _⟩
def Pkd (d:Dro) (f:Nat→Value):Prop:=∀W,Calls Tryz.prog 45 #[.agg #[.int .i64 d.kind,.int .u32 d.va,.int .i64 d.asid]] W fun e w'=>e= .returned (f W.heap.size)∧Bl w' W.heap.size 34 ([.int .i64 d.kind,.int .u32 d.va,.int .i64 d.asid])∧Below W.heap.size W w'
theorem picked_any (d:Dro) :
    ((∀b,pkF d b=true)∧Pkd d (fun _=> .func (.func 77) #[] #[]))∨
    ((∀b,pkF d b=maF b d.va d.asid)∧Pkd d (fun x=> .func (.func 78) #[] #[.pointer (some ⟨x,0,none⟩)]))∨
    ((∀b,pkF d b=(b.asid == d.asid))∧Pkd d (fun x=> .func (.func 79) #[] #[.pointer (some ⟨x,0,none⟩)]))∨
    ((∀b,pkF d b=liF b d.va)∧Pkd d (fun x=> .func (.func 80) #[] #[.pointer (some ⟨x,0,none⟩)]))∨
    ((∀b,pkF d b=false)∧Pkd d (fun _=> .func (.func 82) #[] #[])):=by
  obtain ⟨k,va,asid⟩:=d
  by_cases k1:k=1
  · subst k1
    by_cases h1:va=0
    · by_cases h2:asid=0
      · exact .inl ⟨fun b=>by simp [pkF,h1,h2],fun W=>picked_1y va asid W h1 h2⟩
      · exact .inr (.inr (.inr (.inr ⟨fun b=>by simp [pkF,h2],fun W=>picked_1b va asid W h1 h2⟩)))
    · exact .inr (.inr (.inr (.inr ⟨fun b=>by simp [pkF,h1],fun W=>picked_1a va asid W h1⟩)))
  by_cases k2:k=2
  · subst k2
    cases h1:asF asid
    · exact .inr (.inr (.inr (.inr ⟨fun b=>by simp [pkF,h1],fun W=>picked_2n va asid W h1⟩)))
    · exact .inr (.inl ⟨fun b=>by simp [pkF,h1],fun W=>picked_2y va asid W h1⟩)
  by_cases k3:k=3
  · subst k3
    by_cases h1:va=0
    · cases h2:asF asid
      · exact .inr (.inr (.inr (.inr ⟨fun b=>by simp [pkF,h1,h2],fun W=>picked_3b va asid W h1 h2⟩)))
      · exact .inr (.inr (.inl ⟨fun b=>by simp [pkF,h1,h2],fun W=>picked_3y va asid W h1 h2⟩))
    · exact .inr (.inr (.inr (.inr ⟨fun b=>by simp [pkF,h1],fun W=>picked_3a va asid W h1⟩)))
  by_cases k4:k=4
  · subst k4
    by_cases h1:asid=0
    · exact .inr (.inr (.inr (.inl ⟨fun b=>by simp [pkF,h1],fun W=>picked_4y va asid W h1⟩)))
    · exact .inr (.inr (.inr (.inr ⟨fun b=>by simp [pkF,h1],fun W=>picked_4n va asid W h1⟩)))
  · exact .inr (.inr (.inr (.inr ⟨fun b=>by simp [pkF,k1,k2,k3,k4],fun W=>picked_no va asid k W k1 k2 k3 k4⟩)))
set_option maxRecDepth 100000 in
theorem pk1_any (b:Blo) (w:World):Calls Tryz.prog 77 #[.agg #[.int .i64 b.asid,.int .i64 b.t.size,.int .u32 b.t.va,.int .u64 b.t.pa,.int .i64 b.t.dom,.int .i64 b.t.ap,.int .u32 b.t.bits,.bool b.t.ng,.bool b.t.xn]] w fun e w'=>e= .returned (.bool true)∧Below w.heap.size w w':=by
  go_enter Tryz.func77,Tryz.ntmps77
  go_wp2
  go_ret
  exact ⟨rfl,below_new _ _⟩
set_option maxRecDepth 100000 in
theorem pk5_any (b:Blo) (w:World):Calls Tryz.prog 82 #[.agg #[.int .i64 b.asid,.int .i64 b.t.size,.int .u32 b.t.va,.int .u64 b.t.pa,.int .i64 b.t.dom,.int .i64 b.t.ap,.int .u32 b.t.bits,.bool b.t.ng,.bool b.t.xn]] w fun e w'=>e= .returned (.bool false)∧Below w.heap.size w w':=by
  go_enter Tryz.func82,Tryz.ntmps82
  go_wp2
  go_ret
  exact ⟨rfl,below_new _ _⟩
set_option maxRecDepth 100000 in
theorem pk3_any (b:Blo) (d:Dro) (x:Nat) (w:World) (hx:Bl w x 34 ([.int .i64 d.kind,.int .u32 d.va,.int .i64 d.asid])):Calls Tryz.prog 79 #[.agg #[.int .i64 b.asid,.int .i64 b.t.size,.int .u32 b.t.va,.int .u64 b.t.pa,.int .i64 b.t.dom,.int .i64 b.t.ap,.int .u32 b.t.bits,.bool b.t.ng,.bool b.t.xn],.pointer (some ⟨x,0,none⟩)] w fun e w'=>e= .returned (.bool (b.asid == d.asid))∧Below w.heap.size w w':=by
  have c0:=(hx.below (below_new w (.cells ([.int .i64 b.asid,.int .i64 b.t.size,.int .u32 b.t.va,.int .u64 b.t.pa,.int .i64 b.t.dom,.int .i64 b.t.ap,.int .u32 b.t.bits,.bool b.t.ng,.bool b.t.xn]).toArray 45))).cell
  go_enter Tryz.func79,Tryz.ntmps79
  go_wp2
  go_ret
  exact ⟨rfl,below_new _ _⟩
set_option maxRecDepth 100000 in
theorem pk2_any (b:Blo) (d:Dro) (x:Nat) (w:World) (hx:Bl w x 34 ([.int .i64 d.kind,.int .u32 d.va,.int .i64 d.asid])) (ht:TB w) (hO:BOk b) (hd:0≤d.va∧d.va<4294967296):Calls Tryz.prog 78 #[.agg #[.int .i64 b.asid,.int .i64 b.t.size,.int .u32 b.t.va,.int .u64 b.t.pa,.int .i64 b.t.dom,.int .i64 b.t.ap,.int .u32 b.t.bits,.bool b.t.ng,.bool b.t.xn],.pointer (some ⟨x,0,none⟩)] w fun e w'=>e= .returned (.bool (maF b d.va d.asid))∧Below w.heap.size w w':=by
  have hb0:=below_new w (.cells ([.int .i64 b.asid,.int .i64 b.t.size,.int .u32 b.t.va,.int .u64 b.t.pa,.int .i64 b.t.dom,.int .i64 b.t.ap,.int .u32 b.t.bits,.bool b.t.ng,.bool b.t.xn]).toArray 45)
  have c0:=(hx.below hb0).cell
  have hm:=match_any b d.va d.asid _ (ht.below hb0) hO hd
  have HB:=hidW hb0
  clear hb0
  go_enter Tryz.func78,Tryz.ntmps78
  go_wp2_with (fail)
  go_at_call 59
  refine hm.mono ?_
  rintro e w1 ⟨rfl,hb⟩
  have HB1:=hidW (Below.step HB.out hb)
  clear hb HB hm
  go_wp2
  go_ret
  exact ⟨rfl,HB1.out⟩
set_option maxRecDepth 100000 in
theorem pk4_any (b:Blo) (d:Dro) (x:Nat) (w:World) (hx:Bl w x 34 ([.int .i64 d.kind,.int .u32 d.va,.int .i64 d.asid])) (ht:TB w) (hO:BOk b) (hd:0≤d.va∧d.va<4294967296):Calls Tryz.prog 80 #[.agg #[.int .i64 b.asid,.int .i64 b.t.size,.int .u32 b.t.va,.int .u64 b.t.pa,.int .i64 b.t.dom,.int .i64 b.t.ap,.int .u32 b.t.bits,.bool b.t.ng,.bool b.t.xn],.pointer (some ⟨x,0,none⟩)] w fun e w'=>e= .returned (.bool (liF b d.va))∧Below w.heap.size w w':=by
  have hb0:=below_new w (.cells ([.int .i64 b.asid,.int .i64 b.t.size,.int .u32 b.t.va,.int .u64 b.t.pa,.int .i64 b.t.dom,.int .i64 b.t.ap,.int .u32 b.t.bits,.bool b.t.ng,.bool b.t.xn]).toArray 45)
  have c0:=(hx.below hb0).cell
  have hm:=lies_any b d.va _ (ht.below hb0) hO hd
  have HB:=hidW hb0
  clear hb0
  go_enter Tryz.func80,Tryz.ntmps80
  go_wp2_with (fail)
  go_at_call 81
  refine hm.mono ?_
  rintro e w1 ⟨rfl,hb⟩
  have HB1:=hidW (Below.step HB.out hb)
  clear hb HB hm
  go_wp2
  go_ret
  exact ⟨rfl,HB1.out⟩
end Go.Proofs.YtnjlajjjcmhfgaaGreatDoor
namespace Go.Proofs.YtnjlajjjcmhfgaaGreatDoor
open Go.RowKit
open Mm (Turn)
set_option linter.unusedVariables false
set_option linter.unusedSimpArgs false
structure KX (W wr:World) (A B:Nat) (d:Dro) (b:Blo):Prop where
  bel:Below W.heap.size W wr
  bd:Bl wr A 34 ([.int .i64 d.kind,.int .u32 d.va,.int .i64 d.asid])
  bb:Bl wr B 45 ([.int .i64 b.asid,.int .i64 b.t.size,.int .u32 b.t.va,.int .u64 b.t.pa,.int .i64 b.t.dom,.int .i64 b.t.ap,.int .u32 b.t.bits,.bool b.t.ng,.bool b.t.xn])
theorem KX.step {W wr w':World} {A B:Nat} {d:Dro} {b:Blo} (h:KX W wr A B d b) (hb:Below wr.heap.size wr w'):KX W w' A B d b:=⟨Below.step h.bel hb,h.bd.below hb,h.bb.below hb⟩
theorem KX.drew {W wr:World} {A B:Nat} {d:Dro} {b:Blo} (h:KX W wr A B d b):KX W wr.drew A B d b:=⟨below_drew h.bel,h.bd,h.bb⟩
theorem KX.start (W:World) (d:Dro) (b:Blo):KX W ((W.alloc (.cells ([.int .i64 d.kind,.int .u32 d.va,.int .i64 d.asid]).toArray 34)).alloc (.cells ([.int .i64 b.asid,.int .i64 b.t.size,.int .u32 b.t.va,.int .u64 b.t.pa,.int .i64 b.t.dom,.int .i64 b.t.ap,.int .u32 b.t.bits,.bool b.t.ng,.bool b.t.xn]).toArray 45)) W.heap.size (W.heap.size+1) d b:=by
  have h1:=below_new W (.cells ([.int .i64 d.kind,.int .u32 d.va,.int .i64 d.asid]).toArray 34)
  have h2:=below_new (W.alloc (.cells ([.int .i64 d.kind,.int .u32 d.va,.int .i64 d.asid]).toArray 34)) (.cells ([.int .i64 b.asid,.int .i64 b.t.size,.int .u32 b.t.va,.int .u64 b.t.pa,.int .i64 b.t.dom,.int .i64 b.t.ap,.int .u32 b.t.bits,.bool b.t.ng,.bool b.t.xn]).toArray 45)
  have h3:=Bl.new (W.alloc (.cells ([.int .i64 d.kind,.int .u32 d.va,.int .i64 d.asid]).toArray 34)) 45 ([.int .i64 b.asid,.int .i64 b.t.size,.int .u32 b.t.va,.int .u64 b.t.pa,.int .i64 b.t.dom,.int .i64 b.t.ap,.int .u32 b.t.bits,.bool b.t.ng,.bool b.t.xn])
  rw [show (W.alloc (.cells ([.int .i64 d.kind,.int .u32 d.va,.int .i64 d.asid]).toArray 34)).heap.size=W.heap.size+1 by simp] at h3
  exact ⟨Below.step h1 h2,(Bl.new _ _ _).below h2,h3⟩
end Go.Proofs.YtnjlajjjcmhfgaaGreatDoor

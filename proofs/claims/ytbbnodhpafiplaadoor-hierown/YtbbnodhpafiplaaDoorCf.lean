import Derived.Test.YtbbnodhpafiplaaDoorCe
import Derived.Laws.EntriesVeiled
namespace Go.Proofs.YtbbnodhpafiplaaDoor
open Go.RowKit
set_option linter.unusedVariables false
set_option linter.unusedSimpArgs false
set_option maxRecDepth 100000 in
set_option maxHeartbeats 4000000 in
theorem picked_1y (va asid : Int) (W : World) (h1 : va = 0) (h2 : asid = 0) :
    Calls Tryd.prog 50 #[.agg #[.int .i64 1, .int .u32 va, .int .i64 asid]] W fun e w' => e = .returned (.func (.func 64) #[] #[]) ∧ Bl w' W.heap.size 42 [.int .i64 1, .int .u32 va, .int .i64 asid] ∧ Below W.heap.size W w' := by
  subst h1
  subst h2
  have HA := isAsid_any 0
  go_enter Tryd.func50, Tryd.ntmps50
  go_wp2_with (go_at_call 26; refine (HA _).mono ?_; rintro e w' ⟨rfl, rfl⟩)
  go_ret
  exact ⟨rfl, Bl.new _ _ _, below_new _ _⟩
set_option maxRecDepth 100000 in
set_option maxHeartbeats 4000000 in
theorem picked_1a (va asid : Int) (W : World) (h1 : ¬ va = 0) :
    Calls Tryd.prog 50 #[.agg #[.int .i64 1, .int .u32 va, .int .i64 asid]] W fun e w' => e = .returned (.func (.func 68) #[] #[]) ∧ Bl w' W.heap.size 42 [.int .i64 1, .int .u32 va, .int .i64 asid] ∧ Below W.heap.size W w' := by
  have HA := isAsid_any asid
  go_enter Tryd.func50, Tryd.ntmps50
  go_wp2_with (go_at_call 26; refine (HA _).mono ?_; rintro e w' ⟨rfl, rfl⟩)
  go_ret
  exact ⟨rfl, Bl.new _ _ _, below_new _ _⟩
set_option maxRecDepth 100000 in
set_option maxHeartbeats 4000000 in
theorem picked_1b (va asid : Int) (W : World) (h1 : va = 0) (h2 : ¬ asid = 0) :
    Calls Tryd.prog 50 #[.agg #[.int .i64 1, .int .u32 va, .int .i64 asid]] W fun e w' => e = .returned (.func (.func 68) #[] #[]) ∧ Bl w' W.heap.size 42 [.int .i64 1, .int .u32 va, .int .i64 asid] ∧ Below W.heap.size W w' := by
  subst h1
  have HA := isAsid_any asid
  go_enter Tryd.func50, Tryd.ntmps50
  go_wp2_with (go_at_call 26; refine (HA _).mono ?_; rintro e w' ⟨rfl, rfl⟩)
  go_ret
  exact ⟨rfl, Bl.new _ _ _, below_new _ _⟩
set_option maxRecDepth 100000 in
set_option maxHeartbeats 4000000 in
theorem picked_2y (va asid : Int) (W : World) (h1 : asF asid = true) :
    Calls Tryd.prog 50 #[.agg #[.int .i64 2, .int .u32 va, .int .i64 asid]] W fun e w' => e = .returned (.func (.func 65) #[] #[.pointer (some ⟨W.heap.size, 0, none⟩)]) ∧ Bl w' W.heap.size 42 [.int .i64 2, .int .u32 va, .int .i64 asid] ∧ Below W.heap.size W w' := by
  have HA := isAsid_any asid
  rw [h1] at HA
  go_enter Tryd.func50, Tryd.ntmps50
  go_wp2_with (go_at_call 26; refine (HA _).mono ?_; rintro e w' ⟨rfl, rfl⟩)
  go_ret
  exact ⟨rfl, Bl.new _ _ _, below_new _ _⟩
set_option maxRecDepth 100000 in
set_option maxHeartbeats 4000000 in
theorem picked_2n (va asid : Int) (W : World) (h1 : asF asid = false) :
    Calls Tryd.prog 50 #[.agg #[.int .i64 2, .int .u32 va, .int .i64 asid]] W fun e w' => e = .returned (.func (.func 68) #[] #[]) ∧ Bl w' W.heap.size 42 [.int .i64 2, .int .u32 va, .int .i64 asid] ∧ Below W.heap.size W w' := by
  have HA := isAsid_any asid
  rw [h1] at HA
  go_enter Tryd.func50, Tryd.ntmps50
  go_wp2_with (go_at_call 26; refine (HA _).mono ?_; rintro e w' ⟨rfl, rfl⟩)
  go_ret
  exact ⟨rfl, Bl.new _ _ _, below_new _ _⟩
set_option maxRecDepth 100000 in
set_option maxHeartbeats 4000000 in
theorem picked_3y (va asid : Int) (W : World) (h1 : va = 0) (h2 : asF asid = true) :
    Calls Tryd.prog 50 #[.agg #[.int .i64 3, .int .u32 va, .int .i64 asid]] W fun e w' => e = .returned (.func (.func 66) #[] #[.pointer (some ⟨W.heap.size, 0, none⟩)]) ∧ Bl w' W.heap.size 42 [.int .i64 3, .int .u32 va, .int .i64 asid] ∧ Below W.heap.size W w' := by
  subst h1
  have HA := isAsid_any asid
  rw [h2] at HA
  go_enter Tryd.func50, Tryd.ntmps50
  go_wp2_with (go_at_call 26; refine (HA _).mono ?_; rintro e w' ⟨rfl, rfl⟩)
  go_ret
  exact ⟨rfl, Bl.new _ _ _, below_new _ _⟩
set_option maxRecDepth 100000 in
set_option maxHeartbeats 4000000 in
theorem picked_3a (va asid : Int) (W : World) (h1 : ¬ va = 0) :
    Calls Tryd.prog 50 #[.agg #[.int .i64 3, .int .u32 va, .int .i64 asid]] W fun e w' => e = .returned (.func (.func 68) #[] #[]) ∧ Bl w' W.heap.size 42 [.int .i64 3, .int .u32 va, .int .i64 asid] ∧ Below W.heap.size W w' := by
  have HA := isAsid_any asid
  go_enter Tryd.func50, Tryd.ntmps50
  go_wp2_with (go_at_call 26; refine (HA _).mono ?_; rintro e w' ⟨rfl, rfl⟩)
  go_ret
  exact ⟨rfl, Bl.new _ _ _, below_new _ _⟩
set_option maxRecDepth 100000 in
set_option maxHeartbeats 4000000 in
theorem picked_3b (va asid : Int) (W : World) (h1 : va = 0) (h2 : asF asid = false) :
    Calls Tryd.prog 50 #[.agg #[.int .i64 3, .int .u32 va, .int .i64 asid]] W fun e w' => e = .returned (.func (.func 68) #[] #[]) ∧ Bl w' W.heap.size 42 [.int .i64 3, .int .u32 va, .int .i64 asid] ∧ Below W.heap.size W w' := by
  subst h1
  have HA := isAsid_any asid
  rw [h2] at HA
  go_enter Tryd.func50, Tryd.ntmps50
  go_wp2_with (go_at_call 26; refine (HA _).mono ?_; rintro e w' ⟨rfl, rfl⟩)
  go_ret
  exact ⟨rfl, Bl.new _ _ _, below_new _ _⟩
set_option maxRecDepth 100000 in
set_option maxHeartbeats 4000000 in
theorem picked_4y (va asid : Int) (W : World) (h1 : asid = 0) :
    Calls Tryd.prog 50 #[.agg #[.int .i64 4, .int .u32 va, .int .i64 asid]] W fun e w' => e = .returned (.func (.func 67) #[] #[.pointer (some ⟨W.heap.size, 0, none⟩)]) ∧ Bl w' W.heap.size 42 [.int .i64 4, .int .u32 va, .int .i64 asid] ∧ Below W.heap.size W w' := by
  subst h1
  have HA := isAsid_any 0
  go_enter Tryd.func50, Tryd.ntmps50
  go_wp2_with (go_at_call 26; refine (HA _).mono ?_; rintro e w' ⟨rfl, rfl⟩)
  go_ret
  exact ⟨rfl, Bl.new _ _ _, below_new _ _⟩
set_option maxRecDepth 100000 in
set_option maxHeartbeats 4000000 in
theorem picked_4n (va asid : Int) (W : World) (h1 : ¬ asid = 0) :
    Calls Tryd.prog 50 #[.agg #[.int .i64 4, .int .u32 va, .int .i64 asid]] W fun e w' => e = .returned (.func (.func 68) #[] #[]) ∧ Bl w' W.heap.size 42 [.int .i64 4, .int .u32 va, .int .i64 asid] ∧ Below W.heap.size W w' := by
  have HA := isAsid_any asid
  go_enter Tryd.func50, Tryd.ntmps50
  go_wp2_with (go_at_call 26; refine (HA _).mono ?_; rintro e w' ⟨rfl, rfl⟩)
  go_ret
  exact ⟨rfl, Bl.new _ _ _, below_new _ _⟩
set_option maxRecDepth 100000 in
set_option maxHeartbeats 4000000 in
theorem picked_no (va asid : Int) (k : Int) (W : World) (h1 : ¬ k = 1) (h2 : ¬ k = 2) (h3 : ¬ k = 3) (h4 : ¬ k = 4) :
    Calls Tryd.prog 50 #[.agg #[.int .i64 k, .int .u32 va, .int .i64 asid]] W fun e w' => e = .returned (.func (.func 68) #[] #[]) ∧ Bl w' W.heap.size 42 [.int .i64 k, .int .u32 va, .int .i64 asid] ∧ Below W.heap.size W w' := by
  have HA := isAsid_any asid
  go_enter Tryd.func50, Tryd.ntmps50
  go_wp2_with (go_at_call 26; refine (HA _).mono ?_; rintro e w' ⟨rfl, rfl⟩)
  go_ret
  exact ⟨rfl, Bl.new _ _ _, below_new _ _⟩
/-- What a dropping picks. -/
def Pkd (d : Dro) (f : Nat → Value) : Prop := ∀ W, Calls Tryd.prog 50 #[.agg #[.int .i64 d.kind, .int .u32 d.va, .int .i64 d.asid]] W fun e w' => e = .returned (f W.heap.size) ∧ Bl w' W.heap.size 42 ([.int .i64 d.kind, .int .u32 d.va, .int .i64 d.asid]) ∧ Below W.heap.size W w'
theorem picked_any (d : Dro) :
    ((∀ b, pkF d b = true) ∧ Pkd d (fun _ => .func (.func 64) #[] #[])) ∨
    ((∀ b, pkF d b = maF b d.va d.asid) ∧ Pkd d (fun x => .func (.func 65) #[] #[.pointer (some ⟨x, 0, none⟩)])) ∨
    ((∀ b, pkF d b = (b.asid == d.asid)) ∧ Pkd d (fun x => .func (.func 66) #[] #[.pointer (some ⟨x, 0, none⟩)])) ∨
    ((∀ b, pkF d b = liF b d.va) ∧ Pkd d (fun x => .func (.func 67) #[] #[.pointer (some ⟨x, 0, none⟩)])) ∨
    ((∀ b, pkF d b = false) ∧ Pkd d (fun _ => .func (.func 68) #[] #[])) := by
  obtain ⟨k, va, asid⟩ := d
  by_cases k1 : k = 1
  · subst k1
    by_cases h1 : va = 0
    · by_cases h2 : asid = 0
      · exact .inl ⟨fun b => by simp [pkF, h1, h2], fun W => picked_1y va asid W h1 h2⟩
      · exact .inr (.inr (.inr (.inr ⟨fun b => by simp [pkF, h2], fun W => picked_1b va asid W h1 h2⟩)))
    · exact .inr (.inr (.inr (.inr ⟨fun b => by simp [pkF, h1], fun W => picked_1a va asid W h1⟩)))
  by_cases k2 : k = 2
  · subst k2
    cases h1 : asF asid
    · exact .inr (.inr (.inr (.inr ⟨fun b => by simp [pkF, h1], fun W => picked_2n va asid W h1⟩)))
    · exact .inr (.inl ⟨fun b => by simp [pkF, h1], fun W => picked_2y va asid W h1⟩)
  by_cases k3 : k = 3
  · subst k3
    by_cases h1 : va = 0
    · cases h2 : asF asid
      · exact .inr (.inr (.inr (.inr ⟨fun b => by simp [pkF, h1, h2], fun W => picked_3b va asid W h1 h2⟩)))
      · exact .inr (.inr (.inl ⟨fun b => by simp [pkF, h1, h2], fun W => picked_3y va asid W h1 h2⟩))
    · exact .inr (.inr (.inr (.inr ⟨fun b => by simp [pkF, h1], fun W => picked_3a va asid W h1⟩)))
  by_cases k4 : k = 4
  · subst k4
    by_cases h1 : asid = 0
    · exact .inr (.inr (.inr (.inl ⟨fun b => by simp [pkF, h1], fun W => picked_4y va asid W h1⟩)))
    · exact .inr (.inr (.inr (.inr ⟨fun b => by simp [pkF, h1], fun W => picked_4n va asid W h1⟩)))
  · exact .inr (.inr (.inr (.inr ⟨fun b => by simp [pkF, k1, k2, k3, k4], fun W => picked_no va asid k W k1 k2 k3 k4⟩)))
set_option maxRecDepth 100000 in
theorem pk1_any (b : Blo) (w : World) : Calls Tryd.prog 64 #[.agg #[.int .i64 b.asid, .int .i64 b.t.size, .int .u32 b.t.va, .int .u64 b.t.pa, .int .i64 b.t.dom, .int .i64 b.t.ap, .int .u32 b.t.bits, .bool b.t.ng, .bool b.t.xn]] w fun e w' => e = .returned (.bool true) ∧ Below w.heap.size w w' := by
  go_enter Tryd.func64, Tryd.ntmps64
  go_wp2
  go_ret
  exact ⟨rfl, below_new _ _⟩
set_option maxRecDepth 100000 in
theorem pk5_any (b : Blo) (w : World) : Calls Tryd.prog 68 #[.agg #[.int .i64 b.asid, .int .i64 b.t.size, .int .u32 b.t.va, .int .u64 b.t.pa, .int .i64 b.t.dom, .int .i64 b.t.ap, .int .u32 b.t.bits, .bool b.t.ng, .bool b.t.xn]] w fun e w' => e = .returned (.bool false) ∧ Below w.heap.size w w' := by
  go_enter Tryd.func68, Tryd.ntmps68
  go_wp2
  go_ret
  exact ⟨rfl, below_new _ _⟩
set_option maxRecDepth 100000 in
theorem pk3_any (b : Blo) (d : Dro) (x : Nat) (w : World) (hx : Bl w x 42 ([.int .i64 d.kind, .int .u32 d.va, .int .i64 d.asid])) : Calls Tryd.prog 66 #[.agg #[.int .i64 b.asid, .int .i64 b.t.size, .int .u32 b.t.va, .int .u64 b.t.pa, .int .i64 b.t.dom, .int .i64 b.t.ap, .int .u32 b.t.bits, .bool b.t.ng, .bool b.t.xn], .pointer (some ⟨x, 0, none⟩)] w fun e w' => e = .returned (.bool (b.asid == d.asid)) ∧ Below w.heap.size w w' := by
  have c0 := (hx.below (below_new w (.cells ([.int .i64 b.asid, .int .i64 b.t.size, .int .u32 b.t.va, .int .u64 b.t.pa, .int .i64 b.t.dom, .int .i64 b.t.ap, .int .u32 b.t.bits, .bool b.t.ng, .bool b.t.xn]).toArray 38))).cell
  go_enter Tryd.func66, Tryd.ntmps66
  go_wp2
  go_ret
  exact ⟨rfl, below_new _ _⟩
set_option maxRecDepth 100000 in
theorem pk2_any (b : Blo) (d : Dro) (x : Nat) (w : World) (hx : Bl w x 42 ([.int .i64 d.kind, .int .u32 d.va, .int .i64 d.asid])) (ht : TB w) (hO : BOk b) (hd : 0 ≤ d.va ∧ d.va < 4294967296) : Calls Tryd.prog 65 #[.agg #[.int .i64 b.asid, .int .i64 b.t.size, .int .u32 b.t.va, .int .u64 b.t.pa, .int .i64 b.t.dom, .int .i64 b.t.ap, .int .u32 b.t.bits, .bool b.t.ng, .bool b.t.xn], .pointer (some ⟨x, 0, none⟩)] w fun e w' => e = .returned (.bool (maF b d.va d.asid)) ∧ Below w.heap.size w w' := by
  have hb0 := below_new w (.cells ([.int .i64 b.asid, .int .i64 b.t.size, .int .u32 b.t.va, .int .u64 b.t.pa, .int .i64 b.t.dom, .int .i64 b.t.ap, .int .u32 b.t.bits, .bool b.t.ng, .bool b.t.xn]).toArray 38)
  have c0 := (hx.below hb0).cell
  have hm := match_any b d.va d.asid _ (ht.below hb0) hO hd
  have HB := hidW hb0
  clear hb0
  go_enter Tryd.func65, Tryd.ntmps65
  go_wp2_with (fail)
  go_at_call 32
  refine hm.mono ?_
  rintro e w1 ⟨rfl, hb⟩
  have HB1 := hidW (Below.step HB.out hb)
  clear hb HB hm
  go_wp2
  go_ret
  exact ⟨rfl, HB1.out⟩
set_option maxRecDepth 100000 in
theorem pk4_any (b : Blo) (d : Dro) (x : Nat) (w : World) (hx : Bl w x 42 ([.int .i64 d.kind, .int .u32 d.va, .int .i64 d.asid])) (ht : TB w) (hO : BOk b) (hd : 0 ≤ d.va ∧ d.va < 4294967296) : Calls Tryd.prog 67 #[.agg #[.int .i64 b.asid, .int .i64 b.t.size, .int .u32 b.t.va, .int .u64 b.t.pa, .int .i64 b.t.dom, .int .i64 b.t.ap, .int .u32 b.t.bits, .bool b.t.ng, .bool b.t.xn], .pointer (some ⟨x, 0, none⟩)] w fun e w' => e = .returned (.bool (liF b d.va)) ∧ Below w.heap.size w w' := by
  have hb0 := below_new w (.cells ([.int .i64 b.asid, .int .i64 b.t.size, .int .u32 b.t.va, .int .u64 b.t.pa, .int .i64 b.t.dom, .int .i64 b.t.ap, .int .u32 b.t.bits, .bool b.t.ng, .bool b.t.xn]).toArray 38)
  have c0 := (hx.below hb0).cell
  have hm := lies_any b d.va _ (ht.below hb0) hO hd
  have HB := hidW hb0
  clear hb0
  go_enter Tryd.func67, Tryd.ntmps67
  go_wp2_with (fail)
  go_at_call 47
  refine hm.mono ?_
  rintro e w1 ⟨rfl, hb⟩
  have HB1 := hidW (Below.step HB.out hb)
  clear hb HB hm
  go_wp2
  go_ret
  exact ⟨rfl, HB1.out⟩
end Go.Proofs.YtbbnodhpafiplaaDoor

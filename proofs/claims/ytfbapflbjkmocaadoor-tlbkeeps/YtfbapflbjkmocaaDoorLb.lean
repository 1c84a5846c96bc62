import Derived.Test.YtfbapflbjkmocaaDoorLa
import Derived.Test.YtfbapflbjkmocaaDoorOa
namespace Go.Proofs.YtfbapflbjkmocaaDoor
open Go.RowKit
set_option linter.unusedVariables false
set_option linter.unusedSimpArgs false
/-- How many places are pressed out of a number. -/
def prN (x : Int) : Nat := (if 1 + x.tmod 8 < 1 then 2 - (1 + x.tmod 8) else 1 + x.tmod 8).toNat
theorem tmod8 (x : Int) : -8 < x.tmod 8 ∧ x.tmod 8 < 8 := by
  obtain ⟨h1, h2, _⟩ := tmod_rest x 8 (by omega)
  exact ⟨h1, h2⟩
theorem prN_le (x : Int) : 1 ≤ prN x ∧ prN x ≤ 8 := by
  have h1 := tmod8 x
  unfold prN
  split <;> omega
set_option maxRecDepth 100000 in
set_option maxHeartbeats 4000000 in
theorem pressed_any (x : Int) (W : World) : Calls Tryd.prog 13 #[.int .i64 x] W fun e w' => e = .returned (.tuple #[.pointer (some ⟨W.heap.size + 1, 0, none⟩), .int .i64 (prN x : Nat)]) ∧ PT 77 w' (W.heap.size + 1) W.heap.size (List.replicate (prN x) sZ) ∧ Below W.heap.size W w' := by
  have h1 := tmod8 x
  have hp := prN_le x
  have HN := hidW (new_yes (prN x) W hp.1 (by omega))
  have hno := no_any
  have hw1 : IntKind.i64.wrap (x.tmod 8) = x.tmod 8 := by rw [IntKind.wrap_i64]; omega
  have hw2 : IntKind.i64.wrap (1 + x.tmod 8) = 1 + x.tmod 8 := by rw [IntKind.wrap_i64]; omega
  have hw3 : IntKind.i64.wrap (2 - (1 + x.tmod 8)) = 2 - (1 + x.tmod 8) := by rw [IntKind.wrap_i64]; omega
  by_cases h : 1 + x.tmod 8 < 1
  · have e : ((prN x : Nat) : Int) = 2 - (1 + x.tmod 8) := by unfold prN; rw [if_pos h]; omega
    have HE := hidW e
    generalize prN x = n at *
    clear hp e
    go_enter Tryd.func13, Tryd.ntmps13
    go_wp2_with (fail)
    rw [← HE.out]
    go_at_call 23
    refine HN.out.mono ?_
    rintro e w1 ⟨rfl, hP, hb⟩
    have HR := hidW (And.intro hP hb)
    clear hP hb HN
    go_wp2_with (go_at_call 25; refine (hno _ _).mono ?_; rintro e w' ⟨rfl, rfl⟩)
    go_ret2
    exact ⟨rfl, HR.out.1, HR.out.2⟩
  · have e : ((prN x : Nat) : Int) = 1 + x.tmod 8 := by unfold prN; rw [if_neg h]; omega
    have HE := hidW e
    generalize prN x = n at *
    clear hp e
    go_enter Tryd.func13, Tryd.ntmps13
    go_wp2_with (fail)
    rw [← HE.out]
    go_at_call 23
    refine HN.out.mono ?_
    rintro e w1 ⟨rfl, hP, hb⟩
    have HR := hidW (And.intro hP hb)
    clear hP hb HN
    go_wp2_with (go_at_call 25; refine (hno _ _).mono ?_; rintro e w' ⟨rfl, rfl⟩)
    go_ret2
    exact ⟨rfl, HR.out.1, HR.out.2⟩
/-- What a call tells. -/
def dsI (L : List Slo) (o : Opr) : Nat := if o.kind = 2 then (puF L o.b o.n).1.1 else 0
def dsB (L : List Slo) (o : Opr) : Bool := if o.kind = 2 then (puF L o.b o.n).1.2 == 0 else false
/-- The call's box, a TLB. -/
structure DX (W wr : World) (p g : Nat) (L : List Slo) (o : Opr) : Prop where
  trn : Turn (· = g) W wr
  pt : PT 77 wr p g L
  box : Bl wr W.heap.size 45 ([.int .i64 o.kind, .int .u32 o.va, .int .i64 o.n, .int .i64 o.b.asid, .int .i64 o.b.t.size, .int .u32 o.b.t.va, .int .u64 o.b.t.pa, .int .i64 o.b.t.dom, .int .i64 o.b.t.ap, .int .u32 o.b.t.bits, .bool o.b.t.ng, .bool o.b.t.xn, .int .i64 o.d.kind, .int .u32 o.d.va, .int .i64 o.d.asid])
  tr : TR wr
theorem DX.start {W : World} {p g : Nat} {L : List Slo} (o : Opr) (h : PT 77 W p g L) (ht : TR W) : DX W (W.alloc (.cells ([.int .i64 o.kind, .int .u32 o.va, .int .i64 o.n, .int .i64 o.b.asid, .int .i64 o.b.t.size, .int .u32 o.b.t.va, .int .u64 o.b.t.pa, .int .i64 o.b.t.dom, .int .i64 o.b.t.ap, .int .u32 o.b.t.bits, .bool o.b.t.ng, .bool o.b.t.xn, .int .i64 o.d.kind, .int .u32 o.d.va, .int .i64 o.d.asid]).toArray 45)) p g L o := ⟨Turn.below (below_new _ _), h.below (below_new _ _), Bl.new _ _ _, ht.below (below_new _ _)⟩
theorem DX.step {W wr w' : World} {p g : Nat} {L : List Slo} {o : Opr} (h : DX W wr p g L o) (hb : Below wr.heap.size wr w') : DX W w' p g L o := ⟨h.trn.then (Turn.below hb), h.pt.below hb, h.box.below hb, h.tr.below hb⟩
theorem DX.turn {W wr w' : World} {p g : Nat} {L M : List Slo} {o : Opr} (h : DX W wr p g L o) (hp : PT 77 w' p g M) (hT : Turn (· = g) wr w') : DX W w' p g M o :=
  ⟨h.trn.then hT, hp, h.box.turn hT (h.box.ne h.pt.row (by decide)), h.pt.tr h.tr hT⟩
set_option maxRecDepth 100000 in
set_option maxHeartbeats 4000000 in
theorem does_1 (W : World) (p g : Nat) (L : List Slo) (o : Opr) (hP : PT 77 W p g L) (ht : TR W) (hO : OOk o) (hk : o.kind = 1) :
    Calls Tryd.prog 14 #[.pointer (some ⟨p, 0, none⟩), .agg #[.int .i64 o.kind, .int .u32 o.va, .int .i64 o.n, .int .i64 o.b.asid, .int .i64 o.b.t.size, .int .u32 o.b.t.va, .int .u64 o.b.t.pa, .int .i64 o.b.t.dom, .int .i64 o.b.t.ap, .int .u32 o.b.t.bits, .bool o.b.t.ng, .bool o.b.t.xn, .int .i64 o.d.kind, .int .u32 o.d.va, .int .i64 o.d.asid]] W fun e w' => e = .returned (.tuple #[.int .i64 (dsI L o : Nat), .bool (dsB L o)]) ∧ PT 77 w' p g (opF L o) ∧ Turn (· = g) W w' := by
  have h1 : dsI L o = 0 := by simp [dsI, hk]
  have h2 : dsB L o = false := by simp [dsB, hk]
  have h3 : opF L o = L := by simp [opF, hk]
  rw [h1, h2, h3]
  have HX := hidW (DX.start o hP ht)
  have HC : Hid (∀ w, PT 77 w p g L → TR w → Calls Tryd.prog 16 #[.pointer (some ⟨p, 0, none⟩), .int .u32 o.va, .int .i64 o.n] w fun e w' => e = .returned (.tuple #[.agg #[.int .i64 ((lkF L o.va o.n).1).asid, .int .i64 ((lkF L o.va o.n).1).t.size, .int .u32 ((lkF L o.va o.n).1).t.va, .int .u64 ((lkF L o.va o.n).1).t.pa, .int .i64 ((lkF L o.va o.n).1).t.dom, .int .i64 ((lkF L o.va o.n).1).t.ap, .int .u32 ((lkF L o.va o.n).1).t.bits, .bool ((lkF L o.va o.n).1).t.ng, .bool ((lkF L o.va o.n).1).t.xn], .int .i64 ((lkF L o.va o.n).2 : Nat)]) ∧ Below w.heap.size w w') := fun w h1 h2 => look_any w p g L o.va o.n h1 h2.tb hO.va
  clear hP ht hO h1 h2 h3
  obtain ⟨k, va, n, b, d⟩ := o
  dsimp only at *
  subst hk
  generalize (lkF L va n) = R at *
  obtain ⟨⟨r0, r1, r2, r3, r4, r5, r6, r7, r8⟩, rn⟩ := R
  dsimp only at *
  go_enter Tryd.func14, Tryd.ntmps14
  go_wp2_with (fail)
  go_at_call 16
  refine (HC.out _ HX.out.pt HX.out.tr).mono ?_
  rintro e w1 ⟨rfl, hb⟩
  replace HX := hidW (HX.out.step hb)
  clear hb HC
  go_wp2
  go_ret2
  exact ⟨rfl, HX.out.pt, HX.out.trn⟩
set_option maxRecDepth 100000 in
set_option maxHeartbeats 4000000 in
theorem does_2 (W : World) (p g : Nat) (L : List Slo) (o : Opr) (hP : PT 77 W p g L) (ht : TR W) (hO : OOk o) (hk : o.kind = 2) :
    Calls Tryd.prog 14 #[.pointer (some ⟨p, 0, none⟩), .agg #[.int .i64 o.kind, .int .u32 o.va, .int .i64 o.n, .int .i64 o.b.asid, .int .i64 o.b.t.size, .int .u32 o.b.t.va, .int .u64 o.b.t.pa, .int .i64 o.b.t.dom, .int .i64 o.b.t.ap, .int .u32 o.b.t.bits, .bool o.b.t.ng, .bool o.b.t.xn, .int .i64 o.d.kind, .int .u32 o.d.va, .int .i64 o.d.asid]] W fun e w' => e = .returned (.tuple #[.int .i64 (dsI L o : Nat), .bool (dsB L o)]) ∧ PT 77 w' p g (opF L o) ∧ Turn (· = g) W w' := by
  have h1 : dsI L o = (puF L o.b o.n).1.1 := by simp [dsI, hk]
  have h2 : dsB L o = ((puF L o.b o.n).1.2 == 0) := by simp [dsB, hk]
  have h3 : opF L o = (puF L o.b o.n).2 := by simp [opF, hk]
  rw [h1, h2, h3]
  have HX := hidW (DX.start o hP ht)
  have HC : Hid (∀ w, PT 77 w p g L → TR w → Calls Tryd.prog 30 #[.pointer (some ⟨p, 0, none⟩), .agg #[.int .i64 o.b.asid, .int .i64 o.b.t.size, .int .u32 o.b.t.va, .int .u64 o.b.t.pa, .int .i64 o.b.t.dom, .int .i64 o.b.t.ap, .int .u32 o.b.t.bits, .bool o.b.t.ng, .bool o.b.t.xn], .int .i64 o.n] w fun e w' => e = .returned (.tuple #[.int .i64 ((puF L o.b o.n).1.1 : Nat), .int .i64 (puF L o.b o.n).1.2]) ∧ PT 77 w' p g (puF L o.b o.n).2 ∧ Turn (· = g) w w') := fun w h1 h2 => put_any w p g L o.b o.n h1 h2 hO.b
  have hno := no_any
  clear hP ht hO h1 h2 h3
  obtain ⟨k, va, n, b, d⟩ := o
  dsimp only at *
  subst hk
  generalize (puF L b n) = R at *
  obtain ⟨⟨ri, re⟩, rl⟩ := R
  dsimp only at *
  go_enter Tryd.func14, Tryd.ntmps14
  go_wp2_with (fail)
  go_at_call 30
  refine (HC.out _ HX.out.pt HX.out.tr).mono ?_
  rintro e w1 ⟨rfl, hp, hT⟩
  replace HX := hidW (HX.out.turn hp hT)
  clear hp hT HC
  go_wp2_with (go_at_call 25; refine (hno _ _).mono ?_; rintro e w' ⟨rfl, rfl⟩)
  go_ret2
  exact ⟨rfl, HX.out.pt, HX.out.trn⟩
set_option maxRecDepth 100000 in
set_option maxHeartbeats 4000000 in
theorem does_3 (W : World) (p g : Nat) (L : List Slo) (o : Opr) (hP : PT 77 W p g L) (ht : TR W) (hO : OOk o) (hk : o.kind = 3) :
    Calls Tryd.prog 14 #[.pointer (some ⟨p, 0, none⟩), .agg #[.int .i64 o.kind, .int .u32 o.va, .int .i64 o.n, .int .i64 o.b.asid, .int .i64 o.b.t.size, .int .u32 o.b.t.va, .int .u64 o.b.t.pa, .int .i64 o.b.t.dom, .int .i64 o.b.t.ap, .int .u32 o.b.t.bits, .bool o.b.t.ng, .bool o.b.t.xn, .int .i64 o.d.kind, .int .u32 o.d.va, .int .i64 o.d.asid]] W fun e w' => e = .returned (.tuple #[.int .i64 (dsI L o : Nat), .bool (dsB L o)]) ∧ PT 77 w' p g (opF L o) ∧ Turn (· = g) W w' := by
  have h1 : dsI L o = 0 := by simp [dsI, hk]
  have h2 : dsB L o = false := by simp [dsB, hk]
  have h3 : opF L o = (evF L o.n).2 := by simp [opF, hk]
  rw [h1, h2, h3]
  have HX := hidW (DX.start o hP ht)
  have HC : Hid (∀ w, PT 77 w p g L → TR w → Calls Tryd.prog 37 #[.pointer (some ⟨p, 0, none⟩), .int .i64 o.n] w fun e w' => e = .returned (.bool (evF L o.n).1) ∧ PT 77 w' p g (evF L o.n).2 ∧ Turn (· = g) w w') := fun w h1 h2 => evict_any w p g L o.n h1
  clear hP ht hO h1 h2 h3
  obtain ⟨k, va, n, b, d⟩ := o
  dsimp only at *
  subst hk
  generalize (evF L n) = R at *
  obtain ⟨rb, rl⟩ := R
  dsimp only at *
  go_enter Tryd.func14, Tryd.ntmps14
  go_wp2_with (fail)
  go_at_call 37
  refine (HC.out _ HX.out.pt HX.out.tr).mono ?_
  rintro e w1 ⟨rfl, hp, hT⟩
  replace HX := hidW (HX.out.turn hp hT)
  clear hp hT HC
  go_wp2
  go_ret2
  exact ⟨rfl, HX.out.pt, HX.out.trn⟩
set_option maxRecDepth 100000 in
set_option maxHeartbeats 4000000 in
theorem does_4 (W : World) (p g : Nat) (L : List Slo) (o : Opr) (hP : PT 77 W p g L) (ht : TR W) (hO : OOk o) (hk : o.kind = 4) :
    Calls Tryd.prog 14 #[.pointer (some ⟨p, 0, none⟩), .agg #[.int .i64 o.kind, .int .u32 o.va, .int .i64 o.n, .int .i64 o.b.asid, .int .i64 o.b.t.size, .int .u32 o.b.t.va, .int .u64 o.b.t.pa, .int .i64 o.b.t.dom, .int .i64 o.b.t.ap, .int .u32 o.b.t.bits, .bool o.b.t.ng, .bool o.b.t.xn, .int .i64 o.d.kind, .int .u32 o.d.va, .int .i64 o.d.asid]] W fun e w' => e = .returned (.tuple #[.int .i64 (dsI L o : Nat), .bool (dsB L o)]) ∧ PT 77 w' p g (opF L o) ∧ Turn (· = g) W w' := by
  have h1 : dsI L o = 0 := by simp [dsI, hk]
  have h2 : dsB L o = false := by simp [dsB, hk]
  have h3 : opF L o = (flF L o.d).2 := by simp [opF, hk]
  rw [h1, h2, h3]
  have HX := hidW (DX.start o hP ht)
  have HC : Hid (∀ w, PT 77 w p g L → TR w → Calls Tryd.prog 32 #[.pointer (some ⟨p, 0, none⟩), .agg #[.int .i64 o.d.kind, .int .u32 o.d.va, .int .i64 o.d.asid]] w fun e w' => e = .returned (.int .i64 ((flF L o.d).1 : Nat)) ∧ PT 77 w' p g (flF L o.d).2 ∧ Turn (· = g) w w') := fun w h1 h2 => flush_any w p g L o.d h1 h2 hO.dva
  clear hP ht hO h1 h2 h3
  obtain ⟨k, va, n, b, d⟩ := o
  dsimp only at *
  subst hk
  generalize (flF L d) = R at *
  obtain ⟨rb, rl⟩ := R
  dsimp only at *
  go_enter Tryd.func14, Tryd.ntmps14
  go_wp2_with (fail)
  go_at_call 32
  refine (HC.out _ HX.out.pt HX.out.tr).mono ?_
  rintro e w1 ⟨rfl, hp, hT⟩
  replace HX := hidW (HX.out.turn hp hT)
  clear hp hT HC
  go_wp2
  go_ret2
  exact ⟨rfl, HX.out.pt, HX.out.trn⟩
set_option maxRecDepth 100000 in
set_option maxHeartbeats 4000000 in
theorem does_no (W : World) (p g : Nat) (L : List Slo) (o : Opr) (hP : PT 77 W p g L) (ht : TR W) (hO : OOk o) (k1 : ¬ o.kind = 1) (k2 : ¬ o.kind = 2) (k3 : ¬ o.kind = 3) (k4 : ¬ o.kind = 4) :
    Calls Tryd.prog 14 #[.pointer (some ⟨p, 0, none⟩), .agg #[.int .i64 o.kind, .int .u32 o.va, .int .i64 o.n, .int .i64 o.b.asid, .int .i64 o.b.t.size, .int .u32 o.b.t.va, .int .u64 o.b.t.pa, .int .i64 o.b.t.dom, .int .i64 o.b.t.ap, .int .u32 o.b.t.bits, .bool o.b.t.ng, .bool o.b.t.xn, .int .i64 o.d.kind, .int .u32 o.d.va, .int .i64 o.d.asid]] W fun e w' => e = .returned (.tuple #[.int .i64 (dsI L o : Nat), .bool (dsB L o)]) ∧ PT 77 w' p g (opF L o) ∧ Turn (· = g) W w' := by
  have h1 : dsI L o = 0 := by simp [dsI, k2]
  have h2 : dsB L o = false := by simp [dsB, k2]
  have h3 : opF L o = L := by simp [opF, k2, k3, k4]
  rw [h1, h2, h3]
  have HX := hidW (DX.start o hP ht)
  clear hP ht hO h1 h2 h3
  obtain ⟨k, va, n, b, d⟩ := o
  dsimp only at *
  go_enter Tryd.func14, Tryd.ntmps14
  go_wp2
  go_ret2
  exact ⟨rfl, HX.out.pt, HX.out.trn⟩
theorem does_any (W : World) (p g : Nat) (L : List Slo) (o : Opr) (hP : PT 77 W p g L) (ht : TR W) (hO : OOk o) :
    Calls Tryd.prog 14 #[.pointer (some ⟨p, 0, none⟩), .agg #[.int .i64 o.kind, .int .u32 o.va, .int .i64 o.n, .int .i64 o.b.asid, .int .i64 o.b.t.size, .int .u32 o.b.t.va, .int .u64 o.b.t.pa, .int .i64 o.b.t.dom, .int .i64 o.b.t.ap, .int .u32 o.b.t.bits, .bool o.b.t.ng, .bool o.b.t.xn, .int .i64 o.d.kind, .int .u32 o.d.va, .int .i64 o.d.asid]] W fun e w' => e = .returned (.tuple #[.int .i64 (dsI L o : Nat), .bool (dsB L o)]) ∧ PT 77 w' p g (opF L o) ∧ Turn (· = g) W w' := by
  by_cases k1 : o.kind = 1
  · exact does_1 W p g L o hP ht hO k1
  by_cases k2 : o.kind = 2
  · exact does_2 W p g L o hP ht hO k2
  by_cases k3 : o.kind = 3
  · exact does_3 W p g L o hP ht hO k3
  by_cases k4 : o.kind = 4
  · exact does_4 W p g L o hP ht hO k4
  exact does_no W p g L o hP ht hO k1 k2 k3 k4
end Go.Proofs.YtfbapflbjkmocaaDoor

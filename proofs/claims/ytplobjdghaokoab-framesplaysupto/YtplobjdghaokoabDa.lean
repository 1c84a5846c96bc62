import Derived.Test.YtplobjdghaokoabBo
import Derived.Deep.RegionHeld3
namespace Go.Proofs.Ytplobjdghaokoab
open Go.RowKit
set_option linter.unusedVariables false

set_option maxHeartbeats 16000000 in
set_option maxRecDepth 100000 in
theorem do_take (W0 W : World) (c : BC) (u : List Nat) (cs : Nat → List Cut) (first n al wh : Int) (h : PL W0 W c u cs) (hn2 : n ≤ 9223372036854775807) :
    Calls Try.prog 6 #[.pointer (some ⟨c.bb, 0, none⟩), .agg #[.int .i64 1, .int .i64 first, .int .i64 n, .int .i64 al, .int .i64 wh]] W fun e W' => e = .returned (.bool true) ∧ ∃ u' cs', PL W0 W' c u' cs' := by
  have hK0 := (BO.of h.1 [.int .i64 1, .int .i64 first, .int .i64 n, .int .i64 al, .int .i64 wh])
  have HI : Hid (Inv c.f0 (takeR c.f0 u n al).2.2 cs) := h.2.take n al
  clear h
  have hP : ∀ (w : World) (o : Nat) (os : List Value), BO W0 w c o os u u cs (fun i => tabsL (cs i)) → Calls Try.prog 15 #[.pointer (some ⟨c.p, 0, none⟩), .int .i64 n, .int .i64 al] w fun e W' => e = .returned (.tuple #[.int .i64 (takeR c.f0 u n al).1, .int .i64 (takeR c.f0 u n al).2.1]) ∧ BO W0 W' c o os (takeR c.f0 u n al).2.2 u cs (fun i => tabsL (cs i)) := fun w o os hh => (take_any w c.p c.ub c.f0 u n al hh.bb.pp hn2).mono (fun e w' g => ⟨g.1, hh.pool g.2.1 g.2.2⟩)
  have hR : ∀ (w : World) (o : Nat) (os : List Value) (u1 : List Nat), BO W0 w c o os u1 u cs (fun i => tabsL (cs i)) → Calls Try.prog 18 #[.pointer (some ⟨c.r, 0, none⟩), .int .i64 n, .int .i64 al] w fun e W' => e = .returned (.tuple #[.int .i64 (takeR c.f0 u n al).1, .int .i64 (takeR c.f0 u n al).2.1]) ∧ BO W0 W' c o os u1 (takeR c.f0 u n al).2.2 cs (fun i => tabsL (cs i)) := fun w o os u1 hh => (rtake_any w c.r c.rb c.f0 u n al hh.bb.rp hn2).mono (fun e w' g => ⟨g.1, hh.rpool g.2.1 g.2.2⟩)
  generalize takeR c.f0 u n al = R at *
  obtain ⟨r1, r2, u'⟩ := R
  simp only at hP hR HI
  go_enter Try.func6, Try.ntmps6
  go_wp2
  generalize W.alloc (.cells #[.int .i64 1, .int .i64 first, .int .i64 n, .int .i64 al, .int .i64 wh] 29) = W1 at *
  generalize W.heap.size = ob at *
  have hK := hK0.drew
  clear hK0
  have q1 : W1.drew.cell? ⟨c.bb, 0, none⟩ = some (.pointer (some ⟨c.p, 0, none⟩)) := hK.bb.c0
  have q2 : W1.drew.cell? ⟨ob, 2, none⟩ = some (.int .i64 n) := hK.cell 2
  have q3 : W1.drew.cell? ⟨ob, 3, none⟩ = some (.int .i64 al) := hK.cell 3
  go_region_held3 (fun w' => w'.cell? ⟨c.bb, 0, none⟩ = some (.pointer (some ⟨c.p, 0, none⟩)) ∧ w'.cell? ⟨ob, 2, none⟩ = some (.int .i64 n) ∧ w'.cell? ⟨ob, 3, none⟩ = some (.int .i64 al)) (first | go_keep | exact ⟨hK.bb.c0, hK.cell 2, hK.cell 3⟩)
    ((first
      | (go_at_call 15; refine (hP _ _ _ hK).mono ?_; clear hK; rintro e w1 ⟨rfl, hK⟩)))
  all_goals
    have hK := hK.drew
    have q4 : w1.drew.cell? ⟨c.bb, 1, none⟩ = some (.pointer (some ⟨c.r, 0, none⟩)) := hK.bb.c1
    have q5 : w1.drew.cell? ⟨ob, 2, none⟩ = some (.int .i64 n) := hK.cell 2
    have q6 : w1.drew.cell? ⟨ob, 3, none⟩ = some (.int .i64 al) := hK.cell 3
    go_wp2
    go_region_held3 (fun w' => w'.cell? ⟨c.bb, 1, none⟩ = some (.pointer (some ⟨c.r, 0, none⟩)) ∧ w'.cell? ⟨ob, 2, none⟩ = some (.int .i64 n) ∧ w'.cell? ⟨ob, 3, none⟩ = some (.int .i64 al)) (first | go_keep | exact ⟨hK.bb.c1, hK.cell 2, hK.cell 3⟩)
      ((first
        | (go_at_call 18; refine (hR _ _ _ _ hK).mono ?_; clear hK; rintro e w2 ⟨rfl, hK⟩)))
    all_goals
      go_wp2_with (first | (go_at_call 12; refine (no_any _ _).mono ?_; rintro e w' ⟨rfl, rfl⟩) | go_in)
      go_ret
      exact ⟨rfl, _, _, hK.bb, HI.out⟩
end Go.Proofs.Ytplobjdghaokoab

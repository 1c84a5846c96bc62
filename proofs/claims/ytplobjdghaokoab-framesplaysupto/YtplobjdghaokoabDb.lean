import Derived.Test.YtplobjdghaokoabBo
import Derived.Deep.RegionHeld3
import Derived.Deep.QuietTactic
import Derived.BigQuiet
namespace Go.Proofs.Ytplobjdghaokoab
open Go.RowKit
set_option linter.unusedVariables false

set_option maxHeartbeats 16000000 in
set_option maxRecDepth 100000 in
theorem do_share (W0 W : World) (c : BC) (u : List Nat) (cs : Nat → List Cut) (first n al wh : Int) (h : PL W0 W c u cs) (hn2 : n ≤ 9223372036854775807) (hf1 : -9223372036854775808 ≤ first) (hf2 : first ≤ 9223372036854775807) :
    Calls Try.prog 6 #[.pointer (some ⟨c.bb, 0, none⟩), .agg #[.int .i64 2, .int .i64 first, .int .i64 n, .int .i64 al, .int .i64 wh]] W fun e W' => e = .returned (.bool true) ∧ ∃ u' cs', PL W0 W' c u' cs' := by
  have hK0 := (BO.of h.1 [.int .i64 2, .int .i64 first, .int .i64 n, .int .i64 al, .int .i64 wh])
  have HI : Hid (Inv c.f0 (shareR c.f0 u first n).2 cs) := h.2.share first n
  clear h
  have hP : ∀ (w : World) (o : Nat) (os : List Value), BO W0 w c o os u u cs (fun i => tabsL (cs i)) → Calls Try.prog 19 #[.pointer (some ⟨c.p, 0, none⟩), .int .i64 first, .int .i64 n] w fun e W' => e = .returned (.int .i64 (shareR c.f0 u first n).1) ∧ BO W0 W' c o os (shareR c.f0 u first n).2 u cs (fun i => tabsL (cs i)) := fun w o os hh => (share_any w c.p c.ub c.f0 u first n hh.bb.pp hf1 hf2).mono (fun e w' g => ⟨g.1, hh.pool g.2.1 g.2.2⟩)
  have hR : ∀ (w : World) (o : Nat) (os : List Value) (u1 : List Nat), BO W0 w c o os u1 u cs (fun i => tabsL (cs i)) → Calls Try.prog 20 #[.pointer (some ⟨c.r, 0, none⟩), .int .i64 first, .int .i64 n] w fun e W' => e = .returned (.int .i64 (shareR c.f0 u first n).1) ∧ BO W0 W' c o os u1 (shareR c.f0 u first n).2 cs (fun i => tabsL (cs i)) := fun w o os u1 hh => (rshare_any w c.r c.rb c.f0 u first n hh.bb.rp hn2).mono (fun e w' g => ⟨g.1, hh.rpool g.2.1 g.2.2⟩)
  generalize shareR c.f0 u first n = R at *
  obtain ⟨r2, u'⟩ := R
  simp only at hP hR HI
  go_enter Try.func6, Try.ntmps6
  go_wp2
  generalize W.alloc (.cells #[.int .i64 2, .int .i64 first, .int .i64 n, .int .i64 al, .int .i64 wh] 29) = W1 at *
  generalize W.heap.size = ob at *
  have hK := hK0.drew
  clear hK0
  have q1 : W1.drew.cell? ⟨c.bb, 0, none⟩ = some (.pointer (some ⟨c.p, 0, none⟩)) := hK.bb.c0
  have q2 : W1.drew.cell? ⟨c.bb, 1, none⟩ = some (.pointer (some ⟨c.r, 0, none⟩)) := hK.bb.c1
  have q3 : W1.drew.cell? ⟨ob, 1, none⟩ = some (.int .i64 first) := hK.cell 1
  have q4 : W1.drew.cell? ⟨ob, 2, none⟩ = some (.int .i64 n) := hK.cell 2
  go_region_held3 (fun w' => w'.cell? ⟨c.bb, 0, none⟩ = some (.pointer (some ⟨c.p, 0, none⟩)) ∧ w'.cell? ⟨c.bb, 1, none⟩ = some (.pointer (some ⟨c.r, 0, none⟩)) ∧ w'.cell? ⟨ob, 1, none⟩ = some (.int .i64 first) ∧ w'.cell? ⟨ob, 2, none⟩ = some (.int .i64 n)) (first | go_keep | exact ⟨hK.bb.c0, hK.bb.c1, hK.cell 1, hK.cell 2⟩)
    ((first
      | (go_at_call 12; refine (no_any _ _).mono ?_; rintro e w' ⟨rfl, rfl⟩)
      | (go_at_call 19; refine (hP _ _ _ hK).mono ?_; clear hK; rintro e w1 ⟨rfl, hK⟩)
      | (go_at_call 20; refine (hR _ _ _ _ hK).mono ?_; clear hK; rintro e w2 ⟨rfl, hK⟩)))
  all_goals
    go_wp2
    go_ret
    exact ⟨rfl, _, _, hK.bb, HI.out⟩

set_option maxHeartbeats 16000000 in
set_option maxRecDepth 100000 in
theorem do_drop (W0 W : World) (c : BC) (u : List Nat) (cs : Nat → List Cut) (first n al wh : Int) (h : PL W0 W c u cs) (hn2 : n ≤ 9223372036854775807) (hf1 : -9223372036854775808 ≤ first) (hf2 : first ≤ 9223372036854775807) :
    Calls Try.prog 6 #[.pointer (some ⟨c.bb, 0, none⟩), .agg #[.int .i64 3, .int .i64 first, .int .i64 n, .int .i64 al, .int .i64 wh]] W fun e W' => e = .returned (.bool true) ∧ ∃ u' cs', PL W0 W' c u' cs' := by
  have hK0 := (BO.of h.1 [.int .i64 3, .int .i64 first, .int .i64 n, .int .i64 al, .int .i64 wh])
  have HI0 : Hid (Inv c.f0 u cs) := h.2
  have HI : Hid ((∀ i, i < 2 → NoBr c.f0 u (cs i) first n) → Inv c.f0 (dropR c.f0 u first n).2.2 cs) := fun hb => HI0.out.drop hb
  clear h
  have hP : ∀ (w : World) (o : Nat) (os : List Value), BO W0 w c o os u u cs (fun i => tabsL (cs i)) → Calls Try.prog 22 #[.pointer (some ⟨c.p, 0, none⟩), .int .i64 first, .int .i64 n] w fun e W' => e = .returned (.tuple #[.int .i64 (dropR c.f0 u first n).1, .int .i64 (dropR c.f0 u first n).2.1]) ∧ BO W0 W' c o os (dropR c.f0 u first n).2.2 u cs (fun i => tabsL (cs i)) := fun w o os hh => (drop_any w c.p c.ub c.f0 u first n hh.bb.pp hf1 hf2).mono (fun e w' g => ⟨g.1, hh.pool g.2.1 g.2.2⟩)
  have hR : ∀ (w : World) (o : Nat) (os : List Value) (u1 : List Nat), BO W0 w c o os u1 u cs (fun i => tabsL (cs i)) → Calls Try.prog 23 #[.pointer (some ⟨c.r, 0, none⟩), .int .i64 first, .int .i64 n] w fun e W' => e = .returned (.tuple #[.int .i64 (dropR c.f0 u first n).1, .int .i64 (dropR c.f0 u first n).2.1]) ∧ BO W0 W' c o os u1 (dropR c.f0 u first n).2.2 cs (fun i => tabsL (cs i)) := fun w o os u1 hh => (rdrop_any w c.r c.rb c.f0 u first n hh.bb.rp hn2).mono (fun e w' g => ⟨g.1, hh.rpool g.2.1 g.2.2⟩)
  have hbr := breaks_any W0 (W.alloc (.cells #[.int .i64 3, .int .i64 first, .int .i64 n, .int .i64 al, .int .i64 wh] 29)) c u cs first n al wh hK0.bb hn2 hf1
  generalize dropR c.f0 u first n = R at *
  obtain ⟨r1, r2, u'⟩ := R
  simp only at hP hR HI
  go_enter Try.func6, Try.ntmps6
  go_wp2_with (first
    | (go_at_call 21; refine hbr.mono ?_; clear hbr; rintro e w0 ⟨bb, rfl, hbf, ht0⟩; have hK1 := hK0.keep ht0; clear hK0 ht0; have HBF : Hid (bb = false → ∀ i, i < 2 → NoBr c.f0 u (cs i) first n) := hbf; clear hbf; cases bb)
    | go_in)
  · generalize W.heap.size = ob at *
    have hK := hK1.drew
    clear hK1
    have q1 : w0.drew.cell? ⟨c.bb, 0, none⟩ = some (.pointer (some ⟨c.p, 0, none⟩)) := hK.bb.c0
    have q3 : w0.drew.cell? ⟨ob, 1, none⟩ = some (.int .i64 first) := hK.cell 1
    have q4 : w0.drew.cell? ⟨ob, 2, none⟩ = some (.int .i64 n) := hK.cell 2
    go_region_held3 (fun w' => w'.cell? ⟨c.bb, 0, none⟩ = some (.pointer (some ⟨c.p, 0, none⟩)) ∧ w'.cell? ⟨ob, 1, none⟩ = some (.int .i64 first) ∧ w'.cell? ⟨ob, 2, none⟩ = some (.int .i64 n)) (first | go_keep | exact ⟨hK.bb.c0, hK.cell 1, hK.cell 2⟩)
      ((first
        | (go_at_call 22; refine (hP _ _ _ hK).mono ?_; clear hK; rintro e w1 ⟨rfl, hK⟩)))
    all_goals
      have hK := hK.drew
      have q5 : w1.drew.cell? ⟨c.bb, 1, none⟩ = some (.pointer (some ⟨c.r, 0, none⟩)) := hK.bb.c1
      have q6 : w1.drew.cell? ⟨ob, 1, none⟩ = some (.int .i64 first) := hK.cell 1
      have q7 : w1.drew.cell? ⟨ob, 2, none⟩ = some (.int .i64 n) := hK.cell 2
      go_wp2
      go_region_held3 (fun w' => w'.cell? ⟨c.bb, 1, none⟩ = some (.pointer (some ⟨c.r, 0, none⟩)) ∧ w'.cell? ⟨ob, 1, none⟩ = some (.int .i64 first) ∧ w'.cell? ⟨ob, 2, none⟩ = some (.int .i64 n)) (first | go_keep | exact ⟨hK.bb.c1, hK.cell 1, hK.cell 2⟩)
        ((first
          | (go_at_call 23; refine (hR _ _ _ _ hK).mono ?_; clear hK; rintro e w2 ⟨rfl, hK⟩)))
      all_goals
        go_wp2_with (first | (go_at_call 12; refine (no_any _ _).mono ?_; rintro e w' ⟨rfl, rfl⟩) | go_in)
        go_ret
        exact ⟨rfl, _, _, hK.bb, HI.out (by first | exact HBF.out rfl | exact HBF.out trivial)⟩
  · go_wp2
    go_ret
    exact ⟨rfl, _, _, hK1.bb, HI0.out⟩

set_option maxHeartbeats 16000000 in
set_option maxRecDepth 100000 in
theorem do_uses (W0 W : World) (c : BC) (u : List Nat) (cs : Nat → List Cut) (first n al wh : Int) (h : PL W0 W c u cs) (hf1 : -9223372036854775808 ≤ first) (hf2 : first ≤ 9223372036854775807) :
    Calls Try.prog 6 #[.pointer (some ⟨c.bb, 0, none⟩), .agg #[.int .i64 4, .int .i64 first, .int .i64 n, .int .i64 al, .int .i64 wh]] W fun e W' => e = .returned (.bool true) ∧ ∃ u' cs', PL W0 W' c u' cs' := by
  have hK0 := (BO.of h.1 [.int .i64 4, .int .i64 first, .int .i64 n, .int .i64 al, .int .i64 wh])
  have HI : Hid (Inv c.f0 u cs) := h.2
  clear h
  go_enter Try.func6, Try.ntmps6
  go_wp2
  generalize W.alloc (.cells #[.int .i64 4, .int .i64 first, .int .i64 n, .int .i64 al, .int .i64 wh] 29) = W1 at *
  generalize W.heap.size = ob at *
  have hP : ∀ q, Calls Try.prog 7 #[.pointer (some ⟨c.p, 0, none⟩), .int .i64 first] (W1.drewN q) fun e W' => e = .returned (.int .i64 (usesR c.f0 u first)) ∧ ∃ m, W' = (W1.drewN q).drewN m := fun q => uses_any _ c.p c.ub c.f0 u first (hK0.drewN q).bb.pp hf1 hf2
  have hR : ∀ q, Calls Try.prog 8 #[.pointer (some ⟨c.r, 0, none⟩), .int .i64 first] (W1.drewN q) fun e W' => e = .returned (.int .i64 (usesR c.f0 u first)) ∧ ∃ m, W' = (W1.drewN q).drewN m := fun q => ruses_any _ c.r c.rb c.f0 u first (hK0.drewN q).bb.rp
  have q1 : W1.cell? ⟨c.bb, 0, none⟩ = some (.pointer (some ⟨c.p, 0, none⟩)) := hK0.bb.c0
  have q2 : W1.cell? ⟨c.bb, 1, none⟩ = some (.pointer (some ⟨c.r, 0, none⟩)) := hK0.bb.c1
  have q3 : W1.cell? ⟨ob, 1, none⟩ = some (.int .i64 first) := hK0.cell 1
  have HK : Hid (BO W0 W1 c ob [.int .i64 4, .int .i64 first, .int .i64 n, .int .i64 al, .int .i64 wh] u u cs (fun i => tabsL (cs i))) := hK0
  clear hK0
  generalize usesR c.f0 u first = uu at *
  go_quiet ((first | (go_at_call 7; exact Calls.quiet_of (hP _)) | (go_at_call 8; exact Calls.quiet_of (hR _))))
  go_wp2
  go_ret
  exact ⟨rfl, _, _, (BO.drewN HK.out _).bb, HI.out⟩
end Go.Proofs.Ytplobjdghaokoab

import Derived.Test.YtplobjdghaokoabBo
import Derived.Deep.RegionHeld3
namespace Go.Proofs.Ytplobjdghaokoab
open Go.RowKit
set_option linter.unusedVariables false

theorem and_one (x : Int) : ∃ i : Nat, i < 2 ∧ bits .and .i64 x 1 = (i : Int) := by
  have h : (BitVec.ofInt 64 x &&& 1#64).toNat = (BitVec.ofInt 64 x).toNat % 2 := by
    rw [BitVec.toNat_and]
    exact Nat.and_one_is_mod _
  refine ⟨(BitVec.ofInt 64 x).toNat % 2, by omega, ?_⟩
  show IntKind.i64.wrap ((BitVec.ofInt 64 x &&& 1#64).toNat : Int) = _
  rw [h, IntKind.wrap_i64]
  omega

set_option maxHeartbeats 16000000 in
set_option maxRecDepth 100000 in
theorem do_stake (W0 W : World) (c : BC) (u : List Nat) (cs : Nat → List Cut) (first n al wh : Int) (h : PL W0 W c u cs) :
    Calls Try.prog 6 #[.pointer (some ⟨c.bb, 0, none⟩), .agg #[.int .i64 6, .int .i64 first, .int .i64 n, .int .i64 al, .int .i64 wh]] W fun e W' => e = .returned (.bool true) ∧ ∃ u' cs', PL W0 W' c u' cs' := by
  have hK0 := (BO.of h.1 [.int .i64 6, .int .i64 first, .int .i64 n, .int .i64 al, .int .i64 wh])
  obtain ⟨i, hi, he⟩ := and_one wh
  have HI : Hid (Inv c.f0 u cs) := h.2
  obtain ⟨_, hps, _, _⟩ := h.1.ps hi
  have HS : Hid (Srt (cs i) ∧ (∀ c ∈ cs i, c.any = true) ∧ ∀ c ∈ cs i, c.f < 268435456) := ⟨hps.srt, hps.2, hps.fb⟩
  clear h hps
  have hst := bo_take hK0 HI.out hi
  have q1 := hK0.bb.c2
  have q2 := hK0.bb.cps hi
  clear hK0
  go_enter Try.func6, Try.ntmps6
  go_wp2_with (first
    | (go_at_call 17; refine hst.mono ?_; clear hst; rintro e w1 ⟨r, e0, rfl, u', cs', hs1, hK⟩;
       have HS1 : Hid (SlT c.f0 u (cs i) r e0 u' cs') := hs1; clear hs1;
       have q3 := hK.bb.c3; have q4 := hK.bb.cpt hi;
       have hrt := bo_rtake (ds := cs) hi rfl hK HI.out HS.out.1 HS.out.2.1 HS.out.2.2; clear hK)
    | (go_at_call 24; refine hrt.mono ?_; clear hrt; rintro e w2 ⟨r', e0', rfl, v', cs2, hs2, hK⟩;
       obtain ⟨rfl, rfl, rfl, rfl⟩ := slT_det HS1.out hs2; clear hs2)
    | (go_at_call 12; refine (no_any _ _).mono ?_; rintro e w' ⟨rfl, rfl⟩)
    | go_in)
  go_ret
  rw [up_tabs] at hK
  exact ⟨rfl, _, _, hK.bb, HI.out.slT hi HS1.out⟩

set_option maxHeartbeats 16000000 in
set_option maxRecDepth 100000 in
theorem do_sdrop (W0 W : World) (c : BC) (u : List Nat) (cs : Nat → List Cut) (first n al wh : Int) (h : PL W0 W c u cs) (hf2 : first ≤ 9223372036854775807) :
    Calls Try.prog 6 #[.pointer (some ⟨c.bb, 0, none⟩), .agg #[.int .i64 7, .int .i64 first, .int .i64 n, .int .i64 al, .int .i64 wh]] W fun e W' => e = .returned (.bool true) ∧ ∃ u' cs', PL W0 W' c u' cs' := by
  have hK0 := (BO.of h.1 [.int .i64 7, .int .i64 first, .int .i64 n, .int .i64 al, .int .i64 wh])
  obtain ⟨i, hi, he⟩ := and_one wh
  have hi0 : (0 : Int) ≤ (i : Int) := by omega
  have hi1 : (i : Int) < 2 := by omega
  have hi2 : (i : Int) ≤ 2 := by omega
  have HI : Hid (Inv c.f0 u cs) := h.2
  obtain ⟨_, hps, _, _⟩ := h.1.ps hi
  have HS : Hid (Srt (cs i) ∧ (∀ c ∈ cs i, c.any = true) ∧ ∀ c ∈ cs i, c.f < 268435456) := ⟨hps.srt, hps.2, hps.fb⟩
  clear h hps
  have hS : ∀ (w : World) (o : Nat) (os : List Value), BO W0 w c o os u u cs (fun i => tabsL (cs i)) → _ := fun w o os hh => bo_drop hh hi first hf2
  have hR : ∀ (w : World) (o : Nat) (os : List Value) (u1 : List Nat) (cs1 : Nat → List Cut), BO W0 w c o os u1 u cs1 (fun i => tabsL (cs i)) → _ := fun w o os u1 cs1 hh => bo_rdrop (ds := cs) hi rfl hh HS.out.1 HS.out.2.2 first
  go_enter Try.func6, Try.ntmps6
  go_wp2
  generalize W.alloc (.cells #[.int .i64 7, .int .i64 first, .int .i64 n, .int .i64 al, .int .i64 wh] 29) = W1 at *
  generalize W.heap.size = ob at *
  have hK := hK0.drew
  clear hK0
  have q1 := hK.bb.c2
  have q2 := hK.bb.cps hi
  have q3 := hK.bb.c3
  have q4 := hK.bb.cpt hi
  have q5 : W1.drew.cell? ⟨ob, 1, none⟩ = some (.int .i64 first) := hK.cell 1
  go_region_held3 (fun w' => w'.cell? ⟨c.bb, 2, none⟩ = some (.slice (some ⟨c.sg, 0, none⟩) 2 c.sc) ∧ w'.cell? ⟨c.sg, i, none⟩ = some (.pointer (some ⟨c.s i, 0, none⟩)) ∧ w'.cell? ⟨c.bb, 3, none⟩ = some (.slice (some ⟨c.tg, 0, none⟩) 2 c.tc) ∧ w'.cell? ⟨c.tg, i, none⟩ = some (.pointer (some ⟨c.t i, 0, none⟩)) ∧ w'.cell? ⟨ob, 1, none⟩ = some (.int .i64 first)) (first | go_keep | exact ⟨hK.bb.c2, hK.bb.cps hi, hK.bb.c3, hK.bb.cpt hi, hK.cell 1⟩)
    ((first
      | (go_at_call 12; refine (no_any _ _).mono ?_; rintro e w' ⟨rfl, rfl⟩)
      | (go_at_call 25; refine (hS _ _ _ hK).mono ?_; clear hK; rintro e w1 ⟨e0, rfl, u', cs', hd1, hK⟩; have HD1 : Hid (SlD c.f0 u (cs i) first e0 u' cs') := hd1; clear hd1)
      | (go_at_call 26; refine (hR _ _ _ _ _ hK).mono ?_; clear hK; rintro e w2 ⟨e1, rfl, v', cs2, hd2, hK⟩; obtain ⟨rfl, rfl, rfl⟩ := slD_det HS.out.1 HD1.out hd2; clear hd2)))
  all_goals
    go_wp2
    go_ret
    rw [up_tabs] at hK
    exact ⟨rfl, _, _, hK.bb, HI.out.slD hi HS.out.1 HD1.out⟩
end Go.Proofs.Ytplobjdghaokoab

import Derived.Test.YtplobjdghaokoabBv
import Derived.Deep.RegionHeld3
namespace Go.Proofs.Ytplobjdghaokoab
open Go.RowKit
set_option linter.unusedVariables false

theorem runs_len0 (f0 : Nat) (u : List Nat) : (runs f0 u).length ≤ u.length := runsTo_len f0 u u.length
theorem BB.runsP {W0 w : World} {c : BC} {u v : List Nat} {cs : Nat → List Cut} {T : Nat → List Int} (h : BB W0 w c u v cs T) :
    Calls Try.prog 36 #[.pointer (some ⟨c.p, 0, none⟩)] w fun e w' => ∃ a cap, e = .returned (.slice a (runs c.f0 u).length cap) ∧ RAt w' a (runs c.f0 u) ∧ Turn (fun _ => False) w w' ∧ BB W0 w' c u v cs T := by
  refine (runs_any w c.p c.ub c.f0 u h.pp).mono ?_
  rintro e w' ⟨x, rfl, ho, ht⟩
  obtain ⟨a, cap, rfl, h1, h2⟩ := own_rat ho
  exact ⟨a, cap, rfl, h1, ht, h.keep ht⟩
theorem BB.runsR {W0 w : World} {c : BC} {u v : List Nat} {cs : Nat → List Cut} {T : Nat → List Int} (h : BB W0 w c u v cs T) :
    Calls Try.prog 37 #[.pointer (some ⟨c.r, 0, none⟩)] w fun e w' => ∃ a cap, e = .returned (.slice a (runs c.f0 v).length cap) ∧ RAt w' a (runs c.f0 v) ∧ Turn (fun _ => False) w w' ∧ BB W0 w' c u v cs T := by
  refine (rruns_any w c.r c.rb c.f0 v h.rp).mono ?_
  rintro e w' ⟨x, rfl, ho, ht⟩
  obtain ⟨a, cap, rfl, h1, h2⟩ := own_rat ho
  exact ⟨a, cap, rfl, h1, ht, h.keep ht⟩
theorem BB.allP {W0 w : World} {c : BC} {u v : List Nat} {cs : Nat → List Cut} {T : Nat → List Int} (h : BB W0 w c u v cs T) :
    Calls Try.prog 38 #[.pointer (some ⟨c.p, 0, none⟩)] w fun e w' => e = .returned (.agg #[.int .i64 c.f0, .int .i64 u.length]) ∧ BB W0 w' c u v cs T :=
  (all_any w c.p c.ub c.f0 u h.pp).mono (fun e w' hh => ⟨hh.1, h.keep hh.2⟩)
theorem BB.allR {W0 w : World} {c : BC} {u v : List Nat} {cs : Nat → List Cut} {T : Nat → List Int} (h : BB W0 w c u v cs T) :
    Calls Try.prog 39 #[.pointer (some ⟨c.r, 0, none⟩)] w fun e w' => e = .returned (.agg #[.int .i64 c.f0, .int .i64 v.length]) ∧ BB W0 w' c u v cs T :=
  (rall_any w c.r c.rb c.f0 v h.rp).mono (fun e w' hh => ⟨hh.1, h.keep hh.2⟩)

set_option maxHeartbeats 16000000 in
set_option maxRecDepth 100000 in
theorem looks_any (W0 w : World) (c : BC) (u : List Nat) (cs : Nat → List Cut) (T : Nat → List Int) (h : BB W0 w c u u cs T) :
    Calls Try.prog 9 #[.pointer (some ⟨c.bb, 0, none⟩)] w fun e w' => e = .returned (.bool true) ∧ BB W0 w' c u u cs T := by
  have hK0 := h.drewN 1
  have hK : BB W0 w.drew c u u cs T := hK0
  have k0 := h.c0
  have k1 := h.c1
  have hn1 := h.pp.n1
  have hrl := runs_len0 c.f0 u
  clear hK0 h
  generalize hR : runs c.f0 u = rs at *
  have HRS : Hid (runs c.f0 u = rs) := hR
  clear hR
  generalize hm : u.length = m at *
  have HM : Hid (u.length = m) := hm
  clear hm
  have hfP : ∀ ww, BB W0 ww c u u cs T → Calls Try.prog 16 #[.pointer (some ⟨c.p, 0, none⟩)] ww fun e w' => e = .returned (.int .i64 (zeros u)) ∧ ww = w' := fun ww hh => free_any ww _ _ _ _ hh.pp
  have hfR : ∀ ww, BB W0 ww c u u cs T → Calls Try.prog 34 #[.pointer (some ⟨c.r, 0, none⟩)] ww fun e w' => e = .returned (.int .i64 (zeros u)) ∧ ww = w' := fun ww hh => rfree_any ww _ _ _ _ hh.rp
  have hrP : ∀ ww, BB W0 ww c u u cs T → Calls Try.prog 36 #[.pointer (some ⟨c.p, 0, none⟩)] ww fun e w' => ∃ a cap, e = .returned (.slice a rs.length cap) ∧ RAt w' a rs ∧ Turn (fun _ => False) ww w' ∧ BB W0 w' c u u cs T := fun ww hh => by have := hh.runsP; rw [HRS.out] at this; exact this
  have hrR : ∀ ww, BB W0 ww c u u cs T → Calls Try.prog 37 #[.pointer (some ⟨c.r, 0, none⟩)] ww fun e w' => ∃ a cap, e = .returned (.slice a rs.length cap) ∧ RAt w' a rs ∧ Turn (fun _ => False) ww w' ∧ BB W0 w' c u u cs T := fun ww hh => by have := hh.runsR; rw [HRS.out] at this; exact this
  have haP : ∀ ww, BB W0 ww c u u cs T → Calls Try.prog 38 #[.pointer (some ⟨c.p, 0, none⟩)] ww fun e w' => e = .returned (.agg #[.int .i64 c.f0, .int .i64 m]) ∧ BB W0 w' c u u cs T := fun ww hh => by have := hh.allP; rw [HM.out] at this; exact this
  have haR : ∀ ww, BB W0 ww c u u cs T → Calls Try.prog 39 #[.pointer (some ⟨c.r, 0, none⟩)] ww fun e w' => e = .returned (.agg #[.int .i64 c.f0, .int .i64 m]) ∧ BB W0 w' c u u cs T := fun ww hh => by have := hh.allR; rw [HM.out] at this; exact this
  have hsm : ∀ ww a b ca cb, RAt ww a rs → RAt ww b rs → Calls Try.prog 35 #[.slice a rs.length ca, .slice b rs.length cb] ww fun e w' => e = .returned (.bool true) ∧ ∃ q, w' = ww.drewN q := fun ww a b ca cb ha hb => by
    have := sameRuns_any ww a b ca cb rs rs ha hb (by omega) (by omega)
    rw [decide_eq_true rfl] at this
    exact this
  go_enter Try.func9, Try.ntmps9
  go_wp2
  go_region_held3 (fun w' => w'.cell? ⟨c.bb, 0, none⟩ = some (.pointer (some ⟨c.p, 0, none⟩)) ∧ w'.cell? ⟨c.bb, 1, none⟩ = some (.pointer (some ⟨c.r, 0, none⟩))) (first | go_keep | exact ⟨hK.c0, hK.c1⟩)
    ((first
      | (go_at_call 16; refine (hfP _ hK).mono ?_; rintro e w' ⟨rfl, rfl⟩)
      | (go_at_call 34; refine (hfR _ hK).mono ?_; rintro e w' ⟨rfl, rfl⟩)
      | (go_at_call 36; refine (hrP _ hK).mono ?_; clear hK; rintro e w1 ⟨pa, pc, rfl, hpa, htP, hK⟩; have hrb := hrb.turn htP (fun _ _ h => h))
      | (go_at_call 36; refine (hrP _ hK).mono ?_; clear hK; rintro e w1 ⟨pa, pc, rfl, hpa, htP, hK⟩)
      | (go_at_call 37; refine (hrR _ hK).mono ?_; clear hK; rintro e w2 ⟨ra, rc, rfl, hrb, htR, hK⟩; have hpa := hpa.turn htR (fun _ _ h => h))
      | (go_at_call 37; refine (hrR _ hK).mono ?_; clear hK; rintro e w2 ⟨ra, rc, rfl, hrb, htR, hK⟩)
      | (go_at_call 35; refine (hsm _ _ _ _ _ hpa hrb).mono ?_; rintro e w3 ⟨rfl, q3, rfl⟩; have hK := hK.drewN q3)
      | (go_at_call 38; refine (haP _ hK).mono ?_; clear hK; rintro e w4 ⟨rfl, hK⟩)
      | (go_at_call 39; refine (haR _ hK).mono ?_; clear hK; rintro e w5 ⟨rfl, hK⟩)))
  all_goals
    go_wp2
    go_ret
    exact ⟨rfl, hK⟩
end Go.Proofs.Ytplobjdghaokoab

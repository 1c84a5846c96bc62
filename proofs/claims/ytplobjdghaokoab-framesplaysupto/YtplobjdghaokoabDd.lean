import Derived.Test.YtplobjdghaokoabDc
import Derived.Test.YtplobjdghaokoabDb
import Derived.Test.YtplobjdghaokoabDa
import Derived.Test.YtplobjdghaokoabLy
namespace Go.Proofs.Ytplobjdghaokoab
open Go.RowKit
set_option linter.unusedVariables false

theorem BO.tabsP {W0 w : World} {c : BC} {o : Nat} {os : List Value} {u v : List Nat} {cs : Nat → List Cut} {T : Nat → List Int} (h : BO W0 w c o os u v cs T) {i : Nat} (hi : i < 2) :
    Calls Try.prog 28 #[.pointer (some ⟨c.s i, 0, none⟩)] w fun e w' => ∃ a cap, e = .returned (.slice a (tabsL (cs i)).length cap) ∧ IAt w' a (tabsL (cs i)) ∧ Turn (fun _ => False) w w' ∧ BO W0 w' c o os u v cs T := by
  obtain ⟨S, hps, _, _⟩ := h.bb.ps hi
  refine (tables_any w S (c.s i) c.p (cs i) hps).mono ?_
  rintro e w' ⟨x, rfl, ho, ht⟩
  obtain ⟨a, cap, rfl, h1, h2⟩ := own_iat ho
  exact ⟨a, cap, rfl, h1, ht, h.keep ht⟩
theorem BO.framesP {W0 w : World} {c : BC} {o : Nat} {os : List Value} {u v : List Nat} {cs : Nat → List Cut} {T : Nat → List Int} (h : BO W0 w c o os u v cs T) {i : Nat} (hi : i < 2) :
    Calls Try.prog 30 #[.pointer (some ⟨c.s i, 0, none⟩)] w fun e w' => ∃ a cap, e = .returned (.slice a (framesL (cs i)).length cap) ∧ IAt w' a (framesL (cs i)) ∧ Turn (fun _ => False) w w' ∧ BO W0 w' c o os u v cs T := by
  obtain ⟨S, hps, _, _⟩ := h.bb.ps hi
  refine (framesS_any w S (c.s i) c.p (cs i) hps).mono ?_
  rintro e w' ⟨x, rfl, ho, ht⟩
  obtain ⟨a, cap, rfl, h1, h2⟩ := own_iat ho
  exact ⟨a, cap, rfl, h1, ht, h.keep ht⟩
theorem BO.tabsR {W0 w : World} {c : BC} {o : Nat} {os : List Value} {u v : List Nat} {cs : Nat → List Cut} (h : BO W0 w c o os u v cs (fun i => tabsL (cs i))) {i : Nat} (hi : i < 2) :
    Calls Try.prog 29 #[.pointer (some ⟨c.t i, 0, none⟩)] w fun e w' => ∃ a cap, e = .returned (.slice a (tabsL (cs i)).length cap) ∧ IAt w' a (tabsL (cs i)) ∧ Turn (fun _ => False) w w' ∧ BO W0 w' c o os u v cs (fun i => tabsL (cs i)) := by
  obtain ⟨S, hrs, _, _⟩ := h.bb.rs hi
  obtain ⟨_, hps, _, _⟩ := h.bb.ps hi
  have hlen := hps.len
  have htl : (tabsL (cs i)).length ≤ 1073741824 := by have := tabsL_len (cs i); omega
  refine (rsTables_any w S (c.t i) c.r (tabsL (cs i)) hrs htl).mono ?_
  rintro e w' ⟨x, rfl, ho, ht⟩
  obtain ⟨a, cap, rfl, h1, h2⟩ := own_iat ho
  exact ⟨a, cap, rfl, h1, ht, h.keep ht⟩
theorem BO.framesR {W0 w : World} {c : BC} {o : Nat} {os : List Value} {u v : List Nat} {cs : Nat → List Cut} (h : BO W0 w c o os u v cs (fun i => tabsL (cs i))) {i : Nat} (hi : i < 2) :
    Calls Try.prog 31 #[.pointer (some ⟨c.t i, 0, none⟩)] w fun e w' => ∃ a cap, e = .returned (.slice a (framesL (cs i)).length cap) ∧ IAt w' a (framesL (cs i)) ∧ Turn (fun _ => False) w w' ∧ BO W0 w' c o os u v cs (fun i => tabsL (cs i)) := by
  obtain ⟨S, hrs, _, _⟩ := h.bb.rs hi
  obtain ⟨_, hps, _, _⟩ := h.bb.ps hi
  have hlen := hps.len
  have htl : (tabsL (cs i)).length ≤ 1073741824 := by have := tabsL_len (cs i); omega
  have hfr := rsFrames_any w S (c.t i) c.r (tabsL (cs i)) hrs htl (tabsL_bd hps.fb)
  rw [fs_tabs hps.srt hps.2] at hfr
  refine hfr.mono ?_
  rintro e w' ⟨x, rfl, ho, ht⟩
  obtain ⟨a, cap, rfl, h1, h2⟩ := own_iat ho
  exact ⟨a, cap, rfl, h1, ht, h.keep ht⟩

set_option maxHeartbeats 16000000 in
set_option maxRecDepth 100000 in
theorem do_lists (W0 W : World) (c : BC) (u : List Nat) (cs : Nat → List Cut) (first n al wh : Int) (h : PL W0 W c u cs) :
    Calls Try.prog 6 #[.pointer (some ⟨c.bb, 0, none⟩), .agg #[.int .i64 8, .int .i64 first, .int .i64 n, .int .i64 al, .int .i64 wh]] W fun e W' => e = .returned (.bool true) ∧ PL W0 W' c u cs := by
  have hK0 := (BO.of h.1 [.int .i64 8, .int .i64 first, .int .i64 n, .int .i64 al, .int .i64 wh])
  obtain ⟨i, hi, he⟩ := and_one wh
  have hi0 : (0 : Int) ≤ (i : Int) := by omega
  have hi1 : (i : Int) < 2 := by omega
  have hi2 : (i : Int) ≤ 2 := by omega
  have HI : Hid (Inv c.f0 u cs) := h.2
  obtain ⟨_, hps, _, _⟩ := h.1.ps hi
  have hlen := hps.len
  have htl : (tabsL (cs i)).length ≤ 1073741824 := by have := tabsL_len (cs i); omega
  have hfl : (framesL (cs i)).length ≤ 1073741824 := by rw [framesL_len]; omega
  clear h hps hlen
  have hS : ∀ (w : World) (o : Nat) (os : List Value), BO W0 w c o os u u cs (fun i => tabsL (cs i)) → _ := fun w o os hh => hh.tabsP hi
  have hT : ∀ (w : World) (o : Nat) (os : List Value), BO W0 w c o os u u cs (fun i => tabsL (cs i)) → _ := fun w o os hh => hh.tabsR hi
  have hSF : ∀ (w : World) (o : Nat) (os : List Value), BO W0 w c o os u u cs (fun i => tabsL (cs i)) → _ := fun w o os hh => hh.framesP hi
  have hTF : ∀ (w : World) (o : Nat) (os : List Value), BO W0 w c o os u u cs (fun i => tabsL (cs i)) → _ := fun w o os hh => hh.framesR hi
  have hsm : ∀ ww a b ca cb, IAt ww a (tabsL (cs i)) → IAt ww b (tabsL (cs i)) → Calls Try.prog 27 #[.slice a (tabsL (cs i)).length ca, .slice b (tabsL (cs i)).length cb] ww fun e w' => e = .returned (.bool true) ∧ ∃ q, w' = ww.drewN q := fun ww a b ca cb ha hb => by
    have := sameInts_any ww a b ca cb _ _ ha hb (by omega) (by omega)
    rw [decide_eq_true rfl] at this
    exact this
  have hsf : ∀ ww a b ca cb, IAt ww a (framesL (cs i)) → IAt ww b (framesL (cs i)) → Calls Try.prog 27 #[.slice a (framesL (cs i)).length ca, .slice b (framesL (cs i)).length cb] ww fun e w' => e = .returned (.bool true) ∧ ∃ q, w' = ww.drewN q := fun ww a b ca cb ha hb => by
    have := sameInts_any ww a b ca cb _ _ ha hb (by omega) (by omega)
    rw [decide_eq_true rfl] at this
    exact this
  go_enter Try.func6, Try.ntmps6
  go_wp2
  generalize W.alloc (.cells #[.int .i64 8, .int .i64 first, .int .i64 n, .int .i64 al, .int .i64 wh] 29) = W1 at *
  generalize W.heap.size = ob at *
  have hK := hK0.drew
  clear hK0
  have q1 := hK.bb.c2
  have q2 := hK.bb.cps hi
  have q3 := hK.bb.c3
  have q4 := hK.bb.cpt hi
  go_region_held3 (fun w' => w'.cell? ⟨c.bb, 2, none⟩ = some (.slice (some ⟨c.sg, 0, none⟩) 2 c.sc) ∧ w'.cell? ⟨c.sg, i, none⟩ = some (.pointer (some ⟨c.s i, 0, none⟩)) ∧ w'.cell? ⟨c.bb, 3, none⟩ = some (.slice (some ⟨c.tg, 0, none⟩) 2 c.tc) ∧ w'.cell? ⟨c.tg, i, none⟩ = some (.pointer (some ⟨c.t i, 0, none⟩))) (first | go_keep | exact ⟨hK.bb.c2, hK.bb.cps hi, hK.bb.c3, hK.bb.cpt hi⟩)
    ((first
      | (go_at_call 28; refine (hS _ _ _ hK).mono ?_; clear hK; rintro e w1 ⟨pa, pc, rfl, hpa, htP, hK⟩)
      | (go_at_call 29; refine (hT _ _ _ hK).mono ?_; clear hK; rintro e w2 ⟨ra, rc, rfl, hrb, htR, hK⟩; have hpa := hpa.turn htR (fun _ _ h => h))
      | (go_at_call 30; refine (hSF _ _ _ hK).mono ?_; clear hK; rintro e w4 ⟨pf, pg, rfl, hpf, htF, hK⟩)
      | (go_at_call 31; refine (hTF _ _ _ hK).mono ?_; clear hK; rintro e w5 ⟨rf, rg, rfl, hrf, htG, hK⟩; have hpf := hpf.turn htG (fun _ _ h => h))
      | (go_at_call 27; refine (hsf _ _ _ _ _ hpf hrf).mono ?_; rintro e w6 ⟨rfl, q6, rfl⟩; have hK := hK.drewN q6)
      | (go_at_call 27; refine (hsm _ _ _ _ _ hpa hrb).mono ?_; rintro e w3 ⟨rfl, q3, rfl⟩; have hK := hK.drewN q3)))
  all_goals
    go_wp2
    go_ret
    exact ⟨rfl, hK.bb, HI.out⟩

set_option maxHeartbeats 16000000 in
set_option maxRecDepth 100000 in
theorem do_else (W0 W : World) (c : BC) (u : List Nat) (cs : Nat → List Cut) (kind first n al wh : Int) (h : PL W0 W c u cs) (k1 : ¬ kind = 1) (k2 : ¬ kind = 2) (k3 : ¬ kind = 3) (k4 : ¬ kind = 4) (k6 : ¬ kind = 6) (k7 : ¬ kind = 7) (k8 : ¬ kind = 8) :
    Calls Try.prog 6 #[.pointer (some ⟨c.bb, 0, none⟩), .agg #[.int .i64 kind, .int .i64 first, .int .i64 n, .int .i64 al, .int .i64 wh]] W fun e W' => e = .returned (.bool true) ∧ PL W0 W' c u cs := by
  have hlk := looks_any W0 _ c u cs _ (BO.of h.1 [.int .i64 kind, .int .i64 first, .int .i64 n, .int .i64 al, .int .i64 wh]).bb
  have HI : Hid (Inv c.f0 u cs) := h.2
  clear h
  go_enter Try.func6, Try.ntmps6
  go_wp2_with (first
    | (go_at_call 9; refine hlk.mono ?_; clear hlk; rintro e w1 ⟨rfl, hB⟩; have HB : Hid (BB W0 w1 c u u cs (fun i => tabsL (cs i))) := hB; clear hB)
    | go_in)
  go_ret
  exact ⟨rfl, HB.out, HI.out⟩

/-- A call on both. -/
theorem does_any (W0 W : World) (c : BC) (u : List Nat) (cs : Nat → List Cut) (o : Op4) (h : PL W0 W c u cs) (ho : o.ok) :
    Calls Try.prog 6 #[.pointer (some ⟨c.bb, 0, none⟩), o.val] W fun e W' => e = .returned (.bool true) ∧ ∃ u' cs', PL W0 W' c u' cs' := by
  obtain ⟨kind, first, n, al, wh⟩ := o
  obtain ⟨⟨_, _⟩, ⟨o1, o2⟩, ⟨o3, o4⟩, _, _⟩ := ho
  show Calls Try.prog 6 #[.pointer (some ⟨c.bb, 0, none⟩), .agg #[.int .i64 kind, .int .i64 first, .int .i64 n, .int .i64 al, .int .i64 wh]] W _
  simp only at o1 o2 o3 o4
  by_cases k1 : kind = 1
  · subst k1; exact do_take W0 W c u cs first n al wh h o4
  by_cases k2 : kind = 2
  · subst k2; exact do_share W0 W c u cs first n al wh h o4 o1 o2
  by_cases k3 : kind = 3
  · subst k3; exact do_drop W0 W c u cs first n al wh h o4 o1 o2
  by_cases k4 : kind = 4
  · subst k4; exact do_uses W0 W c u cs first n al wh h o1 o2
  by_cases k6 : kind = 6
  · subst k6; exact do_stake W0 W c u cs first n al wh h
  by_cases k7 : kind = 7
  · subst k7; exact do_sdrop W0 W c u cs first n al wh h o2
  by_cases k8 : kind = 8
  · subst k8; exact (do_lists W0 W c u cs first n al wh h).mono (fun e w' g => ⟨g.1, _, _, g.2⟩)
  exact (do_else W0 W c u cs kind first n al wh h k1 k2 k3 k4 k6 k7 k8).mono (fun e w' g => ⟨g.1, _, _, g.2⟩)
end Go.Proofs.Ytplobjdghaokoab

import Derived.Test.YtplobjdghaokoaaGc
namespace Go.Proofs.Ytplobjdghaokoaa
open Go.RowKit
set_option linter.unusedVariables false

theorem and_one (x : Int) : ∃ i : Nat, i < 2 ∧ bits .and .i64 x 1 = (i : Int) := by
  have h : (BitVec.ofInt 64 x &&& 1#64).toNat = (BitVec.ofInt 64 x).toNat % 2 := by
    rw [BitVec.toNat_and]
    exact Nat.and_one_is_mod _
  refine ⟨(BitVec.ofInt 64 x).toNat % 2, by omega, ?_⟩
  show IntKind.i64.wrap ((BitVec.ofInt 64 x &&& 1#64).toNat : Int) = _
  rw [h, IntKind.wrap_i64]
  omega
structure TC where
  p : Nat
  ub : Nat
  f0 : Nat
  n : Nat
  sg : Nat
  s : Nat → Nat
/-- A pool, two slabs over it, the list of both. -/
structure DX (W0 w : World) (c : TC) (S : Nat → Nat → Prop) (u : List Nat) (cs : Nat → List Cut) : Prop where
  trn : Turn (fun _ => False) W0 w
  srow : RowAt w c.sg 50 [.pointer (some ⟨c.s 0, 0, none⟩), .pointer (some ⟨c.s 1, 0, none⟩)]
  pp : PP w c.p c.ub c.f0 u
  ps : ∀ i, i < 2 → PS w (S i) (c.s i) c.p (cs i)
  lop : W0.heap.size ≤ c.p ∧ W0.heap.size ≤ c.ub ∧ W0.heap.size ≤ c.sg
  los : ∀ i b, i < 2 → S i b → W0.heap.size ≤ b
  dP : ∀ i b, i < 2 → S i b → b ≠ c.p ∧ b ≠ c.ub ∧ b ≠ c.sg
  dS : ∀ i j b, i < 2 → j < 2 → i ≠ j → S i b → ¬ S j b
  tv : Tv c.f0 c.n u cs
/-- And a list that a call told. -/
def DK (W0 w : World) (c : TC) (u : List Nat) (cs : Nat → List Cut) (a : Option Addr) (L : List Int) : Prop := ∃ S, DX W0 w c S u cs ∧ IAt w a L ∧ ∀ g, a = some ⟨g, 0, none⟩ → g < w.heap.size ∧ g ≠ c.p ∧ g ≠ c.ub ∧ ∀ i, i < 2 → ¬ S i g
section
variable {W0 w w' : World} {c : TC} {u : List Nat} {cs : Nat → List Cut} {a : Option Addr} {L : List Int} {S : Nat → Nat → Prop}
theorem DX.keep (h : DX W0 w c S u cs) (X : Turn (fun _ => False) w w') : DX W0 w' c S u cs :=
  ⟨h.trn.trans X (fun _ h => h.elim), h.srow.turn X (fun h => h), h.pp.keep X (fun h => h) (fun h => h), fun i hi => (h.ps i hi).keep X (fun _ _ h => h), h.lop, h.los, h.dP, h.dS, h.tv⟩
theorem DK.keep (h : DK W0 w c u cs a L) (X : Turn (fun _ => False) w w') : DK W0 w' c u cs a L := by
  obtain ⟨S, h1, h2, h3⟩ := h
  exact ⟨S, h1.keep X, h2.turn X (fun _ _ h => h), fun g hg => ⟨Nat.lt_of_lt_of_le (h3 g hg).1 X.size, (h3 g hg).2⟩⟩
theorem DK.drewN (h : DK W0 w c u cs a L) (q : Nat) : DK W0 (w.drewN q) c u cs a L := h.keep ((Turn.refl _ _).drewN q)
theorem DK.drew (h : DK W0 w c u cs a L) : DK W0 w.drew c u cs a L := h.drewN 1
theorem DK.with (h : DK W0 w c u cs a L) (X : Turn (fun _ => False) w w') {a' : Option Addr} {L' : List Int} (hi : IAt w' a' L') (hg : ∀ g, a' = some ⟨g, 0, none⟩ → w.heap.size ≤ g ∧ g < w'.heap.size) : DK W0 w' c u cs a' L' := by
  obtain ⟨S, h1, _, _⟩ := h
  refine ⟨S, h1.keep X, hi, fun g hg2 => ?_⟩
  obtain ⟨g1, g2⟩ := hg g hg2
  have := h1.pp.lt
  exact ⟨g2, by omega, by omega, fun i hi hb => by have := (h1.ps i hi).lowb g hb; omega⟩
theorem DK.bare (h : DK W0 w c u cs a L) : DK W0 w c u cs none [] := by
  obtain ⟨S, h1, _, _⟩ := h
  exact ⟨S, h1, fun i x hx => by simp at hx, fun g hg => by cases hg⟩
theorem DK.pp (h : DK W0 w c u cs a L) : PP w c.p c.ub c.f0 u := by obtain ⟨S, h1, _⟩ := h; exact h1.pp
theorem DK.tv (h : DK W0 w c u cs a L) : Tv c.f0 c.n u cs := by obtain ⟨S, h1, _⟩ := h; exact h1.tv
theorem DK.trn (h : DK W0 w c u cs a L) : Turn (fun _ => False) W0 w := by obtain ⟨S, h1, _⟩ := h; exact h1.trn
theorem DK.iat (h : DK W0 w c u cs a L) : IAt w a L := by obtain ⟨S, _, h1, _⟩ := h; exact h1
theorem DK.ps (h : DK W0 w c u cs a L) {i : Nat} (hi : i < 2) : ∃ S, PS w S (c.s i) c.p (cs i) := by obtain ⟨S, h1, _⟩ := h; exact ⟨_, h1.ps i hi⟩
theorem DK.cell (h : DK W0 w c u cs a L) {i : Nat} (hi : i < 2) : w.cell? ⟨c.sg, i, none⟩ = some (.pointer (some ⟨c.s i, 0, none⟩)) := by
  obtain ⟨S, h1, _⟩ := h
  rw [h1.srow.cell]
  rcases (show i = 0 ∨ i = 1 by omega) with rfl | rfl <;> rfl
theorem DK.plain (h : DK W0 w c u cs a L) {i : Nat} (hi : i < 2) : Srt (cs i) ∧ (∀ c ∈ cs i, c.any = true) ∧ (∀ c ∈ cs i, c.f < 268435456) ∧ (cs i).length ≤ 268435456 ∧ (tabsL (cs i)).length ≤ 1073741824 := by
  obtain ⟨S, h⟩ := h.ps hi
  exact ⟨h.srt, h.2, h.fb, h.len, tabs_le h⟩
theorem DX.move {u' : List Nat} {cs' : List Cut} (h : DX W0 w c S u cs) {i : Nat} (hi : i < 2) (X : Turn (GrowS (S i) c.p c.ub) w w') (hS : PS w' (gr (S i) w w') (c.s i) c.p cs') (hP : PP w' c.p c.ub c.f0 u') (hT : Tv c.f0 c.n u' (up cs i cs')) :
    DX W0 w' c (up S i (gr (S i) w w')) u' (up cs i cs') := by
  have hz := h.trn.size
  have hin : ∀ j b, j < 2 → up S i (gr (S i) w w') j b → S j b ∨ (w.heap.size ≤ b ∧ j = i) := fun j b hj hb => by
    by_cases e : j = i
    · subst e
      rw [up_same] at hb
      rcases hb with hb | hb
      · exact .inl hb
      · exact .inr ⟨hb.1, rfl⟩
    · rw [up_other _ _ e] at hb
      exact .inl hb
  have hlow := h.pp.lt
  have hsg := h.srow.lt
  refine ⟨h.trn.trans X (fun b hb => .inr ?_), h.srow.turn X (fun hb => ?_), hP, fun j hj => ?_, h.lop, fun j b hj hb => ?_, fun j b hj hb => ?_, fun j k b hj hk hjk hb hb2 => ?_, hT⟩
  · rcases hb with hb | hb | hb
    · exact h.los i b hi hb
    · rw [hb]; exact h.lop.1
    · rw [hb]; exact h.lop.2.1
  · obtain ⟨low, hp⟩ := h.pp
    rcases hb with hb | hb | hb
    · exact (h.dP i _ hi hb).2.2 rfl
    · exact h.srow.ne hp.box (by decide) hb
    · exact h.srow.ne hp.row (by decide) hb
  · by_cases e : j = i
    · subst e
      rw [up_same, up_same]
      exact hS
    · rw [up_other _ _ e, up_other _ _ e]
      refine (h.ps j hj).keep X (fun b hb hg => ?_)
      rcases hg with hg | hg | hg
      · exact h.dS j i b hj hi e hb hg
      · exact (h.dP j b hj hb).1 hg
      · exact (h.dP j b hj hb).2.1 hg
  · rcases hin j b hj hb with hb | hb
    · exact h.los j b hj hb
    · omega
  · rcases hin j b hj hb with hb | hb
    · exact h.dP j b hj hb
    · exact ⟨by omega, by omega, by omega⟩
  · rcases hin j b hj hb with hb | hb
    · rcases hin k b hk hb2 with hb2 | hb2
      · exact h.dS j k b hj hk hjk hb hb2
      · have := (h.ps j hj).lowb b hb; omega
    · rcases hin k b hk hb2 with hb2 | hb2
      · have := (h.ps k hk).lowb b hb2; omega
      · omega
theorem DK.move {u' : List Nat} {cs' : List Cut} (h1 : DX W0 w c S u cs) (h2 : IAt w a L) (h3 : ∀ g, a = some ⟨g, 0, none⟩ → g < w.heap.size ∧ g ≠ c.p ∧ g ≠ c.ub ∧ ∀ i, i < 2 → ¬ S i g) {i : Nat} (hi : i < 2) (X : Turn (GrowS (S i) c.p c.ub) w w') (hS : PS w' (gr (S i) w w') (c.s i) c.p cs') (hP : PP w' c.p c.ub c.f0 u') (hT : Tv c.f0 c.n u' (up cs i cs')) :
    DK W0 w' c u' (up cs i cs') a L := by
  refine ⟨_, h1.move hi X hS hP hT, h2.turn X (fun g hg hb => ?_), fun g hg => ?_⟩
  · obtain ⟨g1, g2, g3, g4⟩ := h3 g hg
    rcases hb with hb | hb | hb
    · exact g4 i hi hb
    · exact g2 hb
    · exact g3 hb
  · obtain ⟨g1, g2, g3, g4⟩ := h3 g hg
    refine ⟨Nat.lt_of_lt_of_le g1 X.size, g2, g3, fun j hj hb => ?_⟩
    by_cases e : j = i
    · subst e
      rw [up_same] at hb
      rcases hb with hb | hb
      · exact g4 j hj hb
      · omega
    · rw [up_other _ _ e] at hb
      exact g4 j hj hb
theorem dk_take (h : DK W0 w c u cs a L) {i : Nat} (hi : i < 2) :
    Calls Try.prog 28 #[.pointer (some ⟨c.s i, 0, none⟩)] w fun e w' => ∃ r e0, e = .returned (.tuple #[.int .i64 r, .int .i64 e0]) ∧ ∃ u' cs', SlT c.f0 u (cs i) r e0 u' cs' ∧ DK W0 w' c u' (up cs i cs') a L := by
  obtain ⟨S, h1, h2, h3⟩ := h
  refine (stake_any w (S i) (c.s i) c.p c.ub c.f0 (cs i) u (h1.ps i hi) h1.pp (fun hb => (h1.dP i _ hi hb).1 rfl) (fun hb => (h1.dP i _ hi hb).2.1 rfl) (h1.tv.used hi)).mono ?_
  rintro e w' ⟨r, e0, u', cs', rfl, ht, hS, hP, X⟩
  exact ⟨r, e0, rfl, u', cs', ht, DK.move h1 h2 h3 hi X hS hP (h1.tv.slT hi ht)⟩
theorem dk_drop (h : DK W0 w c u cs a L) {i : Nat} (hi : i < 2) (x : Int) (hx : x ≤ 9223372036854775807) :
    Calls Try.prog 31 #[.pointer (some ⟨c.s i, 0, none⟩), .int .i64 x] w fun e w' => ∃ e0, e = .returned (.int .i64 e0) ∧ ∃ u' cs', SlD c.f0 u (cs i) x e0 u' cs' ∧ DK W0 w' c u' (up cs i cs') a L := by
  obtain ⟨S, h1, h2, h3⟩ := h
  refine (sdrop_any w (S i) (c.s i) c.p c.ub c.f0 (cs i) u x (h1.ps i hi) h1.pp (fun hb => (h1.dP i _ hi hb).1 rfl) (fun hb => (h1.dP i _ hi hb).2.1 rfl) hx).mono ?_
  rintro e w' ⟨e0, u', cs', rfl, ht, hS, hP, X⟩
  refine ⟨e0, rfl, u', cs', ht, DK.move h1 h2 h3 hi X (hS.mono (fun b hb => .inl hb) (fun b hb => ?_)) hP (h1.tv.slD hi (h1.ps i hi).srt ht)⟩
  rcases hb with hb | hb
  · exact hS.lowb b hb
  · exact hb.2
theorem dk_tabs (h : DK W0 w c u cs a L) {i : Nat} (hi : i < 2) :
    Calls Try.prog 26 #[.pointer (some ⟨c.s i, 0, none⟩)] w fun e w' => ∃ a' cap, e = .returned (.slice a' (tabsL (cs i)).length cap) ∧ Turn (fun _ => False) w w' ∧ DK W0 w' c u cs a' (tabsL (cs i)) := by
  obtain ⟨S, hS⟩ := h.ps hi
  refine (tabsW w S (c.s i) c.p (cs i) hS).mono ?_
  rintro e w' ⟨a', cap, rfl, X, hi, hg⟩
  exact ⟨a', cap, rfl, X, h.with X hi hg⟩
theorem dk_frames (h : DK W0 w c u cs a L) {i : Nat} (hi : i < 2) :
    Calls Try.prog 27 #[.pointer (some ⟨c.s i, 0, none⟩)] w fun e w' => ∃ a' cap, e = .returned (.slice a' (cs i).length cap) ∧ DK W0 w' c u cs a L := by
  obtain ⟨S, hS⟩ := h.ps hi
  refine (framesW w S (c.s i) c.p (cs i) hS).mono ?_
  rintro e w' ⟨a', cap, rfl, X, _⟩
  exact ⟨a', cap, by rw [framesL_len], h.keep X⟩
theorem dk_kept (h : DK W0 w c u cs a L) :
    Calls Try.prog 32 #[.pointer (some ⟨c.p, 0, none⟩), .pointer (some ⟨c.s 0, 0, none⟩), .pointer (some ⟨c.s 1, 0, none⟩)] w fun e w' => e = .returned (.bool true) ∧ DK W0 w' c u cs a L := by
  obtain ⟨S0, h0⟩ := h.ps (i := 0) (by omega)
  obtain ⟨S1, h1⟩ := h.ps (i := 1) (by omega)
  refine (kept_any w S0 S1 (c.s 0) (c.s 1) c.p c.ub c.f0 c.n u cs h.pp h0 h1 h.tv).mono ?_
  rintro e w' ⟨rfl, X⟩
  exact ⟨rfl, h.keep X⟩
/-- What a Take gave is what may be given. -/
theorem dk_gives {u' : List Nat} {cs' : List Cut} {i : Nat} (hi : i < 2) (h : DK W0 w c u' (up cs i cs') a (tabsL (cs i))) (hT : Tv c.f0 c.n u cs) (hp : Srt (cs i) ∧ (∀ c ∈ cs i, c.any = true) ∧ (∀ c ∈ cs i, c.f < 268435456) ∧ (cs i).length ≤ 268435456 ∧ (tabsL (cs i)).length ≤ 1073741824) {r e0 : Int} (ht : SlT c.f0 u (cs i) r e0 u' cs') (cap : Nat) :
    Calls Try.prog 30 #[.pointer (some ⟨c.s i, 0, none⟩), .slice a (tabsL (cs i)).length cap, .int .i64 r, .int .i64 e0, .int .i64 (zeros u'), .int .i64 (zeros u)] w fun e w' => e = .returned (.bool true) ∧ DK W0 w' c u' (up cs i cs') none [] := by
  obtain ⟨S, hS⟩ := h.ps hi
  rw [up_same] at hS
  have hz := zeros_le u
  have hl := hT.len
  have hn := h.pp.n1
  have hl2 := h.tv.len
  refine (gives_any w S (c.s i) c.p cs' a cap (tabsL (cs i)) r e0 (zeros u') (zeros u) hS h.iat hp.2.2.2.2 (tabsL_bd hp.2.2.1) (gv_of hp.1 hp.2.1 (hT.used hi) ht) (by omega)).mono ?_
  rintro e w' ⟨rfl, X⟩
  exact ⟨rfl, (h.keep X).bare⟩
end
end Go.Proofs.Ytplobjdghaokoaa

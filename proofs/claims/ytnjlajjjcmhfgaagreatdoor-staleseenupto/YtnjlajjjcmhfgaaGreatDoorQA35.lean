import Derived.Test.YtnjlajjjcmhfgaaGreatDoorQA18
import Derived.Test.YtnjlajjjcmhfgaaGreatDoorQA16
import Derived.Test.YtnjlajjjcmhfgaaGreatDoorQA22
import Derived.Test.YtnjlajjjcmhfgaaGreatDoorQA20
namespace Go.Proofs.YtnjlajjjcmhfgaaGreatDoor
open Go.RowKit
set_option linter.unusedVariables false
set_option linter.unusedSimpArgs false
/-- All addresses of a MiB have that walk, where its first level says it. -/
theorem wk_mib {M : Mo} {c : Ctx} {va vb : Int} {U : Tra} {F : Fa} (hM : M.Ok) (hc : c.Ok) (hv : 0 ≤ va ∧ va < 4294967296) (hw : wk M c va = (U, F)) (hk : F.k = 0) (h3 : 3 ≤ U.size) (h : va / 1048576 = vb / 1048576) : wk M c vb = (U, F) := by
  obtain ⟨e1, e2, e3⟩ := w1_sec (M := M) (c := c) (va := va) (vb := vb) h
  obtain ⟨hF, hf, hh⟩ := found hM hc hv hw hk
  rcases hh with ⟨_, hU, _⟩ | ⟨hon, hr, he, hu, hs⟩ | ⟨_, s, _, _, _, _, hs⟩
  · rw [hU] at h3; have h3 : (3 : Int) ≤ 1 := h3; omega
  · unfold wk at hw ⊢
    rw [if_pos hon] at hw ⊢
    rw [← e1]
    split at hw
    · rename_i h1
      rw [if_pos h1]
      split at hw
      · rename_i h2
        exfalso
        have : rdL M c va = r1 c va ++ [sA (w1 M c va).1 va] := by unfold rdL; rw [if_pos hon, if_pos ⟨h1, h2⟩]
        rw [hr] at this
        have hl := congrArg List.length this
        obtain ⟨hO, _⟩ := w1_kind h1
        simp [r1, hO] at hl
      · rename_i h2
        rw [if_neg h2, ← hw, tr_mib (w1_not1 h1 h2) h]
    · rename_i h1
      exfalso
      rw [← (Prod.mk.inj hw).2] at hk
      exact h1 hk
  · omega
theorem riF_ne {x : Tra} (h : riF x = true) : x ≠ tZ := by
  rintro rfl
  have := ri_size h
  simp [tZ] at this
theorem same_found {M : Mo} {c : Ctx} {va : Int} {x : Tra} (hM : M.Ok) (hc : c.Ok) (hv : 0 ≤ va ∧ va < 4294967296) (hr : riF x = true) (h : ((wk M c va).1.same x) = true) : wk M c va = (x, fZ) := by
  have h := (Tra.same_iff _ _).1 h
  obtain ⟨U, F, hq⟩ : ∃ U F, wk M c va = (U, F) := ⟨_, _, rfl⟩
  rw [hq] at h ⊢
  have h : U = x := h
  subst h
  rcases Classical.em (F.k = 0) with hk | hk
  · rw [(found hM hc hv hq hk).1]
  · exact absurd (missed hq hk).1 (riF_ne hr)
/-- A block that is found, of a page or of a section: found everywhere. -/
theorem sm_one {M : Mo} {c : Ctx} {va : Int} {x : Tra} (hM : M.Ok) (hc : c.Ok) (hv : 0 ≤ va ∧ va < 4294967296) (hon : c.on = true) (hw : wk M c va = (x, fZ)) (hs : x.size = 1 ∨ x.size = 3) : smF M c x = true := by
  have hf := (found hM hc hv hw rfl).2.1
  have hx := hf.va
  unfold smF
  rw [hon, hf.right]
  have hn : (reN x.size).toNat = 1 := by rcases hs with h | h <;> rw [h] <;> rfl
  rw [hn]
  have h0 : okAt M c x 0 = true := by
    unfold okAt
    have e : wk M c (x.va + ((0 : Nat) : Int) * stp x.size) = (x, fZ) := by
      rw [show x.va + ((0 : Nat) : Int) * stp x.size = x.va by simp]
      rcases hs with h | h
      · rw [h] at hx
        have hx : x.va = va / 4096 * 4096 := hx
        rw [wk_page (va := x.va) (vb := va) (by omega)]
        exact hw
      · rw [h] at hx
        have hx : x.va = va / 1048576 * 1048576 := hx
        exact wk_mib hM hc hv hw rfl (by omega) (by omega)
    rw [e]
    exact Tra.same_self _
  simp [allOk, h0, List.range_succ]
/-- A block that is the same everywhere is found at each of its addresses. -/
theorem sm_at {M : Mo} {c : Ctx} {x : Tra} {k : Int} (hM : M.Ok) (hc : c.Ok) (hf : Fz x) (h : smF M c x = true) (hk : 0 ≤ k ∧ k < byN x.size) : wk M c (x.va + k) = (x, fZ) := by
  unfold smF at h
  simp only [Bool.and_eq_true] at h
  obtain ⟨hon, hri, hall⟩ := h
  have hr := (ri_rr hf hri).1
  have hv := hf.va
  have ho : ∀ i, i < (reN x.size).toNat → wk M c (x.va + (i : Int) * stp x.size) = (x, fZ) := by
    intro i hi
    have h1 := List.all_eq_true.1 hall i (List.mem_range.2 hi)
    have h2 := va_rng hf hri hi
    exact same_found hM hc ⟨h2.1, h2.2.1⟩ hri h1
  rcases ri_size hri with hs | hs | hs | hs
  · rw [hs] at hk hr
    have hk : 0 ≤ k ∧ k < 4096 := hk
    have hr : x.va % 4096 = 0 := hr
    have h0 := ho 0 (by rw [hs]; decide)
    rw [show x.va + ((0 : Nat) : Int) * stp x.size = x.va by simp] at h0
    rw [wk_page (va := x.va + k) (vb := x.va) (by omega)]
    exact h0
  · rw [hs] at hk hr
    have hk : 0 ≤ k ∧ k < 65536 := hk
    have hr : x.va % 65536 = 0 := hr
    have h0 := ho (k / 4096).toNat (by rw [hs]; show (k / 4096).toNat < 16; omega)
    rw [hs] at h0
    have e : x.va + (((k / 4096).toNat : Nat) : Int) * stp 2 = x.va + (k / 4096) * 4096 := by
      rw [show stp 2 = 4096 from rfl, Int.toNat_of_nonneg (by omega)]
    rw [e] at h0
    rw [wk_page (va := x.va + k) (vb := x.va + k / 4096 * 4096) (by omega)]
    exact h0
  · rw [hs] at hk hr
    have hk : 0 ≤ k ∧ k < 1048576 := hk
    have hr : x.va % 1048576 = 0 := hr
    have h0 := ho 0 (by rw [hs]; decide)
    rw [show x.va + ((0 : Nat) : Int) * stp x.size = x.va by simp] at h0
    exact wk_mib hM hc hv h0 rfl (by omega) (by omega)
  · rw [hs] at hk hr
    have hk : 0 ≤ k ∧ k < 16777216 := hk
    have hr : x.va % 16777216 = 0 := hr
    have h0 := ho (k / 1048576).toNat (by rw [hs]; show (k / 1048576).toNat < 16; omega)
    rw [hs] at h0
    have e : x.va + (((k / 1048576).toNat : Nat) : Int) * stp 4 = x.va + (k / 1048576) * 1048576 := by
      rw [show stp 4 = 1048576 from rfl, Int.toNat_of_nonneg (by omega)]
    rw [e] at h0
    exact wk_mib hM hc (by omega) h0 rfl (by omega) (by omega)
end Go.Proofs.YtnjlajjjcmhfgaaGreatDoor
namespace Go.Proofs.YtnjlajjjcmhfgaaGreatDoor
open Go.RowKit
set_option linter.unusedVariables false
set_option linter.unusedSimpArgs false
section
variable {α : Type} (ky : α → List Int)
/-- Ordered by keys. -/
def ltK (a b : α) : Bool := decide (lexC (ky a) (ky b) < 0)
theorem ltK_irrefl (a : α) : ltK ky a a = false := by simp [ltK, lexC_self]
theorem ltK_trans (a b d : α) (h1 : ltK ky a b = true) (h2 : ltK ky b d = true) : ltK ky a d = true := by
  simp only [ltK, decide_eq_true_eq] at *
  exact lexC_trans _ _ _ h1 h2
theorem ltK_tot (hl : ∀ a b, (ky a).length = (ky b).length) (hi : ∀ a b, ky a = ky b → a = b) (a b : α) (h1 : ltK ky a b = false) (h2 : ltK ky b a = false) : a = b := by
  simp only [ltK, decide_eq_false_iff_not] at *
  exact hi _ _ (lexC_eq _ _ (hl a b) h1 h2)
theorem ltK_ntrans (hl : ∀ a b, (ky a).length = (ky b).length) (hi : ∀ a b, ky a = ky b → a = b) (a b d : α) (h1 : ltK ky a b = false) (h2 : ltK ky b d = false) : ltK ky a d = false := by
  cases hc : ltK ky a d with
  | false => rfl
  | true =>
    cases hd : ltK ky b a with
    | false => rw [ltK_tot ky hl hi a b h1 hd, h2] at hc; cases hc
    | true => rw [ltK_trans ky _ _ _ hd hc] at h2; cases h2
end
section
variable {α : Type} {lt : α → α → Bool}
/-- The sort of a list without repeats. -/
theorem so_eq (hi : ∀ x, lt x x = false) (ht : ∀ x y z, lt x y = true → lt y z = true → lt x z = true) (hq : ∀ x y, lt x y = false → lt y x = false → x = y) (hn : ∀ x y z, lt x y = false → lt y z = false → lt x z = false)
    {l m : List α} (hd : l.Nodup) (hm : m.Pairwise (fun a b => lt a b = true)) (h : ∀ a, a ∈ l ↔ a ∈ m) : (l.mergeSort fun x y => !lt y x) = m := by
  refine rising_unique hi ht _ _ ?_ hm (fun a => by rw [(List.mergeSort_perm _ _).mem_iff, h])
  have h1 := List.pairwise_mergeSort (le := fun x y => !lt y x) (l := l) (fun a b d h1 h2 => by
      simp only [Bool.not_eq_true'] at *
      exact hn _ _ _ h2 h1) (fun a b => by
      cases h1 : lt b a with
      | false => rfl
      | true =>
        cases h2 : lt a b with
        | false => rfl
        | true => have := ht _ _ _ h1 h2; rw [hi] at this; cases this)
  have h2 : (l.mergeSort fun x y => !lt y x).Nodup := (List.mergeSort_perm _ _).nodup_iff.2 hd
  refine (h1.and h2).imp ?_
  rintro a b ⟨g1, g2⟩
  cases hc : lt a b with
  | true => rfl
  | false => exact absurd (hq a b hc (by simpa using g1)) g2
theorem rising_nodup (hi : ∀ x, lt x x = false) {m : List α} (hm : m.Pairwise (fun a b => lt a b = true)) : m.Nodup :=
  hm.imp (fun {a b} h e => by subst e; rw [hi] at h; cases h)
end
/-- The keys of a block, of a dirt. -/
def kyB (b : Blo) : List Int := [b.asid, b.t.size, b.t.va, b.t.pa, b.t.dom, b.t.ap, b.t.bits, bI b.t.ng, bI b.t.xn]
def cmB (a b : Blo) : Int := lexC (kyB a) (kyB b)
def ltB (a b : Blo) : Bool := ltK kyB a b
structure Dir where
  asid : Int
  b : Blo
def kyD (d : Dir) : List Int := d.asid :: kyB d.b
def cmD (a b : Dir) : Int := lexC (kyD a) (kyD b)
def ltD (a b : Dir) : Bool := ltK kyD a b
def Dir.same (a b : Dir) : Bool := a.asid == b.asid && a.b.same b.b
theorem Dir.same_iff (a b : Dir) : a.same b = true ↔ a = b := by
  obtain ⟨a1, a2⟩ := a
  obtain ⟨b1, b2⟩ := b
  simp [Dir.same, Blo.same_iff]
theorem bI_inj {a b : Bool} (h : bI a = bI b) : a = b := by revert h; cases a <;> cases b <;> simp [bI]
theorem kyB_inj (a b : Blo) (h : kyB a = kyB b) : a = b := by
  obtain ⟨a0, a1, a2, a3, a4, a5, a6, a7, a8⟩ := a
  obtain ⟨b0, b1, b2, b3, b4, b5, b6, b7, b8⟩ := b
  simp [kyB] at h
  obtain ⟨h0, h1, h2, h3, h4, h5, h6, h7, h8⟩ := h
  have e7 := bI_inj h7
  have e8 := bI_inj h8
  subst h0; subst h1; subst h2; subst h3; subst h4; subst h5; subst h6; subst e7; subst e8
  rfl
theorem kyD_inj (a b : Dir) (h : kyD a = kyD b) : a = b := by
  obtain ⟨a0, a1⟩ := a
  obtain ⟨b0, b1⟩ := b
  injection h with h1 h2
  have := kyB_inj _ _ h2
  dsimp only at h1 this
  rw [h1, this]
theorem ltB_irrefl (a : Blo) : ltB a a = false := ltK_irrefl _ a
theorem ltB_trans (a b d : Blo) (h1 : ltB a b = true) (h2 : ltB b d = true) : ltB a d = true := ltK_trans _ _ _ _ h1 h2
theorem ltB_tot (a b : Blo) (h1 : ltB a b = false) (h2 : ltB b a = false) : a = b := ltK_tot _ (fun _ _ => rfl) kyB_inj _ _ h1 h2
theorem ltB_ntrans (a b d : Blo) (h1 : ltB a b = false) (h2 : ltB b d = false) : ltB a d = false := ltK_ntrans _ (fun _ _ => rfl) kyB_inj _ _ _ h1 h2
theorem ltD_irrefl (a : Dir) : ltD a a = false := ltK_irrefl _ a
theorem ltD_trans (a b d : Dir) (h1 : ltD a b = true) (h2 : ltD b d = true) : ltD a d = true := ltK_trans _ _ _ _ h1 h2
theorem ltD_tot (a b : Dir) (h1 : ltD a b = false) (h2 : ltD b a = false) : a = b := ltK_tot _ (fun _ _ => rfl) kyD_inj _ _ h1 h2
theorem ltD_ntrans (a b d : Dir) (h1 : ltD a b = false) (h2 : ltD b d = false) : ltD a d = false := ltK_ntrans _ (fun _ _ => rfl) kyD_inj _ _ _ h1 h2
theorem ltD_iff (a b : Dir) : ltD a b = true ↔ a.asid < b.asid ∨ (a.asid = b.asid ∧ ltB a.b b.b = true) := by
  simp only [ltD, ltB, ltK, decide_eq_true_eq, kyD, lexC_lt_iff]
/-- Known blocks, in order. -/
abbrev Ri (K : List Blo) : Prop := K.Pairwise fun a b => ltB a b = true
theorem Ri.nodup {K : List Blo} (h : Ri K) : K.Nodup := rising_nodup ltB_irrefl h
def adB : List Blo → Blo → List Blo
  | [], b => [b]
  | x :: l, b => if x.same b then x :: l else if ltB b x then b :: x :: l else x :: adB l b
theorem mem_adB {x b : Blo} : ∀ K : List Blo, x ∈ adB K b ↔ x = b ∨ x ∈ K
  | [] => by simp [adB]
  | y :: l => by
    have ih := mem_adB (x := x) (b := b) l
    unfold adB
    split
    · rename_i h
      have h := (Blo.same_iff _ _).1 h
      subst h
      simp
    · split
      · simp
      · rw [List.mem_cons, ih, List.mem_cons]
        constructor
        · rintro (h | h | h)
          · exact .inr (.inl h)
          · exact .inl h
          · exact .inr (.inr h)
        · rintro (h | h | h)
          · exact .inr (.inl h)
          · exact .inl h
          · exact .inr (.inr h)
theorem adB_ri {b : Blo} : ∀ {K : List Blo}, Ri K → Ri (adB K b)
  | [], _ => by simp [adB]
  | y :: l, h => by
    have h1 := List.pairwise_cons.1 h
    have ih := adB_ri (b := b) h1.2
    unfold adB
    split
    · exact h
    · rename_i hne
      split
      · rename_i hlt
        refine List.pairwise_cons.2 ⟨fun z hz => ?_, h⟩
        rcases List.mem_cons.1 hz with rfl | hz
        · exact hlt
        · exact ltB_trans _ _ _ hlt (h1.1 z hz)
      · rename_i hnlt
        refine List.pairwise_cons.2 ⟨fun z hz => ?_, ih⟩
        rcases (mem_adB l).1 hz with rfl | hz
        · cases hc : ltB y z with
          | true => rfl
          | false => exact absurd ((Blo.same_iff _ _).2 (ltB_tot y z hc (by simpa using hnlt))) hne
        · exact h1.1 z hz
theorem adB_len {b : Blo} : ∀ K : List Blo, (adB K b).length ≤ K.length + 1
  | [] => by simp [adB]
  | y :: l => by
    have ih := adB_len (b := b) l
    unfold adB
    split
    · simp
    · split
      · simp
      · simp; exact ih
theorem ri_eq {K L : List Blo} (h1 : Ri K) (h2 : Ri L) (h : ∀ b, b ∈ K ↔ b ∈ L) : K = L := rising_unique ltB_irrefl ltB_trans _ _ h1 h2 h
/-- What is seen. -/
def tgB (a : Int) (t : Tra) : Blo := ⟨if t.ng then a else -1, t⟩
def seL (a : Int) (l : List Tra) (K : List Blo) : List Blo := l.foldl (fun K t => adB K (tgB a t)) K
theorem seL_snoc (a : Int) (l : List Tra) (t : Tra) (K : List Blo) : seL a (l ++ [t]) K = adB (seL a l K) (tgB a t) := by simp [seL, List.foldl_append]
theorem mem_seL {a : Int} {x : Blo} : ∀ {l : List Tra} {K : List Blo}, x ∈ seL a l K ↔ x ∈ K ∨ ∃ t ∈ l, x = tgB a t
  | [], K => by simp [seL]
  | t :: l, K => by
    show x ∈ seL a l (adB K (tgB a t)) ↔ _
    rw [mem_seL, mem_adB]
    constructor
    · rintro ((h | h) | ⟨u, hu, h⟩)
      · exact .inr ⟨t, .head _, h⟩
      · exact .inl h
      · exact .inr ⟨u, .tail _ hu, h⟩
    · rintro (h | ⟨u, hu, h⟩)
      · exact .inl (.inr h)
      · rcases List.mem_cons.1 hu with rfl | hu
        · exact .inl (.inl h)
        · exact .inr ⟨u, hu, h⟩
theorem seL_ri {a : Int} : ∀ {l : List Tra} {K : List Blo}, Ri K → Ri (seL a l K)
  | [], _, h => h
  | t :: l, K, h => seL_ri (l := l) (adB_ri h)
theorem seL_len {a : Int} : ∀ {l : List Tra} {K : List Blo}, (seL a l K).length ≤ K.length + l.length
  | [], _ => by simp [seL]
  | t :: l, K => by
    have h := seL_len (a := a) (l := l) (K := adB K (tgB a t))
    have h2 := adB_len (b := tgB a t) K
    show (seL a l (adB K (tgB a t))).length ≤ _
    rw [List.length_cons]
    omega
/-- What a known block is. -/
structure KOk (b : Blo) : Prop where
  r : bR b = true
  ok : BOk b
  sa : -1 ≤ b.asid ∧ b.asid ≤ 255
  dom : 0 ≤ b.t.dom ∧ b.t.dom ≤ 15
  ap : 0 ≤ b.t.ap ∧ b.t.ap ≤ 7
  sz : b.t.size = 1 ∨ b.t.size = 2 ∨ b.t.size = 3 ∨ b.t.size = 4
theorem KOk.ri {b : Blo} (h : KOk b) : riF b.t = true := by
  have := h.r
  unfold bR at this
  split at this
  · assumption
  · cases this
theorem KOk.fz {b : Blo} (h : KOk b) : Fz b.t := ⟨h.ok.va, h.ok.pa, h.ok.bits⟩
theorem KOk.rr {b : Blo} (h : KOk b) : RR b.t := ri_rr h.fz h.ri
theorem KOk.own {b : Blo} (h : KOk b) : (b.t.ng = true ∧ 0 ≤ b.asid) ∨ (b.t.ng = false ∧ b.asid = -1) := by
  have := h.r
  unfold bR at this
  rw [h.ri] at this
  cases hn : b.t.ng with
  | true =>
    rw [hn] at this
    simp [asF] at this
    exact .inl ⟨rfl, this.1⟩
  | false =>
    rw [hn] at this
    simp at this
    exact .inr ⟨rfl, this⟩
theorem tgB_ok {M : Mo} {c : Ctx} {t : Tra} {va : Int} (hM : M.Ok) (hc : c.Ok) (ha : 0 ≤ c.asid ∧ c.asid ≤ 255) (hv : 0 ≤ va ∧ va < 4294967296) (h : wk M c va = (t, fZ)) : KOk (tgB c.asid t) := by
  have hf := (found hM hc hv h rfl).2.1
  have hr := hf.rr
  have hg := hf.rng hv
  have hp := hf.pa
  refine ⟨?_, ⟨⟨hg.1, by show t.va < _; omega⟩, ⟨hp.1, by show t.pa < _; omega⟩, hf.bt⟩, ?_, hr.2.2.1, ⟨hr.2.1.1, hr.2.1.2.1⟩, hf.sz⟩
  · unfold bR tgB
    dsimp only
    rw [hf.right]
    cases hn : t.ng with
    | true => simp [asF]; exact ha
    | false => simp
  · unfold tgB
    dsimp only
    split <;> omega
end Go.Proofs.YtnjlajjjcmhfgaaGreatDoor
namespace Go.Proofs.YtnjlajjjcmhfgaaGreatDoor
open Go.RowKit
set_option linter.unusedVariables false
set_option linter.unusedSimpArgs false
/-- The judges, by their ASIDs. -/
abbrev Jud : Type := Int → Option Ctx
def setJ (J : Jud) (a : Int) (c : Ctx) : Jud := fun x => if x = a then some c else J x
/-- A tracker's judges are such as they can be. -/
def JOk (J : Jud) : Prop := ∀ a c, J a = some c → (0 ≤ a ∧ a ≤ 255) ∧ c.on = true ∧ c.Ok ∧ c.asid = a
theorem JOk.set {J : Jud} (h : JOk J) {c : Ctx} (ha : 0 ≤ c.asid ∧ c.asid ≤ 255) (hon : c.on = true) (hc : c.Ok) : JOk (setJ J c.asid c) := by
  intro a d hd
  unfold setJ at hd
  split at hd
  · rename_i e
    cases hd
    exact ⟨by omega, hon, hc, e.symm⟩
  · exact h a d hd
/-- Known blocks and judges. -/
structure TrOk (K : List Blo) (J : Jud) : Prop where
  ri : Ri K
  ok : ∀ b ∈ K, KOk b
  j : JOk J
  own : ∀ b ∈ K, b.asid ≠ -1 → ∃ c, J b.asid = some c
theorem TrOk.nil : TrOk [] (fun _ => none) := ⟨.nil, (fun b hb => by cases hb), (fun a c h => by cases h), (fun b hb => by cases hb)⟩
/-- See. -/
def seK (M : Mo) (c : Ctx) (K : List Blo) : List Blo := seL c.asid (blL M c) K
theorem TrOk.see {K : List Blo} {J : Jud} {M : Mo} {c : Ctx} (h : TrOk K J) (hM : M.Ok) (hc : c.Ok) (ha : 0 ≤ c.asid ∧ c.asid ≤ 255) (hon : c.on = true) : TrOk (seK M c K) (setJ J c.asid c) := by
  refine ⟨seL_ri h.ri, ?_, h.j.set ha hon hc, ?_⟩
  · intro b hb
    rcases mem_seL.1 hb with hb | ⟨t, ht, rfl⟩
    · exact h.ok b hb
    · obtain ⟨va, hv, hw⟩ := (mem_blL hon t).1 ht
      exact tgB_ok hM hc ha hv hw
  · intro b hb hne
    unfold setJ
    rcases mem_seL.1 hb with hb | ⟨t, ht, rfl⟩
    · split
      · exact ⟨c, rfl⟩
      · exact h.own b hb hne
    · have : (tgB c.asid t).asid = c.asid := by
        unfold tgB at hne ⊢
        dsimp only at hne ⊢
        split
        · rfl
        · rename_i hn
          rw [if_neg hn] at hne
          exact absurd rfl hne
      rw [if_pos this]
      exact ⟨c, rfl⟩
/-- Drop. -/
def drK (d : Dro) (K : List Blo) : List Blo := K.filter fun b => !tkF d b
theorem TrOk.sub {K L : List Blo} {J : Jud} (h : TrOk K J) (hs : L.Sublist K) : TrOk L J :=
  ⟨h.ri.sublist hs, fun b hb => h.ok b (hs.subset hb), h.j, fun b hb => h.own b (hs.subset hb)⟩
theorem TrOk.drop {K : List Blo} {J : Jud} (h : TrOk K J) (d : Dro) : TrOk (drK d K) J := h.sub List.filter_sublist
/-- Stale. -/
def stF (M : Mo) (K : List Blo) (J : Jud) (asid va : Int) : Bool :=
  match J asid with
  | none => false
  | some c => K.any fun b => !(b.t.same (wk M c va).1) && ovF b va asid
/-- Dirty. -/
def diF (M : Mo) (J : Jud) (a : Int) (b : Blo) : Bool :=
  match J a with
  | none => false
  | some c => hoF b a && !smF M c b.t
def diA (M : Mo) (K : List Blo) (J : Jud) (a : Int) : List Dir := (K.filter (diF M J a)).map fun b => ⟨a, b⟩
def diL (M : Mo) (K : List Blo) (J : Jud) : List Dir := (List.range 256).flatMap fun (a : Nat) => diA M K J a
theorem mem_diA {M : Mo} {K : List Blo} {J : Jud} {a : Int} {x : Dir} : x ∈ diA M K J a ↔ x.asid = a ∧ x.b ∈ K ∧ diF M J a x.b = true := by
  unfold diA
  rw [List.mem_map]
  constructor
  · rintro ⟨b, hb, rfl⟩
    have := List.mem_filter.1 hb
    exact ⟨rfl, this.1, this.2⟩
  · rintro ⟨h1, h2, h3⟩
    refine ⟨x.b, List.mem_filter.2 ⟨h2, h3⟩, ?_⟩
    obtain ⟨xa, xb⟩ := x
    dsimp only at h1 ⊢
    rw [h1]
theorem mem_diL {M : Mo} {K : List Blo} {J : Jud} (hJ : JOk J) {x : Dir} : x ∈ diL M K J ↔ x.b ∈ K ∧ diF M J x.asid x.b = true := by
  unfold diL
  rw [List.mem_flatMap]
  constructor
  · rintro ⟨a, _, hx⟩
    obtain ⟨h1, h2, h3⟩ := mem_diA.1 hx
    rw [h1]
    exact ⟨h2, h3⟩
  · rintro ⟨h2, h3⟩
    have h4 : ∃ c, J x.asid = some c := by
      unfold diF at h3
      split at h3
      · cases h3
      · rename_i c hc; exact ⟨c, hc⟩
    obtain ⟨c, hc⟩ := h4
    have h5 := (hJ _ _ hc).1
    refine ⟨x.asid.toNat, List.mem_range.2 (by omega), mem_diA.2 ⟨by omega, h2, ?_⟩⟩
    rw [Int.toNat_of_nonneg h5.1]
    exact h3
theorem diL_rising {M : Mo} {K : List Blo} {J : Jud} (h : Ri K) : (diL M K J).Pairwise fun a b => ltD a b = true := by
  unfold diL
  rw [List.pairwise_flatMap]
  refine ⟨fun a _ => ?_, ?_⟩
  · unfold diA
    rw [List.pairwise_map]
    have h' : (K.filter (diF M J a)).Pairwise (fun a b => ltB a b = true) := List.Pairwise.filter _ h
    exact h'.imp (fun {x y} hxy => (ltD_iff ⟨a, x⟩ ⟨a, y⟩).2 (.inr ⟨rfl, hxy⟩))
  · refine (List.pairwise_lt_range (n := 256)).imp ?_
    intro a b hab x hx y hy
    rw [ltD_iff]
    left
    rw [(mem_diA.1 hx).1, (mem_diA.1 hy).1]
    omega
/-- The sort of dirts, of blocks. -/
def soB (l : List Blo) : List Blo := l.mergeSort fun x y => !ltB y x
def soD (l : List Dir) : List Dir := l.mergeSort fun x y => !ltD y x
theorem soB_eq {l K : List Blo} (hd : l.Nodup) (hK : Ri K) (h : ∀ b, b ∈ l ↔ b ∈ K) : soB l = K := so_eq ltB_irrefl ltB_trans ltB_tot ltB_ntrans hd hK h
theorem soD_eq {l m : List Dir} (hd : l.Nodup) (hm : m.Pairwise fun a b => ltD a b = true) (h : ∀ b, b ∈ l ↔ b ∈ m) : soD l = m := so_eq ltD_irrefl ltD_trans ltD_tot ltD_ntrans hd hm h
/-- A list without repeats whose members are all in another is no longer. -/
theorem nodup_len {α : Type} : ∀ {l m : List α}, l.Nodup → (∀ x ∈ l, x ∈ m) → l.length ≤ m.length
  | [], _, _, _ => by simp
  | x :: l, m, hd, h => by
    have h1 := List.pairwise_cons.1 hd
    obtain ⟨a, b, rfl⟩ := List.append_of_mem (h x (.head _))
    have := nodup_len (l := l) (m := a ++ b) h1.2 (fun y hy => by
      have h2 := h y (.tail _ hy)
      rcases List.mem_append.1 h2 with h2 | h2
      · exact List.mem_append_left _ h2
      · rcases List.mem_cons.1 h2 with rfl | h2
        · exact absurd rfl (h1.1 y hy)
        · exact List.mem_append_right _ h2)
    simp at this ⊢
    omega
end Go.Proofs.YtnjlajjjcmhfgaaGreatDoor
namespace Go.Proofs.YtnjlajjjcmhfgaaGreatDoor
open Go.RowKit
open Mm (Byts)
set_option linter.unusedVariables false
set_option linter.unusedSimpArgs false
/-- The MiB for which an address is read, at N = n. -/
def mI (A : Int) (n : Nat) : Int := A % 2 ^ (14 - n) / 4
theorem cl_mod (b : Int) (k : Nat) (r : Int) (h0 : 0 ≤ r) (h : r < 2 ^ k) : (cl b k + r) % 2 ^ k = r := by
  unfold cl
  rw [Int.add_comm, Int.add_mul_emod_self_right]
  exact Int.emod_eq_of_lt h0 h
theorem fA_mI {c : Ctx} {va : Int} (hv : 0 ≤ va ∧ va < 4294967296) : ∃ n, n < 8 ∧ mI (fA c va) n = va / 1048576 := by
  unfold fA
  by_cases h : lw c va = true
  · rw [if_pos h]
    refine ⟨nN c, by have := nN_lt c; omega, ?_⟩
    unfold mI
    rw [cl_mod _ _ _ (by omega) (lw_idx hv.1 h)]
    omega
  · rw [if_neg h]
    refine ⟨0, by omega, ?_⟩
    unfold mI
    rw [Nat.sub_zero, cl_mod _ _ _ (by omega) (by show 4 * (va / 1048576) < 16384; omega)]
    omega
/-- What is found where the first-level descriptor stands at A. -/
def tA (M : Mo) (A va : Int) : Tra := if (D1 (M.wd A)).kind = 1 then (w2 M (D1 (M.wd A)) va).1 else trF (D1 (M.wd A)) 0 va
theorem wk_tA {M : Mo} {c : Ctx} {va : Int} {t : Tra} (hon : c.on = true) (h : wk M c va = (t, fZ)) : t = tA M (fA c va) va ∧ M.er (fA c va) = 0 ∧ (D1 (M.wd (fA c va))).kind ≠ 0 ∧ fO c va = true ∧ ((D1 (M.wd (fA c va))).kind = 1 → w2 M (D1 (M.wd (fA c va))) va = (t, fZ)) := by
  unfold wk at h
  rw [if_pos hon] at h
  split at h
  · rename_i h1
    obtain ⟨e1, e2, e3, e4⟩ := w1_kind h1
    rw [e3] at h
    dsimp only at h
    unfold tA
    split at h
    · rename_i h2
      rw [if_pos h2, h]
      exact ⟨rfl, e2, e4, e1, fun _ => rfl⟩
    · rename_i h2
      rw [if_neg h2]
      exact ⟨(Prod.mk.inj h).1.symm, e2, e4, e1, fun h3 => absurd h3 h2⟩
  · rename_i h1
    exact absurd (by rw [(Prod.mk.inj h).2]; rfl) h1
theorem tA_page {M : Mo} {A va vb : Int} (h : va / 4096 = vb / 4096) : tA M A va = tA M A vb := by
  unfold tA
  have : w2 M (D1 (M.wd A)) va = w2 M (D1 (M.wd A)) vb := by
    unfold w2 sA
    rw [h, tr_page h]
  rw [this, tr_page h]
def li1 (M : Mo) (A : Int) : List Tra := (List.range 8).flatMap fun (n : Nat) => (List.range 256).map fun (j : Nat) => tA M A (mI A n * 1048576 + (j : Int) * 4096)
theorem flat_len {α β : Type} {f : α → List β} {k : Nat} : ∀ {l : List α}, (∀ a ∈ l, (f a).length = k) → (l.flatMap f).length = l.length * k
  | [], _ => by simp
  | a :: l, h => by
    have ih := flat_len (f := f) (k := k) (l := l) (fun b hb => h b (.tail _ hb))
    rw [List.flatMap_cons, List.length_append, ih, h a (.head _), List.length_cons, Nat.add_mul]
    omega
theorem li1_len (M : Mo) (A : Int) : (li1 M A).length = 2048 := by
  unfold li1
  rw [flat_len (k := 256) (fun a _ => by simp)]
  simp
theorem mem_li1 {M : Mo} {c : Ctx} {va : Int} {t : Tra} (hon : c.on = true) (hv : 0 ≤ va ∧ va < 4294967296) (h : wk M c va = (t, fZ)) : t ∈ li1 M (fA c va) := by
  obtain ⟨e, _⟩ := wk_tA hon h
  obtain ⟨n, hn, hm⟩ := fA_mI (c := c) hv
  unfold li1
  refine List.mem_flatMap.2 ⟨n, List.mem_range.2 hn, List.mem_map.2 ⟨(va / 4096 % 256).toNat, List.mem_range.2 (by omega), ?_⟩⟩
  rw [e]
  refine tA_page ?_
  rw [hm]
  omega
def li2 (y A : Int) : List Tra := (List.range 4096).flatMap fun (m : Nat) => (List.range 16).map fun (d : Nat) => trF (D2 y) d ((m : Int) * 1048576 + A / 4 % 256 * 4096)
theorem li2_len (y A : Int) : (li2 y A).length = 65536 := by
  unfold li2
  rw [flat_len (k := 16) (fun a _ => by simp)]
  simp
/-- All that walks can find and that is global. -/
def Wc (M : Mo) (U : List Tra) : Prop := ∀ c va t, c.Ok → c.on = true → (0 ≤ va ∧ va < 4294967296) → wk M c va = (t, fZ) → t.ng = false → t ∈ U
theorem Wc.nil : Wc nilMo [] := by
  intro c va t hc hon hv h hg
  obtain ⟨_, he, _⟩ := wk_tA hon h
  exact absurd he (by show ¬ (30 : Int) = 0; decide)
theorem Wc.mono {M : Mo} {U V : List Tra} (h : Wc M U) (hs : ∀ t ∈ U, t ∈ V) : Wc M V := fun c va t hc hon hv hw hg => hs t (h c va t hc hon hv hw hg)
theorem Wc.first {M : Mo} {As : List Int} (h : ∀ a, 0 ≤ a → M.wd a ≠ 0 → a ∈ As) : Wc M (As.flatMap (li1 M)) := by
  intro c va t hc hon hv hw hg
  obtain ⟨_, he, hk, _⟩ := wk_tA hon hw
  refine List.mem_flatMap.2 ⟨fA c va, h _ (fA_rng c va hc hv).1 (fun e => hk ?_), mem_li1 hon hv hw⟩
  rw [e]
  decide
theorem Wc.put {N : Nat} {m : Nat → Int} {A y : Int} {U : List Tra} (h : Wc (ramMo N m) U) (hB : Byts m) (hA : 0 ≤ A) (hy : 0 ≤ y ∧ y < 4294967296) :
    Wc (ramMo N (putM N m A y)) (U ++ (li1 (ramMo N (putM N m A y)) A ++ li2 y A)) := by
  intro c va t hc hon hv hw hg
  by_cases hz : Mm.errV N A 4 = 0
  · obtain ⟨e, he, hk, hO, hs⟩ := wk_tA hon hw
    by_cases h1 : fA c va = A
    · have := mem_li1 hon hv hw
      rw [h1] at this
      exact List.mem_append_right _ (List.mem_append_left _ this)
    · have hf := fA_rng c va hc hv
      have hM := ramMo_ok (N := N) hB
      have d1 : (ramMo N (putM N m A y)).wd (fA c va) = (ramMo N m).wd (fA c va) := putM_other hA hf.1 (fun e => h1 e.symm)
      rw [d1] at hk hs
      have w1e : w1 (ramMo N m) c va = (D1 ((ramMo N m).wd (fA c va)), fZ) := by
        unfold w1
        rw [if_pos hO, if_pos (show (ramMo N m).er (fA c va) = 0 from he), if_neg hk]
      by_cases hk1 : (D1 ((ramMo N m).wd (fA c va))).kind = 1
      · have hs2 := hs hk1
        have hx := hM (fA c va)
        have hsr := sA_rng hx hk1 hv.1
        by_cases h2 : sA (D1 ((ramMo N m).wd (fA c va))) va = A
        · refine List.mem_append_right _ (List.mem_append_right _ ?_)
          have hb := D1_base _ hx hk1
          unfold w2 at hs2
          rw [h2, if_pos (show (ramMo N (putM N m A y)).er A = 0 from hz), putM_same hA hz hy.1 hy.2] at hs2
          split at hs2
          · have := (Prod.mk.inj hs2).2
            rw [Fa.mk.injEq] at this
            exact absurd this.1 (by decide)
          · have ht := (Prod.mk.inj hs2).1
            rw [← ht]
            unfold li2
            refine List.mem_flatMap.2 ⟨(va / 1048576).toNat, List.mem_range.2 (by omega), List.mem_map.2 ⟨(D1 ((ramMo N m).wd (fA c va))).dom.toNat, List.mem_range.2 (by omega), ?_⟩⟩
            rw [Int.toNat_of_nonneg hb.2.2.2.1, Int.toNat_of_nonneg (by omega)]
            refine tr_page ?_
            unfold sA at h2
            omega
        · refine List.mem_append_left _ (h c va t hc hon hv ?_ hg)
          unfold wk
          rw [if_pos hon, w1e]
          dsimp only
          rw [if_pos (show (fZ : Fa).k = 0 from rfl), if_pos hk1, ← hs2]
          unfold w2
          rw [putM_other hA hsr.1 (fun e => h2 e.symm)]
          rfl
      · refine List.mem_append_left _ (h c va t hc hon hv ?_ hg)
        unfold wk
        rw [if_pos hon, w1e]
        dsimp only
        rw [if_pos (show (fZ : Fa).k = 0 from rfl), if_neg hk1, e]
        unfold tA
        rw [d1, if_neg hk1]
  · rw [putM_no hA hz] at hw
    exact List.mem_append_left _ (h c va t hc hon hv hw hg)
/-- How many blocks a See can tell. -/
theorem blT_len (M : Mo) (c : Ctx) (n : Nat) : (blT M c n).length ≤ 4096 * n := by
  induction n with
  | zero => simp [blT]
  | succ n ih =>
    rw [blT_succ, List.length_append]
    have := wiL_len M c ((n : Int) * 16777216)
    omega
theorem blL_len (M : Mo) (c : Ctx) : (blL M c).length ≤ 1048576 := by
  unfold blL
  split
  · exact blT_len M c 256
  · simp
/-- How many dirts there are. -/
def Kg (K : List Blo) : List Blo := K.filter fun b => b.asid == -1
theorem diL_len {M : Mo} {K : List Blo} {J : Jud} (hJ : JOk J) (h : Ri K) : (diL M K J).length ≤ 256 * (Kg K).length + K.length := by
  have hn : (diL M K J).Nodup := rising_nodup ltD_irrefl (diL_rising h)
  have hm : ∀ x ∈ diL M K J, x ∈ ((List.range 256).flatMap fun (a : Nat) => (Kg K).map fun b => (⟨a, b⟩ : Dir)) ++ K.map fun b => (⟨b.asid, b⟩ : Dir) := by
    intro x hx
    obtain ⟨h1, h2⟩ := (mem_diL hJ).1 hx
    have h3 : ∃ c, J x.asid = some c ∧ hoF x.b x.asid = true := by
      unfold diF at h2
      split at h2
      · cases h2
      · rename_i c hc
        rw [Bool.and_eq_true] at h2
        exact ⟨c, hc, h2.1⟩
    obtain ⟨c, hc, ho⟩ := h3
    have ha := (hJ _ _ hc).1
    unfold hoF at ho
    rw [Bool.or_eq_true] at ho
    obtain ⟨xa, xb⟩ := x
    dsimp only at *
    by_cases hg : xb.asid = -1
    · refine List.mem_append_left _ (List.mem_flatMap.2 ⟨xa.toNat, List.mem_range.2 (by omega), List.mem_map.2 ⟨xb, List.mem_filter.2 ⟨h1, by simp [hg]⟩, ?_⟩⟩)
      rw [Int.toNat_of_nonneg ha.1]
    · refine List.mem_append_right _ (List.mem_map.2 ⟨xb, h1, ?_⟩)
      rcases ho with ho | ho
      · rw [eq_of_beq ho]
      · exact absurd (eq_of_beq ho) hg
  have := nodup_len hn hm
  rw [List.length_append, flat_len (k := (Kg K).length) (fun a _ => by simp), List.length_map, List.length_range] at this
  exact this
theorem Kg_len {K : List Blo} {U : List Tra} (h : Ri K) (hU : ∀ b ∈ K, b.asid = -1 → b.t ∈ U) : (Kg K).length ≤ U.length := by
  have h1 : ((Kg K).map (·.t)).Nodup := by
    unfold List.Nodup
    rw [List.pairwise_map]
    refine List.Pairwise.imp_of_mem ?_ (h.nodup.filter _)
    intro a b ha hb hne e
    have h1 := (List.mem_filter.1 ha).2
    have h2 := (List.mem_filter.1 hb).2
    obtain ⟨a0, a1⟩ := a
    obtain ⟨b0, b1⟩ := b
    dsimp only at h1 h2 e
    rw [eq_of_beq h1, eq_of_beq h2, e] at hne
    exact hne rfl
  have := nodup_len h1 (m := U) (fun t ht => by
    obtain ⟨b, hb, rfl⟩ := List.mem_map.1 ht
    obtain ⟨g1, g2⟩ := List.mem_filter.1 hb
    exact hU b g1 (eq_of_beq g2))
  rwa [List.length_map] at this
end Go.Proofs.YtnjlajjjcmhfgaaGreatDoor

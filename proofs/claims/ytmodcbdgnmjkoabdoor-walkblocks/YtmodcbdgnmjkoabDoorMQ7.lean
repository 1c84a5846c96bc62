import Derived.Test.YtmodcbdgnmjkoabDoorEc
import Derived.Lib.Small
import Derived.Test.YtmodcbdgnmjkoabDoorWh
import Derived.Deep.QuietTactic
import Derived.BigQuiet
import Derived.Deep.RegionHeld3
namespace Go.Proofs.YtmodcbdgnmjkoabDoor
open Go.RowKit
set_option linter.unusedVariables false
set_option linter.unusedSimpArgs false
/-- Keys, one behind the other. -/
def lexC : List Int → List Int → Int
  | a :: l, b :: m => if Lib.compareInt a b = 0 then lexC l m else Lib.compareInt a b
  | _, _ => 0
theorem lexC_cons (a b : Int) (l m : List Int) : lexC (a :: l) (b :: m) = if a < b then -1 else if b < a then 1 else lexC l m := by
  show (if Lib.compareInt a b = 0 then lexC l m else Lib.compareInt a b) = _
  unfold Lib.compareInt
  by_cases h1 : a < b
  · simp [h1]
  · by_cases h2 : b < a <;> simp [h1, h2]
theorem lexC_self (l : List Int) : lexC l l = 0 := by
  induction l with
  | nil => rfl
  | cons a l ih => rw [lexC_cons]; simp [ih]
theorem lexC_lt_iff (a b : Int) (l m : List Int) : lexC (a :: l) (b :: m) < 0 ↔ a < b ∨ (a = b ∧ lexC l m < 0) := by
  rw [lexC_cons]
  by_cases h1 : a < b
  · simp [h1]
  · by_cases h2 : b < a
    · have : a ≠ b := by omega
      simp [h1, h2, this]
    · have : a = b := by omega
      simp [this]
theorem lexC_trans : ∀ l m n : List Int, lexC l m < 0 → lexC m n < 0 → lexC l n < 0
  | [], _, _, h, _ => by simp [lexC] at h
  | _ :: _, [], _, h, _ => by simp [lexC] at h
  | _ :: _, _ :: _, [], _, h => by simp [lexC] at h
  | a :: l, b :: m, c :: n, h1, h2 => by
    rw [lexC_lt_iff] at *
    have := lexC_trans l m n
    rcases h1 with h1 | ⟨h1, h1'⟩ <;> rcases h2 with h2 | ⟨h2, h2'⟩
    · exact .inl (by omega)
    · exact .inl (by omega)
    · exact .inl (by omega)
    · exact .inr ⟨by omega, this h1' h2'⟩
theorem lexC_eq : ∀ l m : List Int, l.length = m.length → ¬ lexC l m < 0 → ¬ lexC m l < 0 → l = m
  | [], [], _, _, _ => rfl
  | [], _ :: _, h, _, _ => by simp at h
  | _ :: _, [], h, _, _ => by simp at h
  | a :: l, b :: m, h, h1, h2 => by
    rw [lexC_lt_iff] at *
    have h' : l.length = m.length := by simpa using h
    have e : a = b := by
      by_cases g1 : a < b
      · exact absurd (.inl g1) h1
      · by_cases g2 : b < a
        · exact absurd (.inl g2) h2
        · omega
    subst e
    rw [lexC_eq l m h' (fun g => h1 (.inr ⟨rfl, g⟩)) (fun g => h2 (.inr ⟨rfl, g⟩))]
theorem lexC_tri (l m : List Int) (h : l.length = m.length) : lexC l m < 0 ∨ l = m ∨ lexC m l < 0 := by
  by_cases h1 : lexC l m < 0
  · exact .inl h1
  · by_cases h2 : lexC m l < 0
    · exact .inr (.inr h2)
    · exact .inr (.inl (lexC_eq l m h h1 h2))
/-- Of each run of equals one. -/
def nd : List Tra → List Tra
  | [] => []
  | [x] => [x]
  | x :: y :: l => if x.same y then nd (y :: l) else x :: nd (y :: l)
theorem mem_nd {a : Tra} : ∀ l : List Tra, a ∈ nd l ↔ a ∈ l
  | [] => by simp [nd]
  | [x] => by simp [nd]
  | x :: y :: l => by
    have ih := mem_nd (a := a) (y :: l)
    unfold nd
    split
    · rename_i h
      have h := (Tra.same_iff x y).1 h
      subst h
      rw [ih]; simp
    · rw [List.mem_cons, ih, ← List.mem_cons]
theorem nd_lt {lt : Tra → Tra → Bool} (ht : ∀ x y z, lt x y = true → lt y z = true → lt x z = true) (hq : ∀ x y, lt x y = false → lt y x = false → x = y) :
    ∀ l : List Tra, l.Pairwise (fun a b => lt b a = false) → (nd l).Pairwise (fun a b => lt a b = true)
  | [], _ => by simp [nd]
  | [x], _ => by simp [nd]
  | x :: y :: l, h => by
    have h1 := List.pairwise_cons.1 h
    have ih := nd_lt ht hq (y :: l) h1.2
    unfold nd
    split
    · exact ih
    · rename_i hne
      refine List.pairwise_cons.2 ⟨?_, ih⟩
      intro z hz
      have hz := (mem_nd (y :: l)).1 hz
      have hxy : lt x y = true := by
        cases hc : lt x y with
        | true => rfl
        | false => exact absurd ((Tra.same_iff x y).2 (hq x y hc (h1.1 y (.head _)))) hne
      rcases List.mem_cons.1 hz with rfl | hz
      · exact hxy
      · have hyz := (List.pairwise_cons.1 h1.2).1 z hz
        cases hc : lt y z with
        | true => exact ht _ _ _ hxy hc
        | false => rw [← hq y z hc hyz]; exact hxy
section
variable {α : Type}
/-- Two strictly rising lists with the same members are one. -/
theorem rising_unique {lt : α → α → Bool} (hi : ∀ x, lt x x = false) (ht : ∀ x y z, lt x y = true → lt y z = true → lt x z = true) :
    ∀ l m : List α, l.Pairwise (fun a b => lt a b = true) → m.Pairwise (fun a b => lt a b = true) → (∀ a, a ∈ l ↔ a ∈ m) → l = m
  | [], [], _, _, _ => rfl
  | [], y :: m, _, _, h => by have := (h y).2 (.head _); cases this
  | x :: l, [], _, _, h => by have := (h x).1 (.head _); cases this
  | x :: l, y :: m, h1, h2, h => by
    have g1 := List.pairwise_cons.1 h1
    have g2 := List.pairwise_cons.1 h2
    have e : x = y := by
      rcases List.mem_cons.1 ((h x).1 (.head _)) with e | hx
      · exact e
      · rcases List.mem_cons.1 ((h y).2 (.head _)) with e | hy
        · exact e.symm
        · have := ht _ _ _ (g1.1 y hy) (g2.1 x hx)
          rw [hi] at this; cases this
    subst e
    rw [rising_unique hi ht l m g1.2 g2.2 ?_]
    intro a
    constructor
    · intro ha
      rcases List.mem_cons.1 ((h a).1 (.tail _ ha)) with e | g
      · subst e; have := g1.1 a ha; rw [hi] at this; cases this
      · exact g
    · intro ha
      rcases List.mem_cons.1 ((h a).2 (.tail _ ha)) with e | g
      · subst e; have := g2.1 a ha; rw [hi] at this; cases this
      · exact g
end

/-- The keys of a translation. -/
def bI (b : Bool) : Int := if b then 1 else 0
def kyT (t : Tra) : List Int := [t.va, t.size, t.pa, t.dom, t.ap, t.bits, bI t.ng, bI t.xn]
def cmT (a b : Tra) : Int := lexC (kyT a) (kyT b)
def ltT (a b : Tra) : Bool := decide (cmT a b < 0)
theorem kyT_inj {a b : Tra} (h : kyT a = kyT b) : a = b := by
  obtain ⟨a1, a2, a3, a4, a5, a6, a7, a8⟩ := a
  obtain ⟨b1, b2, b3, b4, b5, b6, b7, b8⟩ := b
  simp [kyT] at h
  obtain ⟨h1, h2, h3, h4, h5, h6, h7, h8⟩ := h
  have e7 : a7 = b7 := by revert h7; cases a7 <;> cases b7 <;> simp [bI]
  have e8 : a8 = b8 := by revert h8; cases a8 <;> cases b8 <;> simp [bI]
  subst h1; subst h2; subst h3; subst h4; subst h5; subst h6; subst e7; subst e8
  rfl
theorem ltT_irrefl (a : Tra) : ltT a a = false := by simp [ltT, cmT, lexC_self]
theorem ltT_trans (a b d : Tra) (h1 : ltT a b = true) (h2 : ltT b d = true) : ltT a d = true := by
  simp only [ltT, decide_eq_true_eq] at *
  exact lexC_trans _ _ _ h1 h2
theorem ltT_tot (a b : Tra) (h1 : ltT a b = false) (h2 : ltT b a = false) : a = b := by
  simp only [ltT, decide_eq_false_iff_not] at *
  exact kyT_inj (lexC_eq _ _ rfl h1 h2)
theorem ltT_ntrans (a b d : Tra) (h1 : ltT a b = false) (h2 : ltT b d = false) : ltT a d = false := by
  cases hc : ltT a d with
  | false => rfl
  | true =>
    cases hd : ltT b a with
    | false => rw [ltT_tot a b h1 hd, h2] at hc; cases hc
    | true => rw [ltT_trans _ _ _ hd hc] at h2; cases h2
theorem ltT_va {a b : Tra} (h : a.va < b.va) : ltT a b = true := by
  simp only [ltT, decide_eq_true_eq, cmT, kyT, lexC_lt_iff]
  exact .inl h
/-- Of two that stand in order: what the law asks. -/
theorem ltT_fine {a b : Tra} (h : ltT a b = true) : ¬ b.va < a.va ∧ ¬ (b.va = a.va ∧ b.size < a.size) ∧ b ≠ a := by
  refine ⟨?_, ?_, ?_⟩
  · intro g
    simp only [ltT, decide_eq_true_eq, cmT, kyT, lexC_lt_iff] at h
    omega
  · rintro ⟨g1, g2⟩
    simp only [ltT, decide_eq_true_eq, cmT, kyT, lexC_lt_iff] at h
    omega
  · rintro rfl
    rw [ltT_irrefl] at h; cases h
/-- What the descriptors say, MiB by MiB. -/
def gaT (M : Mo) (x : Ent) (va : Int) (n : Nat) : List Tra := (List.range n).flatMap fun (i : Nat) => if (w2 M x (va + i * 4096)).2.k = 0 then [(w2 M x (va + i * 4096)).1] else []
def gaL (M : Mo) (c : Ctx) (va : Int) : List Tra :=
  if (w1 M c va).2.k = 0 then (if (w1 M c va).1.kind = 1 then gaT M (w1 M c va).1 va 256 else [trF (w1 M c va).1 0 va]) else []
def wiT (M : Mo) (c : Ctx) (va : Int) (n : Nat) : List Tra := (List.range n).flatMap fun (i : Nat) => gaL M c (va + i * 1048576)
def soT (l : List Tra) : List Tra := l.mergeSort fun x y => !ltT y x
def wiL (M : Mo) (c : Ctx) (va : Int) : List Tra := nd (soT (wiT M c va 16))
def blT (M : Mo) (c : Ctx) (n : Nat) : List Tra := (List.range n).flatMap fun (s : Nat) => wiL M c ((s : Int) * 16777216)
def blL (M : Mo) (c : Ctx) : List Tra := if c.on then blT M c 256 else []
theorem gaT_succ (M : Mo) (x : Ent) (va : Int) (n : Nat) : gaT M x va (n + 1) = gaT M x va n ++ (if (w2 M x (va + n * 4096)).2.k = 0 then [(w2 M x (va + n * 4096)).1] else []) := by
  unfold gaT
  rw [List.range_succ, List.flatMap_append]
  simp
theorem wiT_succ (M : Mo) (c : Ctx) (va : Int) (n : Nat) : wiT M c va (n + 1) = wiT M c va n ++ gaL M c (va + n * 1048576) := by
  unfold wiT
  rw [List.range_succ, List.flatMap_append]
  simp
theorem blT_succ (M : Mo) (c : Ctx) (n : Nat) : blT M c (n + 1) = blT M c n ++ wiL M c ((n : Int) * 16777216) := by
  unfold blT
  rw [List.range_succ, List.flatMap_append]
  simp
theorem gaT_len (M : Mo) (x : Ent) (va : Int) (n : Nat) : (gaT M x va n).length ≤ n := by
  induction n with
  | zero => simp [gaT]
  | succ n ih =>
    rw [gaT_succ, List.length_append]
    split <;> simp <;> omega
theorem gaL_len (M : Mo) (c : Ctx) (va : Int) : (gaL M c va).length ≤ 256 := by
  unfold gaL
  split
  · split
    · exact gaT_len _ _ _ _
    · simp
  · simp
theorem wiT_len (M : Mo) (c : Ctx) (va : Int) (n : Nat) : (wiT M c va n).length ≤ 256 * n := by
  induction n with
  | zero => simp [wiT]
  | succ n ih =>
    rw [wiT_succ, List.length_append]
    have := gaL_len M c (va + n * 1048576)
    omega
theorem soT_perm (l : List Tra) : (soT l).Perm l := List.mergeSort_perm _ _
theorem soT_sorted (l : List Tra) : (soT l).Pairwise fun a b => ltT b a = false := by
  have h := List.pairwise_mergeSort (le := fun x y => !ltT y x) (l := l) (fun a b d h1 h2 => by
      simp only [Bool.not_eq_true'] at *
      exact ltT_ntrans _ _ _ h2 h1) (fun a b => by
      cases h1 : ltT b a with
      | false => rfl
      | true =>
        cases h2 : ltT a b with
        | false => rfl
        | true => have := ltT_trans _ _ _ h1 h2; rw [ltT_irrefl] at this; cases this)
  exact h.imp fun h => by simpa using h
theorem wiL_rising (M : Mo) (c : Ctx) (va : Int) : (wiL M c va).Pairwise fun a b => ltT a b = true := nd_lt ltT_trans ltT_tot _ (soT_sorted _)
theorem mem_wiL {M : Mo} {c : Ctx} {va : Int} {x : Tra} : x ∈ wiL M c va ↔ x ∈ wiT M c va 16 := by
  unfold wiL
  rw [mem_nd, (soT_perm _).mem_iff]
theorem nd_len : ∀ l : List Tra, (nd l).length ≤ l.length
  | [] => by simp [nd]
  | [x] => by simp [nd]
  | x :: y :: l => by
    have ih := nd_len (y :: l)
    unfold nd
    split
    · simp at *; omega
    · simp at *; omega
theorem wiL_len (M : Mo) (c : Ctx) (va : Int) : (wiL M c va).length ≤ 4096 := by
  have h := nd_len (soT (wiT M c va 16))
  rw [(soT_perm _).length_eq] at h
  have := wiT_len M c va 16
  unfold wiL
  omega
/-- All of a MiB have that translation. -/
theorem tr_mib {e : Ent} {d va vb : Int} (hk : e.kind = 2 ∨ e.kind = 3) (h : va / 1048576 = vb / 1048576) : trF e d va = trF e d vb := by
  have hb : va / byN (szK e.kind) * byN (szK e.kind) = vb / byN (szK e.kind) * byN (szK e.kind) := by
    rcases hk with hk | hk
    · rw [hk]; show va / 1048576 * 1048576 = vb / 1048576 * 1048576; omega
    · rw [hk]; show va / 16777216 * 16777216 = vb / 16777216 * 16777216; omega
  unfold trF
  rw [hb]
theorem w1_not1 {M : Mo} {c : Ctx} {va : Int} (h : (w1 M c va).2.k = 0) (h1 : ¬ (w1 M c va).1.kind = 1) : (w1 M c va).1.kind = 2 ∨ (w1 M c va).1.kind = 3 := by
  obtain ⟨_, _, hw, hz⟩ := w1_kind h
  rw [hw] at h1 ⊢
  have := D1_kind (M.wd (fA c va))
  dsimp only at h1 ⊢
  omega
theorem w2_z {M : Mo} {x : Ent} {va : Int} (h : (w2 M x va).2.k = 0) : w2 M x va = ((w2 M x va).1, fZ) := by
  unfold w2 at h ⊢
  split at h
  · rename_i h1
    rw [if_pos h1]
    split at h
    · cases h
    · rename_i h2
      rw [if_neg h2]
  · cases h
theorem mem_gaL {M : Mo} {c : Ctx} {va : Int} (hon : c.on = true) (hv : 0 ≤ va) (hm : va % 1048576 = 0) (x : Tra) :
    x ∈ gaL M c va ↔ ∃ vb, vb / 1048576 = va / 1048576 ∧ wk M c vb = (x, fZ) := by
  constructor
  · intro h
    unfold gaL at h
    split at h
    · rename_i h1
      split at h
      · rename_i h2
        unfold gaT at h
        obtain ⟨i, hi, hx⟩ := List.mem_flatMap.1 h
        have hi := List.mem_range.1 hi
        split at hx
        · rename_i h3
          have hx := List.mem_singleton.1 hx
          have e : va / 1048576 = (va + i * 4096) / 1048576 := by omega
          refine ⟨va + i * 4096, e.symm, ?_⟩
          obtain ⟨e1, _⟩ := w1_sec (M := M) (c := c) e
          unfold wk
          rw [if_pos hon, ← e1, if_pos h1, if_pos h2, w2_z h3, hx]
        · cases hx
      · rename_i h2
        have hx := List.mem_singleton.1 h
        refine ⟨va, rfl, ?_⟩
        unfold wk
        rw [if_pos hon, if_pos h1, if_neg h2, hx]
    · cases h
  · rintro ⟨vb, hb, hw⟩
    obtain ⟨e1, _⟩ := w1_sec (M := M) (c := c) hb
    unfold wk at hw
    rw [if_pos hon, e1] at hw
    unfold gaL
    split at hw
    · rename_i h1
      rw [if_pos h1]
      split at hw
      · rename_i h2
        rw [if_pos h2]
        unfold gaT
        refine List.mem_flatMap.2 ⟨(vb / 4096 % 256).toNat, List.mem_range.2 (by omega), ?_⟩
        have hp : w2 M (w1 M c va).1 (va + ((vb / 4096 % 256).toNat : Int) * 4096) = w2 M (w1 M c va).1 vb := by
          have h : (va + ((vb / 4096 % 256).toNat : Int) * 4096) / 4096 = vb / 4096 := by omega
          unfold w2 sA
          rw [h, tr_page h]
        rw [hp, hw]
        rw [if_pos (show (fZ : Fa).k = 0 from rfl)]
        exact .head _
      · rename_i h2
        rw [if_neg h2]
        rw [tr_mib (w1_not1 h1 h2) hb.symm, (Prod.mk.inj hw).1]
        exact .head _
    · rename_i h1
      exact absurd (by rw [(Prod.mk.inj hw).2]; rfl) h1
theorem mem_wiT {M : Mo} {c : Ctx} {va : Int} (hon : c.on = true) (hv : 0 ≤ va) (hm : va % 16777216 = 0) (x : Tra) :
    x ∈ wiT M c va 16 ↔ ∃ vb, vb / 16777216 = va / 16777216 ∧ wk M c vb = (x, fZ) := by
  unfold wiT
  rw [List.mem_flatMap]
  constructor
  · rintro ⟨i, hi, hx⟩
    have hi := List.mem_range.1 hi
    obtain ⟨vb, hb, hw⟩ := (mem_gaL hon (by omega) (by omega) x).1 hx
    exact ⟨vb, by omega, hw⟩
  · rintro ⟨vb, hb, hw⟩
    refine ⟨(vb / 1048576 % 16).toNat, List.mem_range.2 (by omega), ?_⟩
    exact (mem_gaL hon (by omega) (by omega) x).2 ⟨vb, by omega, hw⟩
theorem mem_blL {M : Mo} {c : Ctx} (hon : c.on = true) (x : Tra) : x ∈ blL M c ↔ ∃ vb, (0 ≤ vb ∧ vb < 4294967296) ∧ wk M c vb = (x, fZ) := by
  unfold blL
  rw [if_pos hon]
  unfold blT
  rw [List.mem_flatMap]
  constructor
  · rintro ⟨s, hs, hx⟩
    have hs := List.mem_range.1 hs
    obtain ⟨vb, hb, hw⟩ := (mem_wiT hon (by omega) (by omega) x).1 (mem_wiL.1 hx)
    exact ⟨vb, by omega, hw⟩
  · rintro ⟨vb, hb, hw⟩
    refine ⟨(vb / 16777216).toNat, List.mem_range.2 (by omega), mem_wiL.2 ((mem_wiT hon (by omega) (by omega) x).2 ⟨vb, by omega, hw⟩)⟩
/-- A block's address lies in the 16 MiB of the address that found it. -/
theorem Fnd.sup {U : Tra} {va : Int} (h : Fnd U va) : U.va / 16777216 = va / 16777216 := by
  have h1 := h.va
  rcases h.sz with hs | hs | hs | hs <;> rw [hs] at h1
  · have : U.va = va / 4096 * 4096 := h1
    omega
  · have : U.va = va / 65536 * 65536 := h1
    omega
  · have : U.va = va / 1048576 * 1048576 := h1
    omega
  · have : U.va = va / 16777216 * 16777216 := h1
    omega
theorem blL_rising {M : Mo} {c : Ctx} (hM : M.Ok) (hc : c.Ok) : (blL M c).Pairwise fun a b => ltT a b = true := by
  unfold blL
  split
  · rename_i hon
    unfold blT
    rw [List.pairwise_flatMap]
    refine ⟨fun s _ => wiL_rising _ _ _, ?_⟩
    have hr : (List.range 256).Pairwise (fun a b => a < b ∧ b < 256) := by
      have h := List.pairwise_lt_range (n := 256)
      refine List.Pairwise.imp_of_mem (fun ha hb h => ⟨h, List.mem_range.1 hb⟩) h
    refine hr.imp ?_
    intro s1 s2 ⟨hs, hs2⟩ x hx y hy
    obtain ⟨v1, e1, f1⟩ := (mem_wiT hon (by omega) (by omega) x).1 (mem_wiL.1 hx)
    obtain ⟨v2, e2, f2⟩ := (mem_wiT hon (by omega) (by omega) y).1 (mem_wiL.1 hy)
    have g1 := (found hM hc (by omega) f1 rfl).2.1.sup
    have g2 := (found hM hc (by omega) f2 rfl).2.1.sup
    exact ltT_va (by omega)
  · exact .nil
end Go.Proofs.YtmodcbdgnmjkoabDoor
namespace Go.Proofs.YtmodcbdgnmjkoabDoor
open Go.RowKit
set_option linter.unusedVariables false
set_option linter.unusedSimpArgs false
theorem nd_two (z y : Tra) (l : List Tra) : nd (z :: y :: l) = if z.same y then nd (y :: l) else z :: nd (y :: l) := by
  conv => lhs; unfold nd
theorem nd_snoc (a b : Tra) : ∀ l : List Tra, nd (l ++ [a, b]) = if a.same b then nd (l ++ [a]) else nd (l ++ [a]) ++ [b]
  | [] => by
    by_cases h : a.same b = true
    · have e := (Tra.same_iff a b).1 h
      subst e; simp [nd, h]
    · simp [nd, h]
  | [x] => by
    have ih := nd_snoc a b ([] : List Tra)
    rw [List.nil_append, List.nil_append] at ih
    show nd (x :: a :: [b]) = if a.same b then nd (x :: a :: []) else nd (x :: a :: []) ++ [b]
    by_cases hx : x.same a = true
    · rw [nd_two x a [b], if_pos hx, ih, nd_two x a [], if_pos hx]
    · rw [nd_two x a [b], if_neg hx, ih, nd_two x a [], if_neg hx]
      split <;> simp
  | x :: y :: l => by
    have ih := nd_snoc a b (y :: l)
    rw [List.cons_append, List.cons_append] at ih
    show nd (x :: y :: (l ++ [a, b])) = if a.same b then nd (x :: y :: (l ++ [a])) else nd (x :: y :: (l ++ [a])) ++ [b]
    by_cases hx : x.same y = true
    · rw [nd_two x y _, if_pos hx, ih, nd_two x y _, if_pos hx]
    · rw [nd_two x y _, if_neg hx, ih, nd_two x y _, if_neg hx]
      split <;> simp
theorem nd_take {l : List Tra} {j : Nat} {a b : Tra} (h1 : l[j]? = some a) (h2 : l[j + 1]? = some b) : nd (l.take (j + 2)) = if a.same b then nd (l.take (j + 1)) else nd (l.take (j + 1)) ++ [b] := by
  have e1 : l.take (j + 1) = l.take j ++ [a] := by rw [List.take_add_one, h1]; rfl
  have e2 : l.take (j + 2) = l.take j ++ [a, b] := by
    rw [show j + 2 = (j + 1) + 1 from rfl, List.take_add_one, h2, e1, List.append_assoc]; rfl
  rw [e1, e2, nd_snoc]
/-- As long as no two neighbours are one, nothing is struck. -/
theorem nd_plain {l : List Tra} {k : Nat} (h : ∀ j a b, j + 1 < k → l[j]? = some a → l[j + 1]? = some b → a ≠ b) (hk : k ≤ l.length) : nd (l.take k) = l.take k := by
  induction k with
  | zero => rfl
  | succ k ih =>
    cases k with
    | zero =>
      cases l with
      | nil => rfl
      | cons a l => rfl
    | succ k =>
      obtain ⟨a, ha⟩ : ∃ a, l[k]? = some a := ⟨_, List.getElem?_eq_getElem (by omega)⟩
      obtain ⟨b, hb⟩ : ∃ b, l[k + 1]? = some b := ⟨_, List.getElem?_eq_getElem (by omega)⟩
      rw [nd_take ha hb, if_neg (fun e => h k a b (by omega) ha hb ((Tra.same_iff a b).1 e)), ih (fun j a b hj => h j a b (by omega)) (by omega)]
      rw [List.take_add_one (i := k + 1), hb]
      rfl
end Go.Proofs.YtmodcbdgnmjkoabDoor
namespace Go.Proofs.YtmodcbdgnmjkoabDoor
open Go.RowKit
open Mm (Turn gr RowAt)
set_option linter.unusedVariables false
set_option linter.unusedSimpArgs false
/-- The cells of a translation. -/
def encT (t : Tra) : List Value := [.int .i64 t.size, .int .u32 t.va, .int .u64 t.pa, .int .i64 t.dom, .int .i64 t.ap, .int .u32 t.bits, .bool t.ng, .bool t.xn]
/-- The cells of a list of translations. -/
def rowT (l : List Tra) : List Value := l.flatMap encT
theorem rowT_cons (x : Tra) (l : List Tra) : rowT (x :: l) = encT x ++ rowT l := rfl
theorem rowT_len (l : List Tra) : (rowT l).length = l.length * 8 := by
  induction l with
  | nil => rfl
  | cons x l ih => rw [rowT_cons, List.length_append, ih, List.length_cons]; show 8 + _ = _; omega
theorem rowT_at {l : List Tra} {i : Nat} {x : Tra} (h : l[i]? = some x) (j : Nat) (hj : j < 8) : (rowT l)[i * 8 + j]? = (encT x)[j]? := by
  induction l generalizing i with
  | nil => simp at h
  | cons y l ih =>
    have hy : (encT y).length = 8 := rfl
    cases i with
    | zero =>
      simp at h; subst h
      rw [rowT_cons, List.getElem?_append_left (by omega), Nat.zero_mul, Nat.zero_add]
    | succ i =>
      simp at h
      rw [rowT_cons, List.getElem?_append_right (by omega), hy, show (i + 1) * 8 + j - 8 = i * 8 + j by omega]
      exact ih h
theorem rowT_take (l : List Tra) (k : Nat) : (rowT l).take (k * 8) = rowT (l.take k) := by
  induction l generalizing k with
  | nil => simp [rowT]
  | cons y l ih =>
    have hy : (encT y).length = 8 := rfl
    cases k with
    | zero => simp [rowT]
    | succ k =>
      rw [rowT_cons, List.take_succ_cons, rowT_cons, List.take_append, hy, show (k + 1) * 8 - 8 = k * 8 by omega, ih, List.take_of_length_le (by omega)]
theorem rowT_set (l : List Tra) (k : Nat) (b : Tra) (rest : List Value) (hk : k < l.length) :
    ((((((((rowT l ++ rest).set (k * 8) (.int .i64 b.size)).set (k * 8 + 1) (.int .u32 b.va)).set (k * 8 + 2) (.int .u64 b.pa)).set (k * 8 + 3) (.int .i64 b.dom)).set (k * 8 + 4) (.int .i64 b.ap)).set (k * 8 + 5) (.int .u32 b.bits)).set (k * 8 + 6) (.bool b.ng)).set (k * 8 + 7) (.bool b.xn) = rowT (l.set k b) ++ rest := by
  induction l generalizing k with
  | nil => simp at hk
  | cons y l ih =>
    have hy : (encT y).length = 8 := rfl
    cases k with
    | zero => rfl
    | succ k =>
      have hk' : k < l.length := by simpa using hk
      have hs : ∀ (X : List Value) (j : Nat) (v : Value), (encT y ++ X).set ((k + 1) * 8 + j) v = encT y ++ X.set (k * 8 + j) v := fun X j v => by
        rw [List.set_append_right _ _ (by omega), hy, show (k + 1) * 8 + j - 8 = k * 8 + j by omega]
      have hs0 : ∀ (X : List Value) (v : Value), (encT y ++ X).set ((k + 1) * 8) v = encT y ++ X.set (k * 8) v := fun X v => hs X 0 v
      rw [rowT_cons, List.append_assoc, hs0, hs, hs, hs, hs, hs, hs, hs, ih k hk', List.set_cons_succ, rowT_cons, List.append_assoc]
/-- A store into a row. -/
theorem row_put {w : World} {g : Nat} {t : TypeId} {cur : List Value} (h : RowAt w g t cur) (i : Nat) (v : Value) : RowAt (w.setCell ⟨g, i, none⟩ v) g t (cur.set i v) := by
  unfold RowAt at h ⊢
  simp only [World.setCell, Array.getElem?_modify, h, if_true]
  simp
theorem row_put8 {w : World} {g : Nat} {t : TypeId} {l : List Tra} {rest : List Value} (h : RowAt w g t (rowT l ++ rest)) (k : Nat) (b : Tra) (hk : k < l.length) :
    RowAt ((((((((w.setCell ⟨g, k * 8, none⟩ (.int .i64 b.size)).setCell ⟨g, k * 8 + 1, none⟩ (.int .u32 b.va)).setCell ⟨g, k * 8 + 2, none⟩ (.int .u64 b.pa)).setCell ⟨g, k * 8 + 3, none⟩ (.int .i64 b.dom)).setCell ⟨g, k * 8 + 4, none⟩ (.int .i64 b.ap)).setCell ⟨g, k * 8 + 5, none⟩ (.int .u32 b.bits)).setCell ⟨g, k * 8 + 6, none⟩ (.bool b.ng)).setCell ⟨g, k * 8 + 7, none⟩ (.bool b.xn)) g t (rowT (l.set k b) ++ rest) := by
  rw [← rowT_set l k b rest hk]
  exact row_put (row_put (row_put (row_put (row_put (row_put (row_put (row_put h _ _) _ _) _ _) _ _) _ _) _ _) _ _) _ _
/-- The cells of the translation at a place. -/
theorem rowT_cells {w : World} {g : Nat} {t : TypeId} {l : List Tra} {rest : List Value} (h : RowAt w g t (rowT l ++ rest)) {k : Nat} {x : Tra} (hx : l[k]? = some x) :
    w.cell? ⟨g, k * 8, none⟩ = some (.int .i64 x.size) ∧ w.cell? ⟨g, k * 8 + 1, none⟩ = some (.int .u32 x.va) ∧ w.cell? ⟨g, k * 8 + 2, none⟩ = some (.int .u64 x.pa) ∧ w.cell? ⟨g, k * 8 + 3, none⟩ = some (.int .i64 x.dom) ∧ w.cell? ⟨g, k * 8 + 4, none⟩ = some (.int .i64 x.ap) ∧ w.cell? ⟨g, k * 8 + 5, none⟩ = some (.int .u32 x.bits) ∧ w.cell? ⟨g, k * 8 + 6, none⟩ = some (.bool x.ng) ∧ w.cell? ⟨g, k * 8 + 7, none⟩ = some (.bool x.xn) := by
  have hk := (List.getElem?_eq_some_iff.1 hx).1
  have hl := rowT_len l
  have e : ∀ j, j < 8 → w.cell? ⟨g, k * 8 + j, none⟩ = (encT x)[j]? := fun j hj => by
    rw [h.cell, List.getElem?_append_left (by omega)]
    exact rowT_at hx j hj
  exact ⟨e 0 (by omega), e 1 (by omega), e 2 (by omega), e 3 (by omega), e 4 (by omega), e 5 (by omega), e 6 (by omega), e 7 (by omega)⟩
theorem infoT : (Tryd.prog.info? 49).map (fun i => (i.zero, i.size, i.bytes)) = some (some (.agg #[.int .i64 tZ.size, .int .u32 tZ.va, .int .u64 tZ.pa, .int .i64 tZ.dom, .int .i64 tZ.ap, .int .u32 tZ.bits, .bool tZ.ng, .bool tZ.xn]), 8, 48) := by kernel_rfl
end Go.Proofs.YtmodcbdgnmjkoabDoor
namespace Go.Proofs.YtmodcbdgnmjkoabDoor
open Go.RowKit
open Mm (Turn gr RowAt)
set_option linter.unusedVariables false
set_option linter.unusedSimpArgs false
/-- append of one translation to a list of one's own. -/
theorem appT (wr : World) (lo : Nat) (v : Value) (l : List Tra) (b : Tra) (h : wr.ownsRow lo 49 8 v l.length (rowT l)) (hlo : lo ≤ wr.heap.size) (hk : l.length ≤ 2000000) :
    ∃ v' w', (∀ ty, (Builtin.append_ #[41, 41] ty #[v, .slice (some ⟨wr.heap.size, 0, none⟩) 1 1]).run Tryd.prog (wr.alloc (.cells #[.int .i64 b.size, .int .u32 b.va, .int .u64 b.pa, .int .i64 b.dom, .int .i64 b.ap, .int .u32 b.bits, .bool b.ng, .bool b.xn] 49)) = .ok v' w') ∧ w'.ownsRow lo 49 8 v' (l.length + 1) (rowT (l ++ [b])) ∧ Turn (fun x => v.ownBlock = some x) wr w' ∧ (∀ g, v'.ownBlock = some g → v.ownBlock = some g ∨ wr.heap.size ≤ g) := by
  obtain ⟨i0, hi, hz0, hz1, hz2⟩ := info_parts infoT
  have hB := Mm.row_new wr [.int .i64 b.size, .int .u32 b.va, .int .u64 b.pa, .int .i64 b.dom, .int .i64 b.ap, .int .u32 b.bits, .bool b.ng, .bool b.xn] 49
  have ho := Mm.own_turn h (((Turn.refl (fun _ => False) wr).alloc (.cells #[.int .i64 b.size, .int .u32 b.va, .int .u64 b.pa, .int .i64 b.dom, .int .i64 b.ap, .int .u32 b.bits, .bool b.ng, .bool b.xn] 49))) (fun _ _ h => h)
  obtain ⟨v', w', hr, ho', hg, hb⟩ := Mm.append_any (P := Tryd.prog) (wr.alloc (.cells #[.int .i64 b.size, .int .u32 b.va, .int .u64 b.pa, .int .i64 b.dom, .int .i64 b.ap, .int .u32 b.bits, .bool b.ng, .bool b.xn] 49)) 41 49 i0 _ Tryd.underlying41 hi hz0 (by rw [hz1]; rfl) lo l.length 1 v (.slice (some ⟨wr.heap.size, 0, none⟩) 1 1) (rowT l) [.int .i64 b.size, .int .u32 b.va, .int .u64 b.pa, .int .i64 b.dom, .int .i64 b.ap, .int .u32 b.bits, .bool b.ng, .bool b.xn] (by rw [hz1]; exact ho)
    (by rw [hz1]; exact Src.ofSlice _ Tryd.underlying41 ⟨wr.heap.size, 0, none⟩ 1 1 _ rfl (fun j u hj => by rw [Addr.add_lit, Nat.zero_add]; exact (hB.cell j).trans hj) (fun u hu => by simp at hu; rcases hu with rfl | rfl | rfl | rfl | rfl | rfl | rfl | rfl <;> rfl)) (by simp; omega) (by unfold maxLen; omega) (by rw [hz2]; omega)
  rw [hz1] at ho'
  refine ⟨v', w', hr, by simpa [rowT, encT] using ho', ((Turn.refl _ wr).alloc _).trans (S' := fun x => v.ownBlock = some x) (Turn.grown hg (fun x hx => .inl hx)) (fun x hx => .inl hx), fun g hg => ?_⟩
  rcases hb g hg with h1 | h1
  · exact .inl h1
  · simp at h1; exact .inr (by omega)
end Go.Proofs.YtmodcbdgnmjkoabDoor
namespace Go.Proofs.YtmodcbdgnmjkoabDoor
open Go.RowKit
open Mm (Turn gr RowAt)
set_option linter.unusedVariables false
set_option linter.unusedSimpArgs false
theorem turn_of {B : Nat} {w w' : World} (h : Below B w w') : Turn (fun b => B ≤ b) w w' := ⟨h.os, h.tape, h.output, h.size, fun k _ hn => h.block k (by omega)⟩
/-- A list of translations of one's own, over a memory that nothing turns. -/
structure Gs (lo : Nat) (S : Nat → Prop) (iv : Value) (M : Mo) (l : List Tra) (v : Value) (w0 w : World) : Prop where
  mem : MemP w S iv M
  hS : ∀ b, S b → b < lo
  tab : TW w
  hT : ∀ b, tbl b → b < lo
  own : w.ownsRow lo 49 8 v l.length (rowT l)
  bel : Below lo w0 w
  low : lo ≤ w.heap.size
section
variable {lo : Nat} {S : Nat → Prop} {iv : Value} {M : Mo} {l : List Tra} {v : Value} {w0 w w' : World}
theorem Gs.below (h : Gs lo S iv M l v w0 w) (hb : Below w.heap.size w w') : Gs lo S iv M l v w0 w' :=
  ⟨h.mem.below hb, h.hS, h.tab.below hb, h.hT, Mm.own_turn h.own (Turn.below (S := fun _ => False) hb) (fun _ _ h => h), h.bel.trans (hb.mono h.low), Nat.le_trans h.low hb.size⟩
/-- One translation more. -/
theorem Gs.app (h : Gs lo S iv M l v w0 w) (b : Tra) (hk : l.length ≤ 100000) :
    ∃ v' w', (∀ ty, (Builtin.append_ #[41, 41] ty #[v, .slice (some ⟨w.heap.size, 0, none⟩) 1 1]).run Tryd.prog (w.alloc (.cells #[.int .i64 b.size, .int .u32 b.va, .int .u64 b.pa, .int .i64 b.dom, .int .i64 b.ap, .int .u32 b.bits, .bool b.ng, .bool b.xn] 49)) = .ok v' w') ∧ Gs lo S iv M (l ++ [b]) v' w0 w' ∧ Turn (fun x => v.ownBlock = some x) w w' ∧ (∀ g, v'.ownBlock = some g → v.ownBlock = some g ∨ w.heap.size ≤ g) := by
  obtain ⟨v', w', hr, ho, T, hg⟩ := appT w lo v l b h.own h.low (by omega)
  have hB : Below lo w w' := T.to (fun x hx => (World.ownsRow.lt h.own x hx).1) h.low
  refine ⟨v', w', hr, ⟨h.mem.keep (turn_of hB) (fun b hb hx => by have := h.hS b hb; omega), h.hS, h.tab.turn (turn_of hB) (fun b hb hx => by have := h.hT b hb; omega), h.hT, by simpa using ho, h.bel.trans hB, Nat.le_trans h.low hB.size⟩, T, hg⟩
end
set_option maxRecDepth 100000 in
set_option maxHeartbeats 2000000 in
theorem gather_no {lo : Nat} {S : Nat → Prop} {iv : Value} {M : Mo} {l : List Tra} {v : Value} {w0 w : World} (h : Gs lo S iv M l v w0 w) (c : Ctx) (va : Int) (hc : c.Ok) (hv : 0 ≤ va ∧ va < 4294967296) (k1 k2 k3 : Int) (k4 : Bool) (k5 k6 : Int) (k7 k8 : Bool) (q1 q2 q3 : Int) (hw1 : w1 M c va = (⟨k1, k2, k3, k4, k5, k6, k7, k8⟩, ⟨q1, q2, q3⟩)) (hk : ¬ q1 = 0) :
    Calls Tryd.prog 48 #[v, iv, .agg #[.bool c.on, .bool c.tre, .bool c.afe, .int .i64 c.n, .bool c.pd0, .bool c.pd1, .int .u64 c.b0, .int .u64 c.b1, .int .u32 c.dacr, .int .u32 c.prrr, .int .u32 c.nmrr, .int .i64 c.asid], .int .u32 va] w fun e w' => e = .returned v ∧ Gs lo S iv M l v w0 w' := by
  have h1 := h.below (below_new w (.cells #[.bool c.on, .bool c.tre, .bool c.afe, .int .i64 c.n, .bool c.pd0, .bool c.pd1, .int .u64 c.b0, .int .u64 c.b1, .int .u32 c.dacr, .int .u32 c.prrr, .int .u32 c.nmrr, .int .i64 c.asid] 26))
  have HF := hidW (first_pure c va _ h1.mem h1.tab hc hv)
  rw [hw1] at HF
  clear hw1
  have hq : (q1 != 0) = true := by simp [hk]
  have HG := hidW h1
  clear h h1
  go_enter Tryd.func48, Tryd.ntmps48
  go_wp2_with fail
  go_at_call 28
  refine HF.out.mono ?_
  rintro e wa ⟨rfl, hb⟩
  have HG1 := hidW (((HG.out.below hb).below (below_new wa (.cells #[.int .i64 k1, .int .u64 k2, .int .i64 k3, .bool k4, .int .i64 k5, .int .u32 k6, .bool k7, .bool k8] 70))).below (below_new _ (.cells #[.int .i64 q1, .int .i64 q2, .int .i64 q3] 32)))
  clear hb HG HF
  go_wp2
  go_ret
  exact ⟨rfl, HG1.out⟩
set_option maxRecDepth 100000 in
set_option maxHeartbeats 2000000 in
theorem gather_one {lo : Nat} {S : Nat → Prop} {iv : Value} {M : Mo} {l : List Tra} {v : Value} {w0 w : World} (h : Gs lo S iv M l v w0 w) (hl : l.length ≤ 100000) (c : Ctx) (va : Int) (hc : c.Ok) (hv : 0 ≤ va ∧ va < 4294967296) (k1 k2 k3 : Int) (k4 : Bool) (k5 k6 : Int) (k7 k8 : Bool) (hw1 : w1 M c va = (⟨k1, k2, k3, k4, k5, k6, k7, k8⟩, ⟨0, 0, 0⟩)) (hk : ¬ k1 = 1) (hO : Ok ⟨k1, k2, k3, k4, k5, k6, k7, k8⟩) (u : Tra) (hu : trF ⟨k1, k2, k3, k4, k5, k6, k7, k8⟩ 0 va = u) :
    Calls Tryd.prog 48 #[v, iv, .agg #[.bool c.on, .bool c.tre, .bool c.afe, .int .i64 c.n, .bool c.pd0, .bool c.pd1, .int .u64 c.b0, .int .u64 c.b1, .int .u32 c.dacr, .int .u32 c.prrr, .int .u32 c.nmrr, .int .i64 c.asid], .int .u32 va] w fun e w' => ∃ v', e = .returned v' ∧ Gs lo S iv M (l ++ [u]) v' w0 w' := by
  have h1 := h.below (below_new w (.cells #[.bool c.on, .bool c.tre, .bool c.afe, .int .i64 c.n, .bool c.pd0, .bool c.pd1, .int .u64 c.b0, .int .u64 c.b1, .int .u32 c.dacr, .int .u32 c.prrr, .int .u32 c.nmrr, .int .i64 c.asid] 26))
  have HF := hidW (first_pure c va _ h1.mem h1.tab hc hv)
  rw [hw1] at HF
  clear hw1
  have HT := hidW (fun ww ht => trans_any ⟨k1, k2, k3, k4, k5, k6, k7, k8⟩ 0 va ww ht hO hv)
  rw [hu] at HT
  clear hu hO
  have hq : (k1 != 1) = true := by simp [hk]
  have HG := hidW h1
  clear h h1
  go_enter Tryd.func48, Tryd.ntmps48
  go_wp2_with fail
  go_at_call 28
  refine HF.out.mono ?_
  rintro e wa ⟨rfl, hb⟩
  have HG1 := hidW (((HG.out.below hb).below (below_new wa (.cells #[.int .i64 k1, .int .u64 k2, .int .i64 k3, .bool k4, .int .i64 k5, .int .u32 k6, .bool k7, .bool k8] 70))).below (below_new _ (.cells #[.int .i64 0, .int .i64 0, .int .i64 0] 32)))
  clear hb HG HF
  go_wp2_with fail
  generalize ((wa.alloc (.cells #[.int .i64 k1, .int .u64 k2, .int .i64 k3, .bool k4, .int .i64 k5, .int .u32 k6, .bool k7, .bool k8] 70)).alloc (.cells #[.int .i64 0, .int .i64 0, .int .i64 0] 32)) = wx at *
  go_at_call 30
  refine (HT.out _ HG1.out.tab.r).mono ?_
  rintro e wb ⟨rfl, hb⟩
  obtain ⟨v', wc, hr, hG, _, _⟩ := (HG1.out.below hb).app u hl
  have HG2 := hidW hG
  clear hb HG1 HT hG
  go_wp2_with (at_builtin; refine Lib.wpList_append_run _ rfl _ _ 41 41 rfl _ _ rfl rfl _ _ (hr _) ?_; clear hr)
  go_ret
  exact ⟨_, rfl, HG2.out⟩
set_option maxRecDepth 100000 in
set_option maxHeartbeats 4000000 in
theorem gather_tab {lo : Nat} {S : Nat → Prop} {iv : Value} {M : Mo} {l : List Tra} {v : Value} {w0 w : World} (h : Gs lo S iv M l v w0 w) (hl : l.length ≤ 90000) (c : Ctx) (va : Int) (hc : c.Ok) (hv : 0 ≤ va ∧ va < 4294967296) (hm : va % 1048576 = 0) (x : Ent) (hw1 : w1 M c va = (x, ⟨0, 0, 0⟩)) (hk : x.kind = 1) (hr : 0 ≤ x.base ∧ x.base < 4294967296) :
    Calls Tryd.prog 48 #[v, iv, .agg #[.bool c.on, .bool c.tre, .bool c.afe, .int .i64 c.n, .bool c.pd0, .bool c.pd1, .int .u64 c.b0, .int .u64 c.b1, .int .u32 c.dacr, .int .u32 c.prrr, .int .u32 c.nmrr, .int .i64 c.asid], .int .u32 va] w fun e w' => ∃ v', e = .returned v' ∧ Gs lo S iv M (l ++ gaT M x va 256) v' w0 w' := by
  have h1 := h.below (below_new w (.cells #[.bool c.on, .bool c.tre, .bool c.afe, .int .i64 c.n, .bool c.pd0, .bool c.pd1, .int .u64 c.b0, .int .u64 c.b1, .int .u32 c.dacr, .int .u32 c.prrr, .int .u32 c.nmrr, .int .i64 c.asid] 26))
  have HF := hidW (first_pure c va _ h1.mem h1.tab hc hv)
  rw [hw1] at HF
  clear hw1
  have HG := hidW h1
  have HK := hidW hk
  have hkq : (x.kind != 1) = false := by simp [hk]
  clear h h1 hk
  go_enter Tryd.func48, Tryd.ntmps48
  go_wp2_with fail
  go_at_call 28
  refine HF.out.mono ?_
  rintro e wa ⟨rfl, hb⟩
  have hGa := HG.out.below hb
  have HG1 : Hid (Gs lo S iv M l v w0 ((wa.alloc (.cells #[.int .i64 x.kind, .int .u64 x.base, .int .i64 x.dom, .bool x.ns, .int .i64 x.ap, .int .u32 x.bits, .bool x.ng, .bool x.xn] 70)).alloc (.cells #[.int .i64 0, .int .i64 0, .int .i64 0] 32)) ∧ Bl ((wa.alloc (.cells #[.int .i64 x.kind, .int .u64 x.base, .int .i64 x.dom, .bool x.ns, .int .i64 x.ap, .int .u32 x.bits, .bool x.ng, .bool x.xn] 70)).alloc (.cells #[.int .i64 0, .int .i64 0, .int .i64 0] 32)) wa.heap.size 70 [.int .i64 x.kind, .int .u64 x.base, .int .i64 x.dom, .bool x.ns, .int .i64 x.ap, .int .u32 x.bits, .bool x.ng, .bool x.xn] ∧ ∀ g, v.ownBlock = some g → g ≠ wa.heap.size) :=
    hidW ⟨(hGa.below (below_new wa _)).below (below_new _ _), (Bl.new wa _ _).below (below_new _ _), fun g hg => by have := (World.ownsRow.lt hGa.own g hg).2; omega⟩
  clear hb HG HF hGa
  go_wp2_with fail
  generalize ((wa.alloc (.cells #[.int .i64 x.kind, .int .u64 x.base, .int .i64 x.dom, .bool x.ns, .int .i64 x.ap, .int .u32 x.bits, .bool x.ng, .bool x.xn] 70)).alloc (.cells #[.int .i64 0, .int .i64 0, .int .i64 0] 32)) = wx at *
  generalize wa.heap.size = eb at *
  go_loopw [0, 34] (fun f i wr => ∃ k : Nat, k ≤ 256 ∧ i = .int .u32 k ∧ Hid (Gs lo S iv M (l ++ gaT M x va k) f w0 wr ∧ Bl wr eb 70 [.int .i64 x.kind, .int .u64 x.base, .int .i64 x.dom, .bool x.ns, .int .i64 x.ap, .int .u32 x.bits, .bool x.ng, .bool x.xn] ∧ ∀ g, f.ownBlock = some g → g ≠ eb)) (fun _ i _ => 256 - (intOf i).toNat)
  case atStart => exact ⟨0, Nat.zero_le _, rfl, hidW (by simpa [gaT] using HG1.out)⟩
  case round =>
    obtain ⟨k, hk, rfl, HS⟩ := hrel
    by_cases hlt : k < 256
    · obtain ⟨hg, he, hn⟩ := HS.out
      have hgl := gaT_len M x va k
      have hva : va + (k : Int) * 4096 < 4294967296 := by omega
      have HSC := hidW (second_pure x (va + k * 4096) wr hg.mem hg.tab hr (by omega))
      have HGS := hidW (gaT_succ M x va k)
      obtain ⟨U, F, hq⟩ : ∃ U F, w2 M x (va + k * 4096) = (U, F) := ⟨_, _, rfl⟩
      rw [hq] at HSC HGS
      clear hq
      have c9 := he.cell
      have HGG := hidW hg
      have HE := hidW he
      have HNN := hidW hn
      clear hg he hn HS HG1
      have hkz : (k : Int) < 256 := by omega
      have hk0 : (0 : Int) ≤ k := by omega
      have hsh : IntKind.u32.wrap ((k : Int) * 4096) = (k : Int) * 4096 := by rw [IntKind.wrap_u32]; omega
      have hsm : IntKind.u32.wrap (va + (k : Int) * 4096) = va + (k : Int) * 4096 := by rw [IntKind.wrap_u32]; omega
      go_wp2_with fail
      go_at_call 29
      refine HSC.out.mono ?_
      rintro e wb ⟨rfl, hb⟩
      have hG2 := ((HGG.out.below hb).below (below_new wb (.cells #[.int .i64 U.size, .int .u32 U.va, .int .u64 U.pa, .int .i64 U.dom, .int .i64 U.ap, .int .u32 U.bits, .bool U.ng, .bool U.xn] 49))).below (below_new _ (.cells #[.int .i64 F.k, .int .i64 F.l, .int .i64 F.d] 32))
      have hE2 := ((HE.out.below hb).below (below_new wb (.cells #[.int .i64 U.size, .int .u32 U.va, .int .u64 U.pa, .int .i64 U.dom, .int .i64 U.ap, .int .u32 U.bits, .bool U.ng, .bool U.xn] 49))).below (below_new _ (.cells #[.int .i64 F.k, .int .i64 F.l, .int .i64 F.d] 32))
      have hne := HNN.out
      have hls : (l ++ gaT M x va k).length ≤ 100000 := by rw [List.length_append]; omega
      clear hb HGG HE HSC c9
      by_cases hF : F.k = 0
      · have hFq : (F.k == 0) = true := by simp [hF]
        obtain ⟨v', wc, hr2, hG3, T, hg3⟩ := hG2.app U hls
        have HS2 : Hid (Gs lo S iv M (l ++ gaT M x va (k + 1)) v' w0 wc ∧ Bl wc eb 70 [.int .i64 x.kind, .int .u64 x.base, .int .i64 x.dom, .bool x.ns, .int .i64 x.ap, .int .u32 x.bits, .bool x.ng, .bool x.xn] ∧ ∀ g, v'.ownBlock = some g → g ≠ eb) := by
          refine hidW ⟨?_, (T.block eb hE2.lt (fun h => hne eb h rfl)).trans hE2, fun g hg => ?_⟩
          · rw [HGS.out, if_pos hF, ← List.append_assoc]
            exact hG3
          · rcases hg3 g hg with h | h
            · exact hne g h
            · have := hE2.lt; omega
        have hsz : ((wb.alloc (.cells #[.int .i64 U.size, .int .u32 U.va, .int .u64 U.pa, .int .i64 U.dom, .int .i64 U.ap, .int .u32 U.bits, .bool U.ng, .bool U.xn] 49)).alloc (.cells #[.int .i64 F.k, .int .i64 F.l, .int .i64 F.d] 32)).heap.size = wb.heap.size + 1 + 1 := by simp
        rw [hsz] at hr2
        clear hG2 hE2 hne hG3 T hg3 HGS HNN hF hsz
        go_wp2_with (at_builtin; refine Lib.wpList_append_run _ rfl _ _ 41 41 rfl _ _ rfl rfl _ _ (hr2 _) ?_; clear hr2)
        go_roundw
        case rel => exact ⟨k + 1, by omega, by go_num, HS2⟩
        case measure => simp [intOf]; omega
      · have hFq : (F.k == 0) = false := by simp [hF]
        have HS2 : Hid (Gs lo S iv M (l ++ gaT M x va (k + 1)) u0 w0 ((wb.alloc (.cells #[.int .i64 U.size, .int .u32 U.va, .int .u64 U.pa, .int .i64 U.dom, .int .i64 U.ap, .int .u32 U.bits, .bool U.ng, .bool U.xn] 49)).alloc (.cells #[.int .i64 F.k, .int .i64 F.l, .int .i64 F.d] 32)) ∧ Bl ((wb.alloc (.cells #[.int .i64 U.size, .int .u32 U.va, .int .u64 U.pa, .int .i64 U.dom, .int .i64 U.ap, .int .u32 U.bits, .bool U.ng, .bool U.xn] 49)).alloc (.cells #[.int .i64 F.k, .int .i64 F.l, .int .i64 F.d] 32)) eb 70 [.int .i64 x.kind, .int .u64 x.base, .int .i64 x.dom, .bool x.ns, .int .i64 x.ap, .int .u32 x.bits, .bool x.ng, .bool x.xn] ∧ ∀ g, u0.ownBlock = some g → g ≠ eb) := by
          refine hidW ⟨?_, hE2, hne⟩
          rw [HGS.out, if_neg hF, List.append_nil]
          exact hG2
        clear hG2 hE2 hne HGS HNN hF
        go_wp2
        go_roundw
        case rel => exact ⟨k + 1, by omega, by go_num, HS2⟩
        case measure => simp [intOf]; omega
    · obtain rfl : k = 256 := by omega
      go_wp2
      go_ret
      exact ⟨_, rfl, HS.out.1⟩
theorem gather_any {lo : Nat} {S : Nat → Prop} {iv : Value} {M : Mo} {l : List Tra} {v : Value} {w0 w : World} (h : Gs lo S iv M l v w0 w) (hl : l.length ≤ 90000) (c : Ctx) (va : Int) (hc : c.Ok) (hv : 0 ≤ va ∧ va < 4294967296) (hm : va % 1048576 = 0) :
    Calls Tryd.prog 48 #[v, iv, .agg #[.bool c.on, .bool c.tre, .bool c.afe, .int .i64 c.n, .bool c.pd0, .bool c.pd1, .int .u64 c.b0, .int .u64 c.b1, .int .u32 c.dacr, .int .u32 c.prrr, .int .u32 c.nmrr, .int .i64 c.asid], .int .u32 va] w fun e w' => ∃ v', e = .returned v' ∧ Gs lo S iv M (l ++ gaL M c va) v' w0 w' := by
  unfold gaL
  by_cases hf : (w1 M c va).2.k = 0
  · rw [if_pos hf]
    obtain ⟨ho, he, hw, hk⟩ := w1_kind hf
    have hx := h.mem.ok (fA c va)
    by_cases h1 : (w1 M c va).1.kind = 1
    · rw [if_pos h1]
      have hb : 0 ≤ (w1 M c va).1.base ∧ (w1 M c va).1.base < 4294967296 := by
        rw [hw] at h1 ⊢
        dsimp only at h1 ⊢
        have := D1_base _ hx h1
        omega
      exact gather_tab h hl c va hc hv hm (w1 M c va).1 (by rw [hw]; rfl) h1 hb
    · rw [if_neg h1]
      exact gather_one h (by omega) c va hc hv (w1 M c va).1.kind (w1 M c va).1.base (w1 M c va).1.dom (w1 M c va).1.ns (w1 M c va).1.ap (w1 M c va).1.bits (w1 M c va).1.ng (w1 M c va).1.xn (by rw [hw]; rfl) h1 (by rw [hw]; exact (ok_D1 _ hx).1) _ rfl
  · rw [if_neg hf, List.append_nil]
    refine (gather_no h c va hc hv (w1 M c va).1.kind (w1 M c va).1.base (w1 M c va).1.dom (w1 M c va).1.ns (w1 M c va).1.ap (w1 M c va).1.bits (w1 M c va).1.ng (w1 M c va).1.xn (w1 M c va).2.k (w1 M c va).2.l (w1 M c va).2.d rfl hf).mono ?_
    rintro e w' ⟨rfl, hG⟩
    exact ⟨v, rfl, hG⟩
end Go.Proofs.YtmodcbdgnmjkoabDoor
namespace Go.Proofs.YtmodcbdgnmjkoabDoor
open Go.RowKit
open Mm (Turn gr RowAt)
set_option linter.unusedVariables false
set_option linter.unusedSimpArgs false
theorem nd_short {l : List Tra} (h : l.length < 2) : nd l = l := by
  match l, h with
  | [], _ => rfl
  | [x], _ => rfl
/-- Where the outer loop stands. -/
structure Co1 (g : Nat) (l : List Tra) (rest : List Value) (w : World) (j : Nat) (wr : World) : Prop where
  row : RowAt wr g 49 (rowT l ++ rest)
  trn : Turn (fun x => x = g) w wr
  ne : ∀ i a b, i + 1 < j + 1 → l[i]? = some a → l[i + 1]? = some b → a ≠ b
theorem Co1.drewN {g : Nat} {l : List Tra} {rest : List Value} {w wr : World} {j : Nat} (h : Co1 g l rest w j wr) (q : Nat) : Co1 g l rest w j (wr.drewN q) := ⟨h.row, h.trn.drewN q, h.ne⟩
/-- Where the inner loop stands. -/
structure Co2 (g : Nat) (l : List Tra) (rest : List Value) (w : World) (m k : Nat) (wr : World) : Prop where
  ex : ∃ A : List Tra, A.length = l.length ∧ RowAt wr g 49 (rowT A ++ rest) ∧ A.take k = nd (l.take m) ∧ ∀ i, m ≤ i + 1 → A[i]? = l[i]?
  len : (nd (l.take m)).length = k
  trn : Turn (fun x => x = g) w wr
theorem Co2.drewN {g : Nat} {l : List Tra} {rest : List Value} {w wr : World} {m k : Nat} (h : Co2 g l rest w m k wr) (q : Nat) : Co2 g l rest w m k (wr.drewN q) := ⟨h.ex, h.len, h.trn.drewN q⟩
theorem Co1.to2 {g : Nat} {l : List Tra} {rest : List Value} {w wr : World} {j : Nat} {x y : Tra} (h : Co1 g l rest w j wr) (hj : j + 1 < l.length) (hy : l[j]? = some y) (hx : l[j + 1]? = some x) (hxy : x.same y = true) : Co2 g l rest w (j + 2) (j + 1) wr := by
  have e : y.same x = true := (Tra.same_iff _ _).2 ((Tra.same_iff _ _).1 hxy).symm
  have h1 : nd (l.take (j + 2)) = l.take (j + 1) := by rw [nd_take hy hx, if_pos e, nd_plain h.ne (by omega)]
  refine ⟨⟨l, rfl, h.row, h1.symm, fun i _ => rfl⟩, ?_, h.trn⟩
  rw [h1, List.length_take]; omega
theorem Co2.skip {g : Nat} {l : List Tra} {rest : List Value} {w wr : World} {m k : Nat} {x y : Tra} (h : Co2 g l rest w (m + 1) k wr) (hy : l[m]? = some y) (hx : l[m + 1]? = some x) (hxy : x.same y = true) : Co2 g l rest w (m + 2) k wr := by
  have e : y.same x = true := (Tra.same_iff _ _).2 ((Tra.same_iff _ _).1 hxy).symm
  have h1 : nd (l.take (m + 2)) = nd (l.take (m + 1)) := by rw [nd_take hy hx, if_pos e]
  obtain ⟨A, a1, a2, a3, a4⟩ := h.ex
  exact ⟨⟨A, a1, a2, by rw [h1]; exact a3, fun i hi => a4 i (by omega)⟩, by rw [h1]; exact h.len, h.trn⟩
theorem Co2.put {g : Nat} {l : List Tra} {rest : List Value} {w wr : World} {m k : Nat} {x y : Tra} (h : Co2 g l rest w (m + 1) k wr) (hy : l[m]? = some y) (hx : l[m + 1]? = some x) (hxy : ¬ x.same y = true) (hk : k ≤ m) :
    Co2 g l rest w (m + 2) (k + 1) ((((((((wr.setCell ⟨g, k * 8, none⟩ (.int .i64 x.size)).setCell ⟨g, k * 8 + 1, none⟩ (.int .u32 x.va)).setCell ⟨g, k * 8 + 2, none⟩ (.int .u64 x.pa)).setCell ⟨g, k * 8 + 3, none⟩ (.int .i64 x.dom)).setCell ⟨g, k * 8 + 4, none⟩ (.int .i64 x.ap)).setCell ⟨g, k * 8 + 5, none⟩ (.int .u32 x.bits)).setCell ⟨g, k * 8 + 6, none⟩ (.bool x.ng)).setCell ⟨g, k * 8 + 7, none⟩ (.bool x.xn)) := by
  have e : ¬ y.same x = true := fun hh => hxy ((Tra.same_iff _ _).2 ((Tra.same_iff _ _).1 hh).symm)
  have h1 : nd (l.take (m + 2)) = nd (l.take (m + 1)) ++ [x] := by rw [nd_take hy hx, if_neg e]
  obtain ⟨A, a1, a2, a3, a4⟩ := h.ex
  have hm := (List.getElem?_eq_some_iff.1 hx).1
  refine ⟨⟨A.set k x, by simpa using a1, row_put8 a2 k x (by omega), ?_, fun i hi => ?_⟩, by rw [h1, List.length_append, h.len]; rfl, ?_⟩
  · rw [h1, ← a3, List.take_add_one, List.take_set_of_le (Nat.le_refl _), List.getElem?_set_self (by omega)]
    rfl
  · rw [List.getElem?_set_ne (by omega)]
    exact a4 i (by omega)
  · exact (((((((h.trn.setCell (p := ⟨g, k * 8, none⟩) (.inl rfl) _).setCell (p := ⟨g, k * 8 + 1, none⟩) (.inl rfl) _).setCell (p := ⟨g, k * 8 + 2, none⟩) (.inl rfl) _).setCell (p := ⟨g, k * 8 + 3, none⟩) (.inl rfl) _).setCell (p := ⟨g, k * 8 + 4, none⟩) (.inl rfl) _).setCell (p := ⟨g, k * 8 + 5, none⟩) (.inl rfl) _).setCell (p := ⟨g, k * 8 + 6, none⟩) (.inl rfl) _).setCell (p := ⟨g, k * 8 + 7, none⟩) (.inl rfl) _
/-- What it reads. -/
theorem Co2.reads {g : Nat} {l : List Tra} {rest : List Value} {w wr : World} {m k i : Nat} {x : Tra} (h : Co2 g l rest w m k wr) (hi : m ≤ i + 1) (hx : l[i]? = some x) :
    wr.cell? ⟨g, i * 8, none⟩ = some (.int .i64 x.size) ∧ wr.cell? ⟨g, i * 8 + 1, none⟩ = some (.int .u32 x.va) ∧ wr.cell? ⟨g, i * 8 + 2, none⟩ = some (.int .u64 x.pa) ∧ wr.cell? ⟨g, i * 8 + 3, none⟩ = some (.int .i64 x.dom) ∧ wr.cell? ⟨g, i * 8 + 4, none⟩ = some (.int .i64 x.ap) ∧ wr.cell? ⟨g, i * 8 + 5, none⟩ = some (.int .u32 x.bits) ∧ wr.cell? ⟨g, i * 8 + 6, none⟩ = some (.bool x.ng) ∧ wr.cell? ⟨g, i * 8 + 7, none⟩ = some (.bool x.xn) := by
  obtain ⟨A, a1, a2, a3, a4⟩ := h.ex
  exact rowT_cells a2 (by rw [a4 i hi]; exact hx)
theorem Co2.writes {g : Nat} {l : List Tra} {rest : List Value} {w wr : World} {m k : Nat} (h : Co2 g l rest w m k wr) (i : Nat) (hi : i < l.length * 8) : wr.frozen? ⟨g, i, none⟩ = false ∧ ∃ v, wr.cell? ⟨g, i, none⟩ = some v := by
  obtain ⟨A, a1, a2, a3, a4⟩ := h.ex
  refine ⟨a2.frozen i, ?_⟩
  rw [a2.cell]
  exact ⟨_, List.getElem?_eq_getElem (by rw [List.length_append, rowT_len, a1]; omega)⟩
theorem zero_one (n : Nat) : ∀ v ∈ (Builtin.zeroCells (Value.agg #[.int .i64 tZ.size, .int .u32 tZ.va, .int .u64 tZ.pa, .int .i64 tZ.dom, .int .i64 tZ.ap, .int .u32 tZ.bits, .bool tZ.ng, .bool tZ.xn]).cells n).toList, v.oneCell' = true := by
  intro v hv
  rw [Array.mem_toList_iff] at hv
  simp only [Builtin.zeroCells, Array.mem_map] at hv
  obtain ⟨i, hi, rfl⟩ := hv
  have h4 : i % (Value.agg #[.int .i64 tZ.size, .int .u32 tZ.va, .int .u64 tZ.pa, .int .i64 tZ.dom, .int .i64 tZ.ap, .int .u32 tZ.bits, .bool tZ.ng, .bool tZ.xn]).cells.size < 8 := Nat.mod_lt _ (by decide)
  have : ∀ j : Nat, j < 8 → ((Value.agg #[.int .i64 tZ.size, .int .u32 tZ.va, .int .u64 tZ.pa, .int .i64 tZ.dom, .int .i64 tZ.ap, .int .u32 tZ.bits, .bool tZ.ng, .bool tZ.xn]).cells[j]!).oneCell' = true := by decide
  exact this _ h4
theorem compact_short (w : World) (a : Option Addr) (n cap : Nat) (hn : n < 2) :
    Calls Tryd.prog 51 #[.slice a n cap] w fun e w' => e = .returned (.slice a n cap) ∧ w = w' := by
  have hz : (n : Int) < 2 := by omega
  go_enter Tryd.func51, Tryd.ntmps51
  go_wp2
  go_ret
  exact ⟨rfl, rfl⟩
set_option maxRecDepth 100000 in
set_option maxHeartbeats 4000000 in
theorem compact_long (w : World) (g cap n : Nat) (l : List Tra) (rest : List Value) (hR : RowAt w g 49 (rowT l ++ rest)) (hn : l.length = n) (hcap : n ≤ cap) (hcm : cap ≤ maxLen) (hrl : rest.length = (cap - n) * 8) (hb : n ≤ 1000000) (h2 : ¬ n < 2) :
    Calls Tryd.prog 51 #[.slice (some ⟨g, 0, none⟩) n cap] w fun e w' => e = .returned (.slice (some ⟨g, 0, none⟩) (nd l).length cap) ∧ (∃ rest', RowAt w' g 49 (rowT (nd l) ++ rest')) ∧ Turn (fun x => x = g) w w' := by
  have hz : ¬ (n : Int) < 2 := by omega
  have HN := hidW hn
  have HR := hidW hrl
  have HS : Hid (Co1 g l rest w 0 w) := hidW ⟨hR, Turn.refl _ _, fun i a b hi => by omega⟩
  clear hR hn hrl
  go_enter Tryd.func51, Tryd.ntmps51
  go_wp2
  go_loopw [3] (fun i wr => ∃ j : Nat, j + 1 ≤ n ∧ i = .int .i64 ((j : Int) + 1) ∧ Hid (Co1 g l rest w j wr)) (fun i _ => n - (intOf i).toNat)
  case atStart => exact ⟨0, by omega, rfl, HS⟩
  case round =>
    obtain ⟨j, hj, rfl, HS1⟩ := hrel
    clear HS
    by_cases hlt : j + 1 < n
    · obtain ⟨x, hx⟩ : ∃ x, l[j + 1]? = some x := ⟨_, List.getElem?_eq_getElem (by rw [HN.out]; exact hlt)⟩
      obtain ⟨y, hy⟩ : ∃ y, l[j]? = some y := ⟨_, List.getElem?_eq_getElem (by rw [HN.out]; omega)⟩
      obtain ⟨x0, x1, x2, x3, x4, x5, x6, x7⟩ := rowT_cells HS1.out.row hx
      obtain ⟨y0, y1, y2, y3, y4, y5, y6, y7⟩ := rowT_cells HS1.out.row hy
      have HX := hidW hx
      have HY := hidW hy
      have eT := eqT x y
      have z1 : (j : Int) + 1 < n := by omega
      have z2 : (0 : Int) ≤ j := by omega
      clear hx hy
      by_cases hxy : x.same y = true
      · rw [hxy] at eT
        have HS2 := hidW (HS1.out.to2 (by rw [HN.out]; exact hlt) HY.out HX.out hxy)
        clear HS1 hxy
        go_wp2
        go_quiet (fail)
        have HS3 := hidW (HS2.out.drewN nq)
        clear HS2 x0 x1 x2 x3 x4 x5 x6 x7 y0 y1 y2 y3 y4 y5 y6 y7 eT HX HY
        go_wp2
        generalize wr.drewN nq = wz at *
        go_loopw [3, 5] (fun k i wq => ∃ k0 p : Nat, j + 1 + (p + 1) ≤ n ∧ i = .int .i64 ((p : Int) + 1) ∧ k = .int .i64 (k0 : Int) ∧ 1 ≤ k0 ∧ k0 ≤ j + 1 + p ∧ Hid (Co2 g l rest w (j + 1 + p + 1) k0 wq)) (fun _ i _ => n - (intOf i).toNat)
        case atStart => exact ⟨j + 1, 0, by omega, rfl, by go_num, by omega, by omega, HS3⟩
        case round =>
          obtain ⟨k0, p, hp, rfl, rfl, hk1, hk2, HS4⟩ := hrel
          clear HS3
          by_cases hl2 : j + 1 + (p + 1) < n
          · obtain ⟨x', hx'⟩ : ∃ x', l[j + 1 + p + 1]? = some x' := ⟨_, List.getElem?_eq_getElem (by rw [HN.out]; omega)⟩
            obtain ⟨y', hy'⟩ : ∃ y', l[j + 1 + p]? = some y' := ⟨_, List.getElem?_eq_getElem (by rw [HN.out]; omega)⟩
            obtain ⟨x0, x1, x2, x3, x4, x5, x6, x7⟩ := HS4.out.reads (by omega) hx'
            obtain ⟨y0, y1, y2, y3, y4, y5, y6, y7⟩ := HS4.out.reads (by omega) hy'
            rw [show (j + 1 + p + 1) * 8 = (j + 1) * 8 + (p + 1) * 8 by omega] at x0 x1 x2 x3 x4 x5 x6 x7
            rw [show (j + 1 + p) * 8 = (j + 1) * 8 + p * 8 by omega] at y0 y1 y2 y3 y4 y5 y6 y7
            have eT := eqT x' y'
            have z3 : ((p : Int) + 1) < ((n - (j + 1) : Nat) : Int) := by omega
            have z4 : (0 : Int) ≤ p := by omega
            have z5 : (p : Int) < ((n - (j + 1) : Nat) : Int) := by omega
            by_cases hxy : x'.same y' = true
            · rw [hxy] at eT
              have HS5 := hidW (HS4.out.skip (m := j + 1 + p) hy' hx' hxy)
              clear HS4 hx' hy' hxy
              go_wp2
              go_quiet (fail)
              have HS6 := hidW (HS5.out.drewN nq)
              clear HS5
              go_wp2
              go_roundw
              case rel => exact ⟨k0, p + 1, by omega, by go_num, rfl, hk1, by omega, HS6⟩
              case measure => simp [intOf]; omega
            · have hxy' : x'.same y' = false := by simpa using hxy
              rw [hxy'] at eT
              have hfr : ∀ i, wr.frozen? ⟨g, i, none⟩ = false := fun i => by
                obtain ⟨A, _, a2, _⟩ := HS4.out.ex
                exact a2.frozen i
              obtain ⟨v0, hv0⟩ := (HS4.out.writes (k0 * 8) (by rw [HN.out]; omega)).2
              obtain ⟨v1, hv1⟩ := (HS4.out.writes (k0 * 8 + 1) (by rw [HN.out]; omega)).2
              obtain ⟨v2, hv2⟩ := (HS4.out.writes (k0 * 8 + 2) (by rw [HN.out]; omega)).2
              obtain ⟨v3, hv3⟩ := (HS4.out.writes (k0 * 8 + 3) (by rw [HN.out]; omega)).2
              obtain ⟨v4, hv4⟩ := (HS4.out.writes (k0 * 8 + 4) (by rw [HN.out]; omega)).2
              obtain ⟨v5, hv5⟩ := (HS4.out.writes (k0 * 8 + 5) (by rw [HN.out]; omega)).2
              obtain ⟨v6, hv6⟩ := (HS4.out.writes (k0 * 8 + 6) (by rw [HN.out]; omega)).2
              obtain ⟨v7, hv7⟩ := (HS4.out.writes (k0 * 8 + 7) (by rw [HN.out]; omega)).2
              have HS5 := hidW (fun q => (HS4.out.drewN q).put (m := j + 1 + p) hy' hx' hxy hk2)
              have z6 : (k0 : Int) < n := by omega
              have z7 : (0 : Int) ≤ k0 := by omega
              clear HS4 hx' hy' hxy
              go_wp2
              go_quiet (fail)
              have HS6 := hidW (HS5.out nq)
              clear HS5
              go_wp2
              go_roundw
              case rel => exact ⟨k0 + 1, p + 1, by omega, by go_num, by go_num, by omega, by omega, HS6⟩
              case measure => simp [intOf]; omega
          · have hpe : j + 1 + (p + 1) = n := by omega
            have HE : Hid (nd (l.take (j + 1 + p + 1)) = nd l) := hidW (by rw [List.take_of_length_le (by rw [HN.out]; omega)])
            obtain ⟨A, a1, a2, a3, a4⟩ := HS4.out.ex
            have HL := hidW HS4.out.len
            obtain ⟨i0, hi, hz0, hz1, hz2⟩ := info_parts infoT
            have hA : (rowT A ++ rest).length = cap * 8 := by rw [List.length_append, rowT_len, a1, HN.out, HR.out]; omega
            obtain ⟨wc, hr, hrow, hgr⟩ := Mm.clear_row (P := Tryd.prog) wr 41 49 i0 _ Tryd.underlying41 hi hz0 g (k0 * 8) (n - k0) (rowT A ++ rest) 49 a2 (by rw [hA]; show k0 * 8 + (n - k0) * 8 ≤ _; omega) (zero_one _) (by omega)
            have HF : Hid (RowAt wc g 49 (rowT (nd l) ++ ((Builtin.zeroCells (Value.agg #[.int .i64 tZ.size, .int .u32 tZ.va, .int .u64 tZ.pa, .int .i64 tZ.dom, .int .i64 tZ.ap, .int .u32 tZ.bits, .bool tZ.ng, .bool tZ.xn]).cells (n - k0)).toList ++ (rowT A ++ rest).drop (k0 * 8 + (n - k0) * (Value.agg #[.int .i64 tZ.size, .int .u32 tZ.va, .int .u64 tZ.pa, .int .i64 tZ.dom, .int .i64 tZ.ap, .int .u32 tZ.bits, .bool tZ.ng, .bool tZ.xn]).cells.size))) ∧ Turn (fun x => x = g) w wc) := by
              refine hidW ⟨?_, HS4.out.trn.trans (S' := fun x => x = g) (Turn.grown hgr (fun k hk => by cases hk; exact .inl rfl)) (fun x hx => .inl hx)⟩
              rw [List.take_append_of_le_length (by rw [rowT_len, a1, HN.out]; omega), rowT_take, a3, HE.out, List.append_assoc] at hrow
              exact hrow
            have HQ : Hid ((nd l).length = k0) := hidW (by rw [← HE.out]; exact HL.out)
            have z3 : ¬ ((p : Int) + 1) < ((n - (j + 1) : Nat) : Int) := by omega
            have z6 : (k0 : Int) < n := by omega
            have z7 : (0 : Int) ≤ k0 := by omega
            have z8 : k0 < cap := by omega
            have z9 : (k0 : Int) < cap := by omega
            clear HS4 a1 a2 a3 a4 hi hz0 hz1 hz2 hA hrow hgr HL HE
            go_wp2_with (at_builtin; refine Mm.wpl_clear _ rfl _ 41 rfl _ rfl (hr _ _) ?_; clear hr)
            go_ret
            exact ⟨by rw [HQ.out]; rfl, ⟨_, HF.out.1⟩, HF.out.2⟩
      · have hxy' : x.same y = false := by simpa using hxy
        rw [hxy'] at eT
        have HS2 : Hid (Co1 g l rest w (j + 1) wr) := hidW ⟨HS1.out.row, HS1.out.trn, fun i a b hi ha hb => by
          rcases (show i + 1 < j + 1 ∨ i = j by omega) with h | rfl
          · exact HS1.out.ne i a b h ha hb
          · rw [HY.out] at ha; rw [HX.out] at hb
            cases ha; cases hb
            exact fun e => hxy ((Tra.same_iff _ _).2 e.symm)⟩
        clear HS1 hxy
        go_wp2
        go_quiet (fail)
        have HS3 := hidW (HS2.out.drewN nq)
        clear HS2
        go_wp2
        go_roundw
        case rel => exact ⟨j + 1, by omega, by go_num, HS3⟩
        case measure => simp [intOf]; omega
    · obtain rfl : j + 1 = n := by omega
      have HE : Hid (nd l = l) := hidW (by
        have := nd_plain (k := j + 1) HS1.out.ne (by rw [HN.out]; exact Nat.le_refl _)
        rwa [List.take_of_length_le (by rw [HN.out]; exact Nat.le_refl _)] at this)
      go_wp2
      go_ret
      exact ⟨by rw [HE.out, HN.out]; rfl, ⟨rest, by rw [HE.out]; exact HS1.out.row⟩, HS1.out.trn⟩
end Go.Proofs.YtmodcbdgnmjkoabDoor
namespace Go.Proofs.YtmodcbdgnmjkoabDoor
open Go.RowKit
set_option linter.unusedVariables false
set_option linter.unusedSimpArgs false
theorem nanW_any (x : Int) (w : World) : Calls Tryd.prog 100 #[.int .u32 x] w fun e w' => e = .returned (.bool false) ∧ w = w' := by
  go_enter Tryd.func100, Tryd.ntmps100
  go_wp2
  go_ret
  exact ⟨by simp, rfl⟩
theorem nanI_any (x : Int) (w : World) : Calls Tryd.prog 101 #[.int .i64 x] w fun e w' => e = .returned (.bool false) ∧ w = w' := by
  go_enter Tryd.func101, Tryd.ntmps101
  go_wp2
  go_ret
  exact ⟨by simp, rfl⟩
theorem nanU_any (x : Int) (w : World) : Calls Tryd.prog 102 #[.int .u64 x] w fun e w' => e = .returned (.bool false) ∧ w = w' := by
  go_enter Tryd.func102, Tryd.ntmps102
  go_wp2
  go_ret
  exact ⟨by simp, rfl⟩
theorem cmpW_any (x y : Int) (w : World) : Calls Tryd.prog 77 #[.int .u32 x, .int .u32 y] w fun e w' => e = .returned (.int .i64 (Lib.compareInt x y)) ∧ w = w' := by
  unfold Lib.compareInt
  have HN := hidW nanW_any
  rcases (show x < y ∨ (¬ x < y ∧ y < x) ∨ (¬ x < y ∧ ¬ y < x) by omega) with h | ⟨h, h2⟩ | ⟨h, h2⟩
  · rw [if_pos h]
    go_enter Tryd.func77, Tryd.ntmps77
    go_wp2_with (go_at_call 100; refine (HN.out _ _).mono ?_; rintro e w' ⟨rfl, rfl⟩)
    go_ret
    exact ⟨rfl, rfl⟩
  · rw [if_neg h, if_pos h2]
    go_enter Tryd.func77, Tryd.ntmps77
    go_wp2_with (go_at_call 100; refine (HN.out _ _).mono ?_; rintro e w' ⟨rfl, rfl⟩)
    go_ret
    exact ⟨rfl, rfl⟩
  · rw [if_neg h, if_neg h2]
    go_enter Tryd.func77, Tryd.ntmps77
    go_wp2_with (go_at_call 100; refine (HN.out _ _).mono ?_; rintro e w' ⟨rfl, rfl⟩)
    go_ret
    exact ⟨rfl, rfl⟩
theorem cmpI_any (x y : Int) (w : World) : Calls Tryd.prog 78 #[.int .i64 x, .int .i64 y] w fun e w' => e = .returned (.int .i64 (Lib.compareInt x y)) ∧ w = w' := by
  unfold Lib.compareInt
  have HN := hidW nanI_any
  rcases (show x < y ∨ (¬ x < y ∧ y < x) ∨ (¬ x < y ∧ ¬ y < x) by omega) with h | ⟨h, h2⟩ | ⟨h, h2⟩
  · rw [if_pos h]
    go_enter Tryd.func78, Tryd.ntmps78
    go_wp2_with (go_at_call 101; refine (HN.out _ _).mono ?_; rintro e w' ⟨rfl, rfl⟩)
    go_ret
    exact ⟨rfl, rfl⟩
  · rw [if_neg h, if_pos h2]
    go_enter Tryd.func78, Tryd.ntmps78
    go_wp2_with (go_at_call 101; refine (HN.out _ _).mono ?_; rintro e w' ⟨rfl, rfl⟩)
    go_ret
    exact ⟨rfl, rfl⟩
  · rw [if_neg h, if_neg h2]
    go_enter Tryd.func78, Tryd.ntmps78
    go_wp2_with (go_at_call 101; refine (HN.out _ _).mono ?_; rintro e w' ⟨rfl, rfl⟩)
    go_ret
    exact ⟨rfl, rfl⟩
theorem cmpU_any (x y : Int) (w : World) : Calls Tryd.prog 79 #[.int .u64 x, .int .u64 y] w fun e w' => e = .returned (.int .i64 (Lib.compareInt x y)) ∧ w = w' := by
  unfold Lib.compareInt
  have HN := hidW nanU_any
  rcases (show x < y ∨ (¬ x < y ∧ y < x) ∨ (¬ x < y ∧ ¬ y < x) by omega) with h | ⟨h, h2⟩ | ⟨h, h2⟩
  · rw [if_pos h]
    go_enter Tryd.func79, Tryd.ntmps79
    go_wp2_with (go_at_call 102; refine (HN.out _ _).mono ?_; rintro e w' ⟨rfl, rfl⟩)
    go_ret
    exact ⟨rfl, rfl⟩
  · rw [if_neg h, if_pos h2]
    go_enter Tryd.func79, Tryd.ntmps79
    go_wp2_with (go_at_call 102; refine (HN.out _ _).mono ?_; rintro e w' ⟨rfl, rfl⟩)
    go_ret
    exact ⟨rfl, rfl⟩
  · rw [if_neg h, if_neg h2]
    go_enter Tryd.func79, Tryd.ntmps79
    go_wp2_with (go_at_call 102; refine (HN.out _ _).mono ?_; rintro e w' ⟨rfl, rfl⟩)
    go_ret
    exact ⟨rfl, rfl⟩
theorem cmpB_any (x y : Bool) (w : World) : Calls Tryd.prog 80 #[.bool x, .bool y] w fun e w' => e = .returned (.int .i64 (Lib.compareInt (bI x) (bI y))) ∧ w = w' := by
  cases x <;> cases y
  all_goals
    go_enter Tryd.func80, Tryd.ntmps80
    go_wp2
    go_ret
    exact ⟨rfl, rfl⟩
/-- The first that is not 0. -/
def orL : List Int → Int
  | [] => 0
  | a :: l => if a = 0 then orL l else a
theorem orL_lex (a1 a2 a3 a4 a5 a6 a7 a8 b1 b2 b3 b4 b5 b6 b7 b8 : Int) :
    orL [Lib.compareInt a1 b1, Lib.compareInt a2 b2, Lib.compareInt a3 b3, Lib.compareInt a4 b4, Lib.compareInt a5 b5, Lib.compareInt a6 b6, Lib.compareInt a7 b7, Lib.compareInt a8 b8] = lexC [a1, a2, a3, a4, a5, a6, a7, a8] [b1, b2, b3, b4, b5, b6, b7, b8] := by
  simp only [orL, lexC]
theorem orL_drop {l : List Int} {k : Nat} (h : ∀ j, j < k → l[j]? = some 0 ∨ l[j]? = none) : orL l = orL (l.drop k) := by
  induction k generalizing l with
  | zero => rfl
  | succ k ih =>
    cases l with
    | nil => rfl
    | cons a l =>
      have h0 : a = 0 := by
        rcases h 0 (Nat.succ_pos _) with h | h
        · simpa using h
        · simp at h
      show (if a = 0 then orL l else a) = _
      rw [if_pos h0, List.drop_succ_cons]
      refine ih (fun j hj => ?_)
      have := h (j + 1) (by omega)
      simpa using this
set_option maxRecDepth 100000 in
theorem or_any (l : List Int) (g o cap : Nat) (w : World) (hl : l.length ≤ 1000000) (hc : ∀ j x, l[j]? = some x → w.cell? ⟨g, o + j, none⟩ = some (.int .i64 x)) :
    Calls Tryd.prog 76 #[.slice (some ⟨g, o, none⟩) l.length cap] w fun e w' => e = .returned (.int .i64 (orL l)) ∧ w = w' := by
  have HC := hidW hc
  clear hc
  generalize hn : l.length = n at *
  go_enter Tryd.func76, Tryd.ntmps76
  go_wp2
  go_loopw [8] (fun i wr => ∃ k : Nat, k ≤ n ∧ i = .int .i64 k ∧ Hid (w = wr) ∧ Hid (∀ j, j < k → l[j]? = some 0)) (fun i _ => n - (intOf i).toNat)
  case atStart => exact ⟨0, Nat.zero_le _, rfl, by first | exact hidW rfl | exact hidW trivial, hidW (fun j hj => by omega)⟩
  case round =>
    obtain ⟨k, hk, rfl, HWW, HZ⟩ := hrel
    obtain rfl : w = wr := HWW.out
    clear HWW
    have hz := HZ.out
    by_cases hlt : k < n
    · obtain ⟨x, hx⟩ : ∃ x, l[k]? = some x := ⟨_, List.getElem?_eq_getElem (by omega)⟩
      have d0 := HC.out k x hx
      have hkz : (k : Int) < (n : Int) := by omega
      by_cases h0 : x = 0
      · subst h0
        clear hz
        go_wp2
        go_roundw
        case rel =>
          refine ⟨k + 1, by omega, by go_num, by first | exact hidW rfl | exact hidW trivial, hidW (fun j hj => ?_)⟩
          rcases (show j < k ∨ j = k by omega) with h | rfl
          · exact HZ.out j h
          · exact hx
        case measure => simp [intOf]; omega
      · have hxb : (x == 0) = false := by simpa using h0
        have HR : Hid (orL l = x) := hidW (by
          rw [orL_drop (k := k) (fun j hj => .inl (hz j hj)), List.drop_eq_getElem_cons (by omega)]
          have : l[k]'(by omega) = x := by
            have := List.getElem?_eq_getElem (l := l) (i := k) (by omega)
            rw [hx] at this; injection this with this; exact this.symm
          rw [this]
          show (if x = 0 then _ else x) = x
          rw [if_neg h0])
        clear hz h0 HZ
        go_wp2
        go_ret
        exact ⟨by rw [HR.out]; rfl, rfl⟩
    · obtain rfl : k = n := by omega
      have HR : Hid (orL l = 0) := hidW (by
        rw [orL_drop (k := k) (fun j hj => .inl (hz j hj)), List.drop_of_length_le (by omega)]; rfl)
      clear hz HZ
      go_wp2
      go_ret
      exact ⟨by rw [HR.out]; rfl, rfl⟩
end Go.Proofs.YtmodcbdgnmjkoabDoor

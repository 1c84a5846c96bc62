import Derived.Test.YtnjlajjjcmhfgaaGreatDoorQA20
import Derived.Lib.Small
import Derived.Deep.RegionHeld3
namespace Go.Proofs.YtnjlajjjcmhfgaaGreatDoor
open Go.RowKit
set_option linter.unusedVariables false
set_option linter.unusedSimpArgs false
/-- Keys, one behind the other. -/
def lexC : List Int → List Int → Int
  | a :: l, b :: m => if Lib.compareInt a b = 0 then lexC l m else Lib.compareInt a b
  | _, _ => 0
theorem lexC_cons (a b : Int) (l m : List Int) : lexC (a :: l) (b :: m) = if a < b then -1 else if b < a then 1 else lexC l m := by
  show (if Lib.compareInt a b = 0 then lexC l m else Lib.compareInt a b) = _
  unfold Lib.compareInt
  by_cases h1 : a < b
  · simp [h1]
  · by_cases h2 : b < a <;> simp [h1, h2]
theorem lexC_self (l : List Int) : lexC l l = 0 := by
  induction l with
  | nil => rfl
  | cons a l ih => rw [lexC_cons]; simp [ih]
theorem lexC_lt_iff (a b : Int) (l m : List Int) : lexC (a :: l) (b :: m) < 0 ↔ a < b ∨ (a = b ∧ lexC l m < 0) := by
  rw [lexC_cons]
  by_cases h1 : a < b
  · simp [h1]
  · by_cases h2 : b < a
    · have : a ≠ b := by omega
      simp [h1, h2, this]
    · have : a = b := by omega
      simp [this]
theorem lexC_trans : ∀ l m n : List Int, lexC l m < 0 → lexC m n < 0 → lexC l n < 0
  | [], _, _, h, _ => by simp [lexC] at h
  | _ :: _, [], _, h, _ => by simp [lexC] at h
  | _ :: _, _ :: _, [], _, h => by simp [lexC] at h
  | a :: l, b :: m, c :: n, h1, h2 => by
    rw [lexC_lt_iff] at *
    have := lexC_trans l m n
    rcases h1 with h1 | ⟨h1, h1'⟩ <;> rcases h2 with h2 | ⟨h2, h2'⟩
    · exact .inl (by omega)
    · exact .inl (by omega)
    · exact .inl (by omega)
    · exact .inr ⟨by omega, this h1' h2'⟩
theorem lexC_eq : ∀ l m : List Int, l.length = m.length → ¬ lexC l m < 0 → ¬ lexC m l < 0 → l = m
  | [], [], _, _, _ => rfl
  | [], _ :: _, h, _, _ => by simp at h
  | _ :: _, [], h, _, _ => by simp at h
  | a :: l, b :: m, h, h1, h2 => by
    rw [lexC_lt_iff] at *
    have h' : l.length = m.length := by simpa using h
    have e : a = b := by
      by_cases g1 : a < b
      · exact absurd (.inl g1) h1
      · by_cases g2 : b < a
        · exact absurd (.inl g2) h2
        · omega
    subst e
    rw [lexC_eq l m h' (fun g => h1 (.inr ⟨rfl, g⟩)) (fun g => h2 (.inr ⟨rfl, g⟩))]
theorem lexC_tri (l m : List Int) (h : l.length = m.length) : lexC l m < 0 ∨ l = m ∨ lexC m l < 0 := by
  by_cases h1 : lexC l m < 0
  · exact .inl h1
  · by_cases h2 : lexC m l < 0
    · exact .inr (.inr h2)
    · exact .inr (.inl (lexC_eq l m h h1 h2))
/-- Of each run of equals one. -/
def nd : List Tra → List Tra
  | [] => []
  | [x] => [x]
  | x :: y :: l => if x.same y then nd (y :: l) else x :: nd (y :: l)
theorem mem_nd {a : Tra} : ∀ l : List Tra, a ∈ nd l ↔ a ∈ l
  | [] => by simp [nd]
  | [x] => by simp [nd]
  | x :: y :: l => by
    have ih := mem_nd (a := a) (y :: l)
    unfold nd
    split
    · rename_i h
      have h := (Tra.same_iff x y).1 h
      subst h
      rw [ih]; simp
    · rw [List.mem_cons, ih, ← List.mem_cons]
theorem nd_lt {lt : Tra → Tra → Bool} (ht : ∀ x y z, lt x y = true → lt y z = true → lt x z = true) (hq : ∀ x y, lt x y = false → lt y x = false → x = y) :
    ∀ l : List Tra, l.Pairwise (fun a b => lt b a = false) → (nd l).Pairwise (fun a b => lt a b = true)
  | [], _ => by simp [nd]
  | [x], _ => by simp [nd]
  | x :: y :: l, h => by
    have h1 := List.pairwise_cons.1 h
    have ih := nd_lt ht hq (y :: l) h1.2
    unfold nd
    split
    · exact ih
    · rename_i hne
      refine List.pairwise_cons.2 ⟨?_, ih⟩
      intro z hz
      have hz := (mem_nd (y :: l)).1 hz
      have hxy : lt x y = true := by
        cases hc : lt x y with
        | true => rfl
        | false => exact absurd ((Tra.same_iff x y).2 (hq x y hc (h1.1 y (.head _)))) hne
      rcases List.mem_cons.1 hz with rfl | hz
      · exact hxy
      · have hyz := (List.pairwise_cons.1 h1.2).1 z hz
        cases hc : lt y z with
        | true => exact ht _ _ _ hxy hc
        | false => rw [← hq y z hc hyz]; exact hxy
section
variable {α : Type}
/-- Two strictly rising lists with the same members are one. -/
theorem rising_unique {lt : α → α → Bool} (hi : ∀ x, lt x x = false) (ht : ∀ x y z, lt x y = true → lt y z = true → lt x z = true) :
    ∀ l m : List α, l.Pairwise (fun a b => lt a b = true) → m.Pairwise (fun a b => lt a b = true) → (∀ a, a ∈ l ↔ a ∈ m) → l = m
  | [], [], _, _, _ => rfl
  | [], y :: m, _, _, h => by have := (h y).2 (.head _); cases this
  | x :: l, [], _, _, h => by have := (h x).1 (.head _); cases this
  | x :: l, y :: m, h1, h2, h => by
    have g1 := List.pairwise_cons.1 h1
    have g2 := List.pairwise_cons.1 h2
    have e : x = y := by
      rcases List.mem_cons.1 ((h x).1 (.head _)) with e | hx
      · exact e
      · rcases List.mem_cons.1 ((h y).2 (.head _)) with e | hy
        · exact e.symm
        · have := ht _ _ _ (g1.1 y hy) (g2.1 x hx)
          rw [hi] at this; cases this
    subst e
    rw [rising_unique hi ht l m g1.2 g2.2 ?_]
    intro a
    constructor
    · intro ha
      rcases List.mem_cons.1 ((h a).1 (.tail _ ha)) with e | g
      · subst e; have := g1.1 a ha; rw [hi] at this; cases this
      · exact g
    · intro ha
      rcases List.mem_cons.1 ((h a).2 (.tail _ ha)) with e | g
      · subst e; have := g2.1 a ha; rw [hi] at this; cases this
      · exact g
end

/-- The keys of a translation. -/
def bI (b : Bool) : Int := if b then 1 else 0
def kyT (t : Tra) : List Int := [t.va, t.size, t.pa, t.dom, t.ap, t.bits, bI t.ng, bI t.xn]
def cmT (a b : Tra) : Int := lexC (kyT a) (kyT b)
def ltT (a b : Tra) : Bool := decide (cmT a b < 0)
theorem kyT_inj {a b : Tra} (h : kyT a = kyT b) : a = b := by
  obtain ⟨a1, a2, a3, a4, a5, a6, a7, a8⟩ := a
  obtain ⟨b1, b2, b3, b4, b5, b6, b7, b8⟩ := b
  simp [kyT] at h
  obtain ⟨h1, h2, h3, h4, h5, h6, h7, h8⟩ := h
  have e7 : a7 = b7 := by revert h7; cases a7 <;> cases b7 <;> simp [bI]
  have e8 : a8 = b8 := by revert h8; cases a8 <;> cases b8 <;> simp [bI]
  subst h1; subst h2; subst h3; subst h4; subst h5; subst h6; subst e7; subst e8
  rfl
theorem ltT_irrefl (a : Tra) : ltT a a = false := by simp [ltT, cmT, lexC_self]
theorem ltT_trans (a b d : Tra) (h1 : ltT a b = true) (h2 : ltT b d = true) : ltT a d = true := by
  simp only [ltT, decide_eq_true_eq] at *
  exact lexC_trans _ _ _ h1 h2
theorem ltT_tot (a b : Tra) (h1 : ltT a b = false) (h2 : ltT b a = false) : a = b := by
  simp only [ltT, decide_eq_false_iff_not] at *
  exact kyT_inj (lexC_eq _ _ rfl h1 h2)
theorem ltT_ntrans (a b d : Tra) (h1 : ltT a b = false) (h2 : ltT b d = false) : ltT a d = false := by
  cases hc : ltT a d with
  | false => rfl
  | true =>
    cases hd : ltT b a with
    | false => rw [ltT_tot a b h1 hd, h2] at hc; cases hc
    | true => rw [ltT_trans _ _ _ hd hc] at h2; cases h2
theorem ltT_va {a b : Tra} (h : a.va < b.va) : ltT a b = true := by
  simp only [ltT, decide_eq_true_eq, cmT, kyT, lexC_lt_iff]
  exact .inl h
/-- Of two that stand in order: what the law asks. -/
theorem ltT_fine {a b : Tra} (h : ltT a b = true) : ¬ b.va < a.va ∧ ¬ (b.va = a.va ∧ b.size < a.size) ∧ b ≠ a := by
  refine ⟨?_, ?_, ?_⟩
  · intro g
    simp only [ltT, decide_eq_true_eq, cmT, kyT, lexC_lt_iff] at h
    omega
  · rintro ⟨g1, g2⟩
    simp only [ltT, decide_eq_true_eq, cmT, kyT, lexC_lt_iff] at h
    omega
  · rintro rfl
    rw [ltT_irrefl] at h; cases h
/-- What the descriptors say, MiB by MiB. -/
def gaT (M : Mo) (x : Ent) (va : Int) (n : Nat) : List Tra := (List.range n).flatMap fun (i : Nat) => if (w2 M x (va + i * 4096)).2.k = 0 then [(w2 M x (va + i * 4096)).1] else []
def gaL (M : Mo) (c : Ctx) (va : Int) : List Tra :=
  if (w1 M c va).2.k = 0 then (if (w1 M c va).1.kind = 1 then gaT M (w1 M c va).1 va 256 else [trF (w1 M c va).1 0 va]) else []
def wiT (M : Mo) (c : Ctx) (va : Int) (n : Nat) : List Tra := (List.range n).flatMap fun (i : Nat) => gaL M c (va + i * 1048576)
def soT (l : List Tra) : List Tra := l.mergeSort fun x y => !ltT y x
def wiL (M : Mo) (c : Ctx) (va : Int) : List Tra := nd (soT (wiT M c va 16))
def blT (M : Mo) (c : Ctx) (n : Nat) : List Tra := (List.range n).flatMap fun (s : Nat) => wiL M c ((s : Int) * 16777216)
def blL (M : Mo) (c : Ctx) : List Tra := if c.on then blT M c 256 else []
theorem gaT_succ (M : Mo) (x : Ent) (va : Int) (n : Nat) : gaT M x va (n + 1) = gaT M x va n ++ (if (w2 M x (va + n * 4096)).2.k = 0 then [(w2 M x (va + n * 4096)).1] else []) := by
  unfold gaT
  rw [List.range_succ, List.flatMap_append]
  simp
theorem wiT_succ (M : Mo) (c : Ctx) (va : Int) (n : Nat) : wiT M c va (n + 1) = wiT M c va n ++ gaL M c (va + n * 1048576) := by
  unfold wiT
  rw [List.range_succ, List.flatMap_append]
  simp
theorem blT_succ (M : Mo) (c : Ctx) (n : Nat) : blT M c (n + 1) = blT M c n ++ wiL M c ((n : Int) * 16777216) := by
  unfold blT
  rw [List.range_succ, List.flatMap_append]
  simp
theorem gaT_len (M : Mo) (x : Ent) (va : Int) (n : Nat) : (gaT M x va n).length ≤ n := by
  induction n with
  | zero => simp [gaT]
  | succ n ih =>
    rw [gaT_succ, List.length_append]
    split <;> simp <;> omega
theorem gaL_len (M : Mo) (c : Ctx) (va : Int) : (gaL M c va).length ≤ 256 := by
  unfold gaL
  split
  · split
    · exact gaT_len _ _ _ _
    · simp
  · simp
theorem wiT_len (M : Mo) (c : Ctx) (va : Int) (n : Nat) : (wiT M c va n).length ≤ 256 * n := by
  induction n with
  | zero => simp [wiT]
  | succ n ih =>
    rw [wiT_succ, List.length_append]
    have := gaL_len M c (va + n * 1048576)
    omega
theorem soT_perm (l : List Tra) : (soT l).Perm l := List.mergeSort_perm _ _
theorem soT_sorted (l : List Tra) : (soT l).Pairwise fun a b => ltT b a = false := by
  have h := List.pairwise_mergeSort (le := fun x y => !ltT y x) (l := l) (fun a b d h1 h2 => by
      simp only [Bool.not_eq_true'] at *
      exact ltT_ntrans _ _ _ h2 h1) (fun a b => by
      cases h1 : ltT b a with
      | false => rfl
      | true =>
        cases h2 : ltT a b with
        | false => rfl
        | true => have := ltT_trans _ _ _ h1 h2; rw [ltT_irrefl] at this; cases this)
  exact h.imp fun h => by simpa using h
theorem wiL_rising (M : Mo) (c : Ctx) (va : Int) : (wiL M c va).Pairwise fun a b => ltT a b = true := nd_lt ltT_trans ltT_tot _ (soT_sorted _)
theorem mem_wiL {M : Mo} {c : Ctx} {va : Int} {x : Tra} : x ∈ wiL M c va ↔ x ∈ wiT M c va 16 := by
  unfold wiL
  rw [mem_nd, (soT_perm _).mem_iff]
theorem nd_len : ∀ l : List Tra, (nd l).length ≤ l.length
  | [] => by simp [nd]
  | [x] => by simp [nd]
  | x :: y :: l => by
    have ih := nd_len (y :: l)
    unfold nd
    split
    · simp at *; omega
    · simp at *; omega
theorem wiL_len (M : Mo) (c : Ctx) (va : Int) : (wiL M c va).length ≤ 4096 := by
  have h := nd_len (soT (wiT M c va 16))
  rw [(soT_perm _).length_eq] at h
  have := wiT_len M c va 16
  unfold wiL
  omega
/-- All of a MiB have that translation. -/
theorem tr_mib {e : Ent} {d va vb : Int} (hk : e.kind = 2 ∨ e.kind = 3) (h : va / 1048576 = vb / 1048576) : trF e d va = trF e d vb := by
  have hb : va / byN (szK e.kind) * byN (szK e.kind) = vb / byN (szK e.kind) * byN (szK e.kind) := by
    rcases hk with hk | hk
    · rw [hk]; show va / 1048576 * 1048576 = vb / 1048576 * 1048576; omega
    · rw [hk]; show va / 16777216 * 16777216 = vb / 16777216 * 16777216; omega
  unfold trF
  rw [hb]
theorem w1_not1 {M : Mo} {c : Ctx} {va : Int} (h : (w1 M c va).2.k = 0) (h1 : ¬ (w1 M c va).1.kind = 1) : (w1 M c va).1.kind = 2 ∨ (w1 M c va).1.kind = 3 := by
  obtain ⟨_, _, hw, hz⟩ := w1_kind h
  rw [hw] at h1 ⊢
  have := D1_kind (M.wd (fA c va))
  dsimp only at h1 ⊢
  omega
theorem w2_z {M : Mo} {x : Ent} {va : Int} (h : (w2 M x va).2.k = 0) : w2 M x va = ((w2 M x va).1, fZ) := by
  unfold w2 at h ⊢
  split at h
  · rename_i h1
    rw [if_pos h1]
    split at h
    · cases h
    · rename_i h2
      rw [if_neg h2]
  · cases h
theorem mem_gaL {M : Mo} {c : Ctx} {va : Int} (hon : c.on = true) (hv : 0 ≤ va) (hm : va % 1048576 = 0) (x : Tra) :
    x ∈ gaL M c va ↔ ∃ vb, vb / 1048576 = va / 1048576 ∧ wk M c vb = (x, fZ) := by
  constructor
  · intro h
    unfold gaL at h
    split at h
    · rename_i h1
      split at h
      · rename_i h2
        unfold gaT at h
        obtain ⟨i, hi, hx⟩ := List.mem_flatMap.1 h
        have hi := List.mem_range.1 hi
        split at hx
        · rename_i h3
          have hx := List.mem_singleton.1 hx
          have e : va / 1048576 = (va + i * 4096) / 1048576 := by omega
          refine ⟨va + i * 4096, e.symm, ?_⟩
          obtain ⟨e1, _⟩ := w1_sec (M := M) (c := c) e
          unfold wk
          rw [if_pos hon, ← e1, if_pos h1, if_pos h2, w2_z h3, hx]
        · cases hx
      · rename_i h2
        have hx := List.mem_singleton.1 h
        refine ⟨va, rfl, ?_⟩
        unfold wk
        rw [if_pos hon, if_pos h1, if_neg h2, hx]
    · cases h
  · rintro ⟨vb, hb, hw⟩
    obtain ⟨e1, _⟩ := w1_sec (M := M) (c := c) hb
    unfold wk at hw
    rw [if_pos hon, e1] at hw
    unfold gaL
    split at hw
    · rename_i h1
      rw [if_pos h1]
      split at hw
      · rename_i h2
        rw [if_pos h2]
        unfold gaT
        refine List.mem_flatMap.2 ⟨(vb / 4096 % 256).toNat, List.mem_range.2 (by omega), ?_⟩
        have hp : w2 M (w1 M c va).1 (va + ((vb / 4096 % 256).toNat : Int) * 4096) = w2 M (w1 M c va).1 vb := by
          have h : (va + ((vb / 4096 % 256).toNat : Int) * 4096) / 4096 = vb / 4096 := by omega
          unfold w2 sA
          rw [h, tr_page h]
        rw [hp, hw]
        rw [if_pos (show (fZ : Fa).k = 0 from rfl)]
        exact .head _
      · rename_i h2
        rw [if_neg h2]
        rw [tr_mib (w1_not1 h1 h2) hb.symm, (Prod.mk.inj hw).1]
        exact .head _
    · rename_i h1
      exact absurd (by rw [(Prod.mk.inj hw).2]; rfl) h1
theorem mem_wiT {M : Mo} {c : Ctx} {va : Int} (hon : c.on = true) (hv : 0 ≤ va) (hm : va % 16777216 = 0) (x : Tra) :
    x ∈ wiT M c va 16 ↔ ∃ vb, vb / 16777216 = va / 16777216 ∧ wk M c vb = (x, fZ) := by
  unfold wiT
  rw [List.mem_flatMap]
  constructor
  · rintro ⟨i, hi, hx⟩
    have hi := List.mem_range.1 hi
    obtain ⟨vb, hb, hw⟩ := (mem_gaL hon (by omega) (by omega) x).1 hx
    exact ⟨vb, by omega, hw⟩
  · rintro ⟨vb, hb, hw⟩
    refine ⟨(vb / 1048576 % 16).toNat, List.mem_range.2 (by omega), ?_⟩
    exact (mem_gaL hon (by omega) (by omega) x).2 ⟨vb, by omega, hw⟩
theorem mem_blL {M : Mo} {c : Ctx} (hon : c.on = true) (x : Tra) : x ∈ blL M c ↔ ∃ vb, (0 ≤ vb ∧ vb < 4294967296) ∧ wk M c vb = (x, fZ) := by
  unfold blL
  rw [if_pos hon]
  unfold blT
  rw [List.mem_flatMap]
  constructor
  · rintro ⟨s, hs, hx⟩
    have hs := List.mem_range.1 hs
    obtain ⟨vb, hb, hw⟩ := (mem_wiT hon (by omega) (by omega) x).1 (mem_wiL.1 hx)
    exact ⟨vb, by omega, hw⟩
  · rintro ⟨vb, hb, hw⟩
    refine ⟨(vb / 16777216).toNat, List.mem_range.2 (by omega), mem_wiL.2 ((mem_wiT hon (by omega) (by omega) x).2 ⟨vb, by omega, hw⟩)⟩
/-- A block's address lies in the 16 MiB of the address that found it. -/
theorem Fnd.sup {U : Tra} {va : Int} (h : Fnd U va) : U.va / 16777216 = va / 16777216 := by
  have h1 := h.va
  rcases h.sz with hs | hs | hs | hs <;> rw [hs] at h1
  · have : U.va = va / 4096 * 4096 := h1
    omega
  · have : U.va = va / 65536 * 65536 := h1
    omega
  · have : U.va = va / 1048576 * 1048576 := h1
    omega
  · have : U.va = va / 16777216 * 16777216 := h1
    omega
theorem blL_rising {M : Mo} {c : Ctx} (hM : M.Ok) (hc : c.Ok) : (blL M c).Pairwise fun a b => ltT a b = true := by
  unfold blL
  split
  · rename_i hon
    unfold blT
    rw [List.pairwise_flatMap]
    refine ⟨fun s _ => wiL_rising _ _ _, ?_⟩
    have hr : (List.range 256).Pairwise (fun a b => a < b ∧ b < 256) := by
      have h := List.pairwise_lt_range (n := 256)
      refine List.Pairwise.imp_of_mem (fun ha hb h => ⟨h, List.mem_range.1 hb⟩) h
    refine hr.imp ?_
    intro s1 s2 ⟨hs, hs2⟩ x hx y hy
    obtain ⟨v1, e1, f1⟩ := (mem_wiT hon (by omega) (by omega) x).1 (mem_wiL.1 hx)
    obtain ⟨v2, e2, f2⟩ := (mem_wiT hon (by omega) (by omega) y).1 (mem_wiL.1 hy)
    have g1 := (found hM hc (by omega) f1 rfl).2.1.sup
    have g2 := (found hM hc (by omega) f2 rfl).2.1.sup
    exact ltT_va (by omega)
  · exact .nil
end Go.Proofs.YtnjlajjjcmhfgaaGreatDoor
namespace Go.Proofs.YtnjlajjjcmhfgaaGreatDoor
open Go.RowKit
set_option linter.unusedVariables false
set_option linter.unusedSimpArgs false
theorem nanW_any (x : Int) (w : World) : Calls Tryz.prog 136 #[.int .u32 x] w fun e w' => e = .returned (.bool false) ∧ w = w' := by
  go_enter Tryz.func136, Tryz.ntmps136
  go_wp2
  go_ret
  exact ⟨by simp, rfl⟩
theorem nanI_any (x : Int) (w : World) : Calls Tryz.prog 125 #[.int .i64 x] w fun e w' => e = .returned (.bool false) ∧ w = w' := by
  go_enter Tryz.func125, Tryz.ntmps125
  go_wp2
  go_ret
  exact ⟨by simp, rfl⟩
theorem nanU_any (x : Int) (w : World) : Calls Tryz.prog 137 #[.int .u64 x] w fun e w' => e = .returned (.bool false) ∧ w = w' := by
  go_enter Tryz.func137, Tryz.ntmps137
  go_wp2
  go_ret
  exact ⟨by simp, rfl⟩
theorem cmpW_any (x y : Int) (w : World) : Calls Tryz.prog 94 #[.int .u32 x, .int .u32 y] w fun e w' => e = .returned (.int .i64 (Lib.compareInt x y)) ∧ w = w' := by
  unfold Lib.compareInt
  have HN := hidW nanW_any
  rcases (show x < y ∨ (¬ x < y ∧ y < x) ∨ (¬ x < y ∧ ¬ y < x) by omega) with h | ⟨h, h2⟩ | ⟨h, h2⟩
  · rw [if_pos h]
    go_enter Tryz.func94, Tryz.ntmps94
    go_wp2_with (go_at_call 136; refine (HN.out _ _).mono ?_; rintro e w' ⟨rfl, rfl⟩)
    go_ret
    exact ⟨rfl, rfl⟩
  · rw [if_neg h, if_pos h2]
    go_enter Tryz.func94, Tryz.ntmps94
    go_wp2_with (go_at_call 136; refine (HN.out _ _).mono ?_; rintro e w' ⟨rfl, rfl⟩)
    go_ret
    exact ⟨rfl, rfl⟩
  · rw [if_neg h, if_neg h2]
    go_enter Tryz.func94, Tryz.ntmps94
    go_wp2_with (go_at_call 136; refine (HN.out _ _).mono ?_; rintro e w' ⟨rfl, rfl⟩)
    go_ret
    exact ⟨rfl, rfl⟩
theorem cmpI_any (x y : Int) (w : World) : Calls Tryz.prog 86 #[.int .i64 x, .int .i64 y] w fun e w' => e = .returned (.int .i64 (Lib.compareInt x y)) ∧ w = w' := by
  unfold Lib.compareInt
  have HN := hidW nanI_any
  rcases (show x < y ∨ (¬ x < y ∧ y < x) ∨ (¬ x < y ∧ ¬ y < x) by omega) with h | ⟨h, h2⟩ | ⟨h, h2⟩
  · rw [if_pos h]
    go_enter Tryz.func86, Tryz.ntmps86
    go_wp2_with (go_at_call 125; refine (HN.out _ _).mono ?_; rintro e w' ⟨rfl, rfl⟩)
    go_ret
    exact ⟨rfl, rfl⟩
  · rw [if_neg h, if_pos h2]
    go_enter Tryz.func86, Tryz.ntmps86
    go_wp2_with (go_at_call 125; refine (HN.out _ _).mono ?_; rintro e w' ⟨rfl, rfl⟩)
    go_ret
    exact ⟨rfl, rfl⟩
  · rw [if_neg h, if_neg h2]
    go_enter Tryz.func86, Tryz.ntmps86
    go_wp2_with (go_at_call 125; refine (HN.out _ _).mono ?_; rintro e w' ⟨rfl, rfl⟩)
    go_ret
    exact ⟨rfl, rfl⟩
theorem cmpU_any (x y : Int) (w : World) : Calls Tryz.prog 95 #[.int .u64 x, .int .u64 y] w fun e w' => e = .returned (.int .i64 (Lib.compareInt x y)) ∧ w = w' := by
  unfold Lib.compareInt
  have HN := hidW nanU_any
  rcases (show x < y ∨ (¬ x < y ∧ y < x) ∨ (¬ x < y ∧ ¬ y < x) by omega) with h | ⟨h, h2⟩ | ⟨h, h2⟩
  · rw [if_pos h]
    go_enter Tryz.func95, Tryz.ntmps95
    go_wp2_with (go_at_call 137; refine (HN.out _ _).mono ?_; rintro e w' ⟨rfl, rfl⟩)
    go_ret
    exact ⟨rfl, rfl⟩
  · rw [if_neg h, if_pos h2]
    go_enter Tryz.func95, Tryz.ntmps95
    go_wp2_with (go_at_call 137; refine (HN.out _ _).mono ?_; rintro e w' ⟨rfl, rfl⟩)
    go_ret
    exact ⟨rfl, rfl⟩
  · rw [if_neg h, if_neg h2]
    go_enter Tryz.func95, Tryz.ntmps95
    go_wp2_with (go_at_call 137; refine (HN.out _ _).mono ?_; rintro e w' ⟨rfl, rfl⟩)
    go_ret
    exact ⟨rfl, rfl⟩
theorem cmpB_any (x y : Bool) (w : World) : Calls Tryz.prog 127 #[.bool x, .bool y] w fun e w' => e = .returned (.int .i64 (Lib.compareInt (bI x) (bI y))) ∧ w = w' := by
  cases x <;> cases y
  all_goals
    go_enter Tryz.func127, Tryz.ntmps127
    go_wp2
    go_ret
    exact ⟨rfl, rfl⟩
/-- The first that is not 0. -/
def orL : List Int → Int
  | [] => 0
  | a :: l => if a = 0 then orL l else a
theorem orL_lex (a1 a2 a3 a4 a5 a6 a7 a8 b1 b2 b3 b4 b5 b6 b7 b8 : Int) :
    orL [Lib.compareInt a1 b1, Lib.compareInt a2 b2, Lib.compareInt a3 b3, Lib.compareInt a4 b4, Lib.compareInt a5 b5, Lib.compareInt a6 b6, Lib.compareInt a7 b7, Lib.compareInt a8 b8] = lexC [a1, a2, a3, a4, a5, a6, a7, a8] [b1, b2, b3, b4, b5, b6, b7, b8] := by
  simp only [orL, lexC]
theorem orL_drop {l : List Int} {k : Nat} (h : ∀ j, j < k → l[j]? = some 0 ∨ l[j]? = none) : orL l = orL (l.drop k) := by
  induction k generalizing l with
  | zero => rfl
  | succ k ih =>
    cases l with
    | nil => rfl
    | cons a l =>
      have h0 : a = 0 := by
        rcases h 0 (Nat.succ_pos _) with h | h
        · simpa using h
        · simp at h
      show (if a = 0 then orL l else a) = _
      rw [if_pos h0, List.drop_succ_cons]
      refine ih (fun j hj => ?_)
      have := h (j + 1) (by omega)
      simpa using this
set_option maxRecDepth 100000 in
theorem or_any (l : List Int) (g o cap : Nat) (w : World) (hl : l.length ≤ 1000000) (hc : ∀ j x, l[j]? = some x → w.cell? ⟨g, o + j, none⟩ = some (.int .i64 x)) :
    Calls Tryz.prog 85 #[.slice (some ⟨g, o, none⟩) l.length cap] w fun e w' => e = .returned (.int .i64 (orL l)) ∧ w = w' := by
  have HC := hidW hc
  clear hc
  generalize hn : l.length = n at *
  go_enter Tryz.func85, Tryz.ntmps85
  go_wp2
  go_loopw [8] (fun i wr => ∃ k : Nat, k ≤ n ∧ i = .int .i64 k ∧ Hid (w = wr) ∧ Hid (∀ j, j < k → l[j]? = some 0)) (fun i _ => n - (intOf i).toNat)
  case atStart => exact ⟨0, Nat.zero_le _, rfl, by first | exact hidW rfl | exact hidW trivial, hidW (fun j hj => by omega)⟩
  case round =>
    obtain ⟨k, hk, rfl, HWW, HZ⟩ := hrel
    obtain rfl : w = wr := HWW.out
    clear HWW
    have hz := HZ.out
    by_cases hlt : k < n
    · obtain ⟨x, hx⟩ : ∃ x, l[k]? = some x := ⟨_, List.getElem?_eq_getElem (by omega)⟩
      have d0 := HC.out k x hx
      have hkz : (k : Int) < (n : Int) := by omega
      by_cases h0 : x = 0
      · subst h0
        clear hz
        go_wp2
        go_roundw
        case rel =>
          refine ⟨k + 1, by omega, by go_num, by first | exact hidW rfl | exact hidW trivial, hidW (fun j hj => ?_)⟩
          rcases (show j < k ∨ j = k by omega) with h | rfl
          · exact HZ.out j h
          · exact hx
        case measure => simp [intOf]; omega
      · have hxb : (x == 0) = false := by simpa using h0
        have HR : Hid (orL l = x) := hidW (by
          rw [orL_drop (k := k) (fun j hj => .inl (hz j hj)), List.drop_eq_getElem_cons (by omega)]
          have : l[k]'(by omega) = x := by
            have := List.getElem?_eq_getElem (l := l) (i := k) (by omega)
            rw [hx] at this; injection this with this; exact this.symm
          rw [this]
          show (if x = 0 then _ else x) = x
          rw [if_neg h0])
        clear hz h0 HZ
        go_wp2
        go_ret
        exact ⟨by rw [HR.out]; rfl, rfl⟩
    · obtain rfl : k = n := by omega
      have HR : Hid (orL l = 0) := hidW (by
        rw [orL_drop (k := k) (fun j hj => .inl (hz j hj)), List.drop_of_length_le (by omega)]; rfl)
      clear hz HZ
      go_wp2
      go_ret
      exact ⟨by rw [HR.out]; rfl, rfl⟩
end Go.Proofs.YtnjlajjjcmhfgaaGreatDoor

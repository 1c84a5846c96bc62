import Derived.Test.YtplobjdghaokoabRg
namespace Go.Proofs.Ytplobjdghaokoab
open Go.RowKit
set_option linter.unusedVariables false

def Inc (l : List Int) : Prop := l.Pairwise (· < ·)
theorem inc_ext {a b : List Int} (ha : Inc a) (hb : Inc b) (h : ∀ x, x ∈ a ↔ x ∈ b) : a = b := by
  induction a generalizing b with
  | nil =>
    cases b with
    | nil => rfl
    | cons y b => exact absurd ((h y).2 (by simp)) (by simp)
  | cons x a ih =>
    cases b with
    | nil => exact absurd ((h x).1 (by simp)) (by simp)
    | cons y b =>
      unfold Inc at ha hb
      rw [List.pairwise_cons] at ha hb
      have hxy : x = y := by
        rcases List.mem_cons.1 ((h x).1 (by simp)) with e | e
        · exact e
        · rcases List.mem_cons.1 ((h y).2 (by simp)) with e2 | e2
          · exact e2.symm
          · have h1 := hb.1 x e
            have h2 := ha.1 y e2
            omega
      subst hxy
      congr 1
      refine ih ha.2 hb.2 (fun z => ⟨fun hz => ?_, fun hz => ?_⟩)
      · rcases List.mem_cons.1 ((h z).1 (by simp [hz])) with e | e
        · have := ha.1 z hz; omega
        · exact e
      · rcases List.mem_cons.1 ((h z).2 (by simp [hz])) with e | e
        · have := hb.1 z hz; omega
        · exact e
theorem mem_tabsTo (c : Cut) (k : Nat) (x : Int) : x ∈ c.tabsTo k ↔ ∃ i : Nat, i < k ∧ c.b i = true ∧ x = 4 * (c.f : Int) + i := by
  unfold Cut.tabsTo
  rw [List.mem_map]
  constructor
  · rintro ⟨i, hi, rfl⟩
    rw [List.mem_filter, List.mem_range] at hi
    exact ⟨i, hi.1, hi.2, rfl⟩
  · rintro ⟨i, h1, h2, rfl⟩
    exact ⟨i, by rw [List.mem_filter, List.mem_range]; exact ⟨h1, h2⟩, rfl⟩
theorem inc_tabsTo (c : Cut) (k : Nat) : Inc (c.tabsTo k) := by
  induction k with
  | zero => exact List.Pairwise.nil
  | succ k ih =>
    rw [tabsTo_succ]
    unfold Inc
    rw [List.pairwise_append]
    refine ⟨ih, ?_, fun a ha b hb => ?_⟩
    · split <;> simp
    · split at hb
      · simp at hb
        subst hb
        obtain ⟨i, h1, _, rfl⟩ := (mem_tabsTo c k a).1 ha
        omega
      · cases hb
theorem mem_tabsL (cs : List Cut) (x : Int) : x ∈ tabsL cs ↔ ∃ c ∈ cs, ∃ i : Nat, i < 4 ∧ c.b i = true ∧ x = 4 * (c.f : Int) + i := by
  unfold tabsL
  rw [List.mem_flatMap]
  constructor
  · rintro ⟨c, hc, h⟩
    exact ⟨c, hc, (mem_tabsTo c 4 x).1 h⟩
  · rintro ⟨c, hc, h⟩
    exact ⟨c, hc, (mem_tabsTo c 4 x).2 h⟩
theorem inc_tabsL {cs : List Cut} (h : Srt cs) : Inc (tabsL cs) := by
  induction cs with
  | nil => exact List.Pairwise.nil
  | cons c r ih =>
    unfold Srt at h
    rw [List.pairwise_cons] at h
    unfold Inc tabsL
    rw [List.flatMap_cons, List.pairwise_append]
    refine ⟨inc_tabsTo c 4, ih h.2, fun a ha b hb => ?_⟩
    obtain ⟨i, h1, _, rfl⟩ := (mem_tabsTo c 4 a).1 ha
    obtain ⟨d, hd, j, h3, _, rfl⟩ := (mem_tabsL r b).1 hb
    have := h.1 d hd
    omega
theorem tabsL_bd {cs : List Cut} (h : ∀ c ∈ cs, c.f < 268435456) : ∀ x ∈ tabsL cs, 0 ≤ x ∧ x ≤ 1073741824 := by
  intro x hx
  obtain ⟨c, hc, i, h1, _, rfl⟩ := (mem_tabsL cs x).1 hx
  have := h c hc
  omega
/-- The frames of the tables of cuts. -/
theorem fold_same {f : Int} (l : List Int) : (∀ x ∈ l, x / 4 = f) → ∀ acc : List Int, acc.getLast? = some f → l.foldl stF acc = acc := by
  induction l with
  | nil => intro _ acc _; rfl
  | cons x l ih =>
    intro h acc ha
    rw [List.foldl_cons]
    have : stF acc x = acc := by unfold stF; rw [h x (by simp), if_pos ha]
    rw [this]
    exact ih (fun y hy => h y (by simp [hy])) acc ha
theorem fold_new {f : Int} {l : List Int} (hl : l ≠ []) (h : ∀ x ∈ l, x / 4 = f) {acc : List Int} (ha : acc.getLast? ≠ some f) : l.foldl stF acc = acc ++ [f] := by
  cases l with
  | nil => exact absurd rfl hl
  | cons x l =>
    rw [List.foldl_cons]
    have : stF acc x = acc ++ [f] := by unfold stF; rw [h x (by simp), if_neg ha]
    rw [this]
    exact fold_same l (fun y hy => h y (by simp [hy])) _ (by simp)
theorem tabs_ne {c : Cut} (h : c.any = true) : c.tabs ≠ [] := by
  intro e
  have : ∀ i, i < 4 → c.b i = false := fun i hi => by
    cases hb : c.b i with
    | false => rfl
    | true =>
      have : (4 * (c.f : Int) + i) ∈ c.tabs := (mem_tabsTo c 4 _).2 ⟨i, hi, hb, rfl⟩
      rw [e] at this
      cases this
  unfold Cut.any at h
  rw [this 0 (by omega), this 1 (by omega), this 2 (by omega), this 3 (by omega)] at h
  cases h
theorem fold_tabs (cs : List Cut) : Srt cs → (∀ c ∈ cs, c.any = true) → ∀ acc : List Int, (∀ c ∈ cs, acc.getLast? ≠ some (c.f : Int)) → (tabsL cs).foldl stF acc = acc ++ framesL cs := by
  induction cs with
  | nil => intro _ _ acc _; simp [tabsL, framesL]
  | cons c r ih =>
    intro hs ha acc hl
    unfold Srt at hs
    rw [List.pairwise_cons] at hs
    have e1 : tabsL (c :: r) = c.tabs ++ tabsL r := by unfold tabsL; rw [List.flatMap_cons]
    rw [e1, List.foldl_append, fold_new (f := (c.f : Int)) (tabs_ne (ha c (by simp))) (fun x hx => by
      obtain ⟨i, h1, _, rfl⟩ := (mem_tabsTo c 4 x).1 hx
      omega) (hl c (by simp)), ih hs.2 (fun d hd => ha d (by simp [hd])) _ (fun d hd => by
      have := hs.1 d hd
      simp
      omega)]
    simp [framesL]
theorem fs_tabs {cs : List Cut} (h : Srt cs) (ha : ∀ c ∈ cs, c.any = true) : fsL (tabsL cs) = framesL cs := by
  unfold fsL
  rw [fold_tabs cs h ha [] (fun c hc => by simp)]
  simp
/-- What put makes. -/
theorem putF_inv {T : List Int} (t : Int) (hT : Inc T) (ht : t ∉ T) (k : Nat) (hk : k ≤ T.length) :
    ((putF (T.take k) t).2 = false ∧ (putF (T.take k) t).1 = T.take k ∧ ∀ x ∈ T.take k, x < t) ∨
    ((putF (T.take k) t).2 = true ∧ Inc (putF (T.take k) t).1 ∧ (∀ x, x ∈ (putF (T.take k) t).1 ↔ x = t ∨ x ∈ T.take k) ∧ ∃ y ∈ T.take k, t < y) := by
  induction k with
  | zero => exact .inl ⟨rfl, rfl, fun x hx => by simp at hx⟩
  | succ k ih =>
    obtain ⟨x, hx⟩ : ∃ x, T[k]? = some x := ⟨_, List.getElem?_eq_getElem (by omega)⟩
    have hlt : ∀ y ∈ T.take k, y < x := fun y hy => by
      obtain ⟨i, hi⟩ := List.mem_iff_getElem?.1 hy
      rw [List.getElem?_take] at hi
      split at hi
      · rename_i hik
        obtain ⟨a1, rfl⟩ := List.getElem?_eq_some_iff.1 hi
        obtain ⟨b1, rfl⟩ := List.getElem?_eq_some_iff.1 hx
        exact List.pairwise_iff_getElem.1 hT i k a1 b1 hik
      · cases hi
    have hxt : x ≠ t := fun e => ht (e ▸ List.mem_of_getElem? hx)
    rw [putF_snoc T t hx, take_snoc T hx]
    rcases ih (by omega) with ⟨h1, h2, h3⟩ | ⟨h1, h2, h3, y, hy, hty⟩
    · by_cases hc : t < x
      · have e : stP t (putF (T.take k) t) x = (T.take k ++ [t] ++ [x], true) := by unfold stP; rw [if_pos ⟨h1, hc⟩, h2]
        rw [e]
        refine .inr ⟨rfl, ?_, fun z => by
          simp only [List.mem_append, List.mem_singleton]
          constructor
          · rintro ((h | h) | h)
            · exact .inr (.inl h)
            · exact .inl h
            · exact .inr (.inr h)
          · rintro (h | h | h)
            · exact .inl (.inr h)
            · exact .inl (.inl h)
            · exact .inr h, x, by simp, hc⟩
        unfold Inc
        rw [List.append_assoc, List.pairwise_append]
        refine ⟨List.Pairwise.sublist (List.take_sublist _ _) hT, by simp [hc], fun a ha b hb => ?_⟩
        simp at hb
        rcases hb with rfl | rfl
        · exact h3 a ha
        · exact hlt a ha
      · have e : stP t (putF (T.take k) t) x = (T.take k ++ [x], false) := by unfold stP; rw [if_neg (fun h => hc h.2), h2, h1]
        rw [e]
        refine .inl ⟨rfl, rfl, fun z hz => ?_⟩
        rcases List.mem_append.1 hz with hz | hz
        · exact h3 z hz
        · simp at hz; subst hz; omega
    · have e : stP t (putF (T.take k) t) x = ((putF (T.take k) t).1 ++ [x], true) := by unfold stP; rw [if_neg (fun h => by rw [h1] at h; cases h.1), h1]
      rw [e]
      refine .inr ⟨rfl, ?_, fun z => ?_, y, by simp [hy], hty⟩
      · unfold Inc
        rw [List.pairwise_append]
        refine ⟨h2, by simp, fun a ha b hb => ?_⟩
        simp at hb
        subst hb
        rcases (h3 a).1 ha with rfl | ha
        · have := hlt y hy; omega
        · exact hlt a ha
      · rw [List.mem_append, h3 z, List.mem_append]
        simp only [List.mem_singleton]
        constructor
        · rintro ((h | h) | h)
          · exact .inl h
          · exact .inr (.inl h)
          · exact .inr (.inr h)
        · rintro (h | h | h)
          · exact .inl (.inl h)
          · exact .inl (.inr h)
          · exact .inr h
theorem putL_ok {T : List Int} (t : Int) (hT : Inc T) (ht : t ∉ T) : Inc (putL T t) ∧ ∀ x, x ∈ putL T t ↔ x = t ∨ x ∈ T := by
  have h := putF_inv t hT ht T.length (Nat.le_refl _)
  rw [List.take_of_length_le (Nat.le_refl _)] at h
  unfold putL
  rcases h with ⟨h1, h2, h3⟩ | ⟨h1, h2, h3, _⟩
  · rw [if_neg (by rw [h1]; simp), h2]
    refine ⟨?_, fun x => by simp [or_comm]⟩
    unfold Inc
    rw [List.pairwise_append]
    exact ⟨hT, by simp, fun a ha b hb => by simp at hb; subst hb; exact h3 a ha⟩
  · rw [if_pos h1]
    exact ⟨h2, h3⟩

/-! ### what becomes of the tables -/
theorem set_srt {cs : List Cut} (h : Srt cs) {k : Nat} {c : Cut} (hk : cs[k]? = some c) (i : Nat) (v : Bool) : Srt (cs.set k (c.put i v)) := by
  unfold Srt at h ⊢
  rw [List.pairwise_iff_getElem] at h ⊢
  have hf : ∀ (q : Nat) (hq : q < (cs.set k (c.put i v)).length), ((cs.set k (c.put i v))[q]).f = (cs[q]'(by simpa using hq)).f := by
    intro q hq
    rw [List.getElem_set]
    split
    · rename_i e
      subst e
      rw [(List.getElem?_eq_some_iff.1 hk).2]
      rfl
    · rfl
  intro a b ha hb hab
  rw [hf a ha, hf b hb]
  exact h a b _ _ hab
theorem mem_set {cs : List Cut} {k : Nat} {c c' : Cut} (hk : cs[k]? = some c) (d : Cut) : d ∈ cs.set k c' ↔ d = c' ∨ ∃ j, j ≠ k ∧ cs[j]? = some d := by
  have hl : k < cs.length := (List.getElem?_eq_some_iff.1 hk).1
  constructor
  · intro h
    obtain ⟨j, hj⟩ := List.mem_iff_getElem?.1 h
    by_cases e : j = k
    · subst e
      rw [List.getElem?_set_self hl] at hj
      cases hj
      exact .inl rfl
    · rw [List.getElem?_set_ne (Ne.symm e)] at hj
      exact .inr ⟨j, e, hj⟩
  · rintro (rfl | ⟨j, hj, h⟩)
    · exact List.mem_of_getElem? (List.getElem?_set_self hl)
    · exact List.mem_of_getElem? (by rw [List.getElem?_set_ne (Ne.symm hj)]; exact h)
theorem srt_unique {cs : List Cut} (h : Srt cs) {j k : Nat} {c d : Cut} (hj : cs[j]? = some c) (hk : cs[k]? = some d) (e : c.f = d.f) : j = k := by
  rcases Nat.lt_trichotomy j k with h1 | h1 | h1
  · have := srt_at h hj hk h1; omega
  · exact h1
  · have := srt_at h hk hj h1; omega
/-- A table more. -/
theorem tabs_set {cs : List Cut} (h : Srt cs) {k : Nat} {c : Cut} {i : Nat} (hk : cs[k]? = some c) (hi : i < 4) (hb : c.b i = false) :
    (4 * (c.f : Int) + i) ∉ tabsL cs ∧ tabsL (cs.set k (c.put i true)) = putL (tabsL cs) (4 * (c.f : Int) + i) := by
  have hn : (4 * (c.f : Int) + i) ∉ tabsL cs := fun hm => by
    obtain ⟨d, hd, j, h1, h2, h3⟩ := (mem_tabsL cs _).1 hm
    obtain ⟨q, hq⟩ := List.mem_iff_getElem?.1 hd
    have : q = k := srt_unique h hq hk (by omega)
    subst this
    rw [hk] at hq
    cases hq
    obtain rfl : i = j := by omega
    rw [hb] at h2
    cases h2
  have hp := putL_ok (4 * (c.f : Int) + i) (inc_tabsL h) hn
  refine ⟨hn, inc_ext (inc_tabsL (set_srt h hk i true)) hp.1 (fun x => ?_)⟩
  rw [hp.2 x, mem_tabsL, mem_tabsL]
  constructor
  · rintro ⟨d, hd, j, h1, h2, rfl⟩
    rcases (mem_set hk d).1 hd with rfl | ⟨q, hq, hq2⟩
    · by_cases e : j = i
      · left; rw [e]; rfl
      · right
        refine ⟨c, List.mem_of_getElem? hk, j, h1, ?_, rfl⟩
        have : (c.put i true).b j = c.b j := by show (if j = i then true else c.b j) = _; rw [if_neg e]
        rw [← this]
        exact h2
    · exact .inr ⟨d, List.mem_of_getElem? hq2, j, h1, h2, rfl⟩
  · rintro (rfl | ⟨d, hd, j, h1, h2, rfl⟩)
    · exact ⟨_, (mem_set hk _).2 (.inl rfl), i, hi, by show (if i = i then true else _) = true; rw [if_pos rfl], rfl⟩
    · obtain ⟨q, hq⟩ := List.mem_iff_getElem?.1 hd
      by_cases e : q = k
      · subst e
        rw [hk] at hq
        cases hq
        exact ⟨_, (mem_set hk _).2 (.inl rfl), j, h1, by show (if j = i then true else c.b j) = true; split; rfl; exact h2, rfl⟩
      · exact ⟨d, (mem_set hk _).2 (.inr ⟨q, e, hq⟩), j, h1, h2, rfl⟩
/-- A frame more, its first table in use. -/
theorem tabs_ins {cs : List Cut} (h : Srt cs) {f k : Nat} (hp : PosOf cs f k) (hne : ∀ c ∈ cs, c.f ≠ f) :
    (4 * (f : Int)) ∉ tabsL cs ∧ tabsL (cs.take k ++ [(⟨f, fun _ => false⟩ : Cut).put 0 true] ++ cs.drop k) = putL (tabsL cs) (4 * (f : Int)) := by
  have hn : (4 * (f : Int)) ∉ tabsL cs := fun hm => by
    obtain ⟨d, hd, j, h1, h2, h3⟩ := (mem_tabsL cs _).1 hm
    exact hne d hd (by omega)
  have hq := putL_ok (4 * (f : Int)) (inc_tabsL h) hn
  refine ⟨hn, inc_ext (inc_tabsL (srt_insert h hp hne _)) hq.1 (fun x => ?_)⟩
  rw [hq.2 x, mem_tabsL, mem_tabsL]
  have hmem : ∀ d : Cut, d ∈ cs.take k ++ [(⟨f, fun _ => false⟩ : Cut).put 0 true] ++ cs.drop k ↔ d = (⟨f, fun _ => false⟩ : Cut).put 0 true ∨ d ∈ cs := fun d => by
    have : d ∈ cs ↔ d ∈ cs.take k ∨ d ∈ cs.drop k := by rw [← List.mem_append, List.take_append_drop]
    rw [this]
    simp only [List.mem_append, List.mem_singleton]
    constructor
    · rintro ((h | h) | h)
      · exact .inr (.inl h)
      · exact .inl h
      · exact .inr (.inr h)
    · rintro (h | h | h)
      · exact .inl (.inr h)
      · exact .inl (.inl h)
      · exact .inr h
  constructor
  · rintro ⟨d, hd, j, h1, h2, rfl⟩
    rcases (hmem d).1 hd with rfl | hd
    · left
      have : j = 0 := by
        by_cases e : j = 0
        · exact e
        · exfalso
          have h3 : ((⟨f, fun _ => false⟩ : Cut).put 0 true).b j = false := by show (if j = 0 then true else false) = false; rw [if_neg e]
          rw [h3] at h2
          cases h2
      subst this
      show 4 * (f : Int) + ((0 : Nat) : Int) = _
      omega
    · exact .inr ⟨d, hd, j, h1, h2, rfl⟩
  · rintro (rfl | ⟨d, hd, j, h1, h2, rfl⟩)
    · refine ⟨_, (hmem _).2 (.inl rfl), 0, by omega, rfl, ?_⟩
      show _ = 4 * (f : Int) + ((0 : Nat) : Int)
      omega
    · exact ⟨d, (hmem _).2 (.inr hd), j, h1, h2, rfl⟩
end Go.Proofs.Ytplobjdghaokoab

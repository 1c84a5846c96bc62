import Derived.Test.YtplobjdghaokoaaMn
namespace Go.Proofs.Ytplobjdghaokoaa
open Go.RowKit
set_option linter.unusedVariables false

theorem set_ones1 {u : List Nat} {i x : Nat} (h : u[i]? = some x) : mdr (· - 1) u i 1 = u.set i (x - 1) := by
  have := mdr_succ (· - 1) u i 0 (x := x) (by simpa using h)
  rw [mdr_zero] at this
  simpa using this
theorem drop_one1 {f0 : Nat} {u : List Nat} {k x : Nat} (h : u[k]? = some x) (h0 : x ≠ 0) : (dropR f0 u ((f0 : Int) + k) 1).2.2 = u.set k (x - 1) := by
  have hl : k < u.length := (List.getElem?_eq_some_iff.1 h).1
  have e1 : ((f0 : Int) + k - f0).toNat = k := by omega
  have hz : anyZ u k 1 = false := (anyZ_false (by omega)).2 (fun i hi => ⟨x, by rw [show k + i = k by omega]; exact h, h0⟩)
  have hb : hasB f0 u ((f0 : Int) + k) 1 = true := decide_eq_true ⟨by omega, by omega⟩
  have hn : nameE f0 u ((f0 : Int) + k) 1 = 0 := by
    unfold nameE
    rw [if_neg (by omega), if_neg (by rw [hb]; simp), e1, show (1 : Int).toNat = 1 from rfl, hz]
    simp
  unfold dropR
  rw [if_neg (by simp [hn]), e1, show (1 : Int).toNat = 1 from rfl, set_ones1 h]
theorem zeros_all {u : List Nat} (h : zeros u = u.length) : u = List.replicate u.length 0 := by
  refine List.eq_replicate_iff.2 ⟨rfl, fun x hx => ?_⟩
  unfold zeros at h
  have := List.countP_eq_length.1 h x hx
  simpa using this

/-- Two slabs over one pool that nobody else has taken of. -/
structure Tv (f0 n : Nat) (u : List Nat) (cs : Nat → List Cut) : Prop where
  one : ∀ i, i < 2 → ∀ c ∈ cs i, f0 ≤ c.f ∧ u[c.f - f0]? = some 1
  dis : ∀ i j, i < 2 → j < 2 → i ≠ j → ∀ c ∈ cs i, ∀ d ∈ cs j, c.f ≠ d.f
  sum : zeros u + (cs 0).length + (cs 1).length = n
  len : u.length = n
theorem Tv.used {f0 n : Nat} {u : List Nat} {cs : Nat → List Cut} (h : Tv f0 n u cs) {i : Nat} (hi : i < 2) : Used f0 u (cs i) := fun c hc => ⟨(h.one i hi c hc).1, 1, (h.one i hi c hc).2, by simp⟩
theorem Tv.upd {f0 n : Nat} {u u' : List Nat} {cs : Nat → List Cut} {cs' : List Cut} (h : Tv f0 n u cs) {i : Nat} (hi : i < 2) (h1 : ∀ c ∈ cs', f0 ≤ c.f ∧ u'[c.f - f0]? = some 1)
    (h2 : ∀ j, j < 2 → j ≠ i → ∀ c ∈ cs j, u'[c.f - f0]? = some 1) (h3 : ∀ c ∈ cs', ∀ j, j < 2 → j ≠ i → ∀ d ∈ cs j, c.f ≠ d.f) (h4 : zeros u' + cs'.length = zeros u + (cs i).length) (h5 : u'.length = u.length) : Tv f0 n u' (up cs i cs') := by
  refine ⟨fun j hj => ?_, fun j k hj hk hjk => ?_, ?_, by rw [h5]; exact h.len⟩
  · by_cases e : j = i
    · subst e; rw [up_same]; exact h1
    · rw [up_other _ _ e]; exact fun c hc => ⟨(h.one j hj c hc).1, h2 j hj e c hc⟩
  · by_cases e : j = i
    · subst e
      rw [up_same, up_other _ _ (Ne.symm hjk)]
      exact fun c hc d hd => h3 c hc k hk (Ne.symm hjk) d hd
    · rw [up_other _ _ e]
      by_cases e2 : k = i
      · subst e2
        rw [up_same]
        exact fun c hc d hd => Ne.symm (h3 d hd j hj hjk c hc)
      · rw [up_other _ _ e2]
        exact h.dis j k hj hk hjk
  · have := h.sum
    rcases (show i = 0 ∨ i = 1 by omega) with rfl | rfl
    · rw [up_same, up_other _ _ (by omega)]; omega
    · rw [up_same, up_other _ _ (by omega)]; omega
theorem Tv.slT {f0 n : Nat} {u u' : List Nat} {cs : Nat → List Cut} {cs' : List Cut} {r e : Int} (h : Tv f0 n u cs) {i : Nat} (hi : i < 2) (ht : SlT f0 u (cs i) r e u' cs') : Tv f0 n u' (up cs i cs') := by
  rcases ht with ⟨k, c, b, a1, a2, a3, rfl, rfl, rfl, rfl⟩ | ⟨a1, a2, rfl, rfl, rfl, rfl⟩ | ⟨t, k, a1, a2, a3, rfl, rfl, rfl, rfl⟩
  · have hm : ∀ d ∈ (cs i).set k (c.put b true), ∃ c ∈ cs i, c.f = d.f := fun d hd => by
      rcases (mem_set a1 d).1 hd with rfl | ⟨j, _, hj⟩
      · exact ⟨c, List.mem_of_getElem? a1, rfl⟩
      · exact ⟨d, List.mem_of_getElem? hj, rfl⟩
    refine h.upd hi (fun d hd => ?_) (fun j hj _ d hd => (h.one j hj d hd).2) (fun d hd j hj hji x hx => ?_) (by rw [List.length_set]) rfl
    · obtain ⟨c1, hc1, e1⟩ := hm d hd
      rw [← e1]; exact h.one i hi c1 hc1
    · obtain ⟨c1, hc1, e1⟩ := hm d hd
      rw [← e1]; exact h.dis i j hi hj (Ne.symm hji) c1 hc1 x hx
  · exact h.upd hi (h.one i hi) (fun j hj _ d hd => (h.one j hj d hd).2) (fun d hd j hj hji x hx => h.dis i j hi hj (Ne.symm hji) d hd x hx) rfl rfl
  · obtain ⟨ht0, htl⟩ := tk_free a2
    have hold : ∀ j, j < 2 → ∀ d ∈ cs j, (mdr (fun _ => 1) u t 1)[d.f - f0]? = some 1 ∧ d.f ≠ f0 + t := fun j hj d hd => by
      obtain ⟨g1, g2⟩ := h.one j hj d hd
      have hne : d.f - f0 ≠ t := fun e => by rw [e, ht0] at g2; cases g2
      exact ⟨by rw [mdr_out _ _ _ _ _ (by omega)]; exact g2, by omega⟩
    refine h.upd hi (fun d hd => ?_) (fun j hj _ d hd => (hold j hj d hd).1) (fun d hd j hj hji x hx => ?_) ?_ (mdr_len _ _ _ _)
    · rcases mem_ins hd with rfl | hd
      · refine ⟨Nat.le_add_right _ _, ?_⟩
        show (mdr (fun _ => 1) u t 1)[f0 + t - f0]? = some 1
        rw [Nat.add_sub_cancel_left]
        exact mdr_in _ u t 1 t 0 ht0 (Nat.le_refl _) (by omega)
      · exact ⟨(h.one i hi d hd).1, (hold i hi d hd).1⟩
    · rcases mem_ins hd with rfl | hd
      · exact fun e => (hold j hj x hx).2 e.symm
      · exact h.dis i j hi hj (Ne.symm hji) d hd x hx
    · have hz := zeros_take_one u t 1 (fun q hq => by rw [show t + q = t by omega]; exact ht0)
      have hk := a3.1
      simp only [List.length_append, List.length_take, List.length_drop, List.length_singleton]
      omega
theorem Tv.slD {f0 n : Nat} {u u' : List Nat} {cs : Nat → List Cut} {cs' : List Cut} {t e : Int} (h : Tv f0 n u cs) {i : Nat} (hi : i < 2) (hs : Srt (cs i)) (ht : SlD f0 u (cs i) t e u' cs') : Tv f0 n u' (up cs i cs') := by
  rcases ht with ⟨k, c, b, a1, a2, a3, rfl, rfl, a4⟩ | ⟨a1, rfl, rfl, rfl⟩
  · rcases a4 with ⟨a4, rfl, rfl⟩ | ⟨a4, rfl, rfl⟩
    · have hm : ∀ d ∈ (cs i).set k (c.put b false), ∃ c ∈ cs i, c.f = d.f := fun d hd => by
        rcases (mem_set a1 d).1 hd with rfl | ⟨j, _, hj⟩
        · exact ⟨c, List.mem_of_getElem? a1, rfl⟩
        · exact ⟨d, List.mem_of_getElem? hj, rfl⟩
      refine h.upd hi (fun d hd => ?_) (fun j hj _ d hd => (h.one j hj d hd).2) (fun d hd j hj hji x hx => ?_) (by rw [List.length_set]) rfl
      · obtain ⟨c1, hc1, e1⟩ := hm d hd
        rw [← e1]; exact h.one i hi c1 hc1
      · obtain ⟨c1, hc1, e1⟩ := hm d hd
        rw [← e1]; exact h.dis i j hi hj (Ne.symm hji) c1 hc1 x hx
    · have hcm := List.mem_of_getElem? a1
      obtain ⟨g1, g2⟩ := h.one i hi c hcm
      have hd := drop_one1 (f0 := f0) g2 (by simp)
      rw [show (f0 : Int) + ((c.f - f0 : Nat) : Int) = (c.f : Int) by omega] at hd
      rw [hd]
      have hold : ∀ j, j < 2 → ∀ d ∈ cs j, d.f ≠ c.f → (u.set (c.f - f0) (1 - 1))[d.f - f0]? = some 1 := fun j hj d hd hne => by
        obtain ⟨k1, k2⟩ := h.one j hj d hd
        rw [List.getElem?_set_ne (by omega)]
        exact k2
      have hkl : k < (cs i).length := (List.getElem?_eq_some_iff.1 a1).1
      refine h.upd hi (fun d hd => ?_) (fun j hj hji d hd => hold j hj d hd (Ne.symm (h.dis i j hi hj (Ne.symm hji) c hcm d hd))) (fun d hd j hj hji x hx => h.dis i j hi hj (Ne.symm hji) d (mem_eraseIdx hd) x hx) ?_ (by rw [List.length_set])
      · obtain ⟨q, hq, hq2⟩ := List.mem_eraseIdx_iff_getElem?.1 hd
        have hdm := List.mem_of_getElem? hq2
        exact ⟨(h.one i hi d hdm).1, hold i hi d hdm (fun e => hq (srt_unique hs hq2 a1 e))⟩
      · have hz := zeros_set u (c.f - f0) (1 - 1) 1 g2
        simp only [show (1 : Nat) - 1 = 0 from rfl] at hz ⊢
        rw [List.length_eraseIdx, if_pos hkl]
        simp at hz
        omega
  · exact h.upd hi (h.one i hi) (fun j hj _ d hd => (h.one j hj d hd).2) (fun d hd j hj hji x hx => h.dis i j hi hj (Ne.symm hji) d hd x hx) rfl rfl
theorem slD_tabs {f0 : Nat} {u u' : List Nat} {cs cs' : List Cut} {t e : Int} (hs : Srt cs) (ht : SlD f0 u cs t e u' cs') : (t ∈ tabsL cs → e = 0) ∧ (t ∉ tabsL cs → e = 45) ∧ tabsL cs' = rmL (tabsL cs) t := by
  rcases ht with ⟨k, c, b, a1, a2, a3, rfl, rfl, a4⟩ | ⟨a1, rfl, rfl, rfl⟩
  · have hm : 4 * (c.f : Int) + b ∈ tabsL cs := (mem_tabsL cs _).2 ⟨c, List.mem_of_getElem? a1, b, a2, a3, rfl⟩
    refine ⟨fun _ => rfl, fun h => absurd hm h, ?_⟩
    rcases a4 with ⟨a4, rfl, rfl⟩ | ⟨a4, rfl, rfl⟩
    · rw [rm_set hs a1 a2]
    · rw [rm_erase hs a1 a2 a4]
  · have hn : t ∉ tabsL cs' := fun hm => by
      obtain ⟨c, hc, i, h1, h2, h3⟩ := (mem_tabsL cs' t).1 hm
      exact a1 c hc i h1 h2 h3
    refine ⟨fun h => absurd h hn, fun _ => rfl, ?_⟩
    unfold rmL
    rw [List.filter_eq_self.2]
    intro x hx
    exact decide_eq_true (fun e => hn (by rw [← e]; exact hx))
theorem rmL_len1 {T : List Int} {t : Int} (h : Inc T) (ht : t ∈ T) : (rmL T t).length + 1 = T.length := by
  induction T with
  | nil => cases ht
  | cons x r ih =>
    unfold Inc at h
    rw [List.pairwise_cons] at h
    by_cases e : x = t
    · subst e
      have : rmL (x :: r) x = r := by
        unfold rmL
        rw [List.filter_cons, if_neg (by simp), List.filter_eq_self.2]
        intro y hy
        have := h.1 y hy
        exact decide_eq_true (by omega)
      rw [this]; rfl
    · have hr : t ∈ r := by
        rcases List.mem_cons.1 ht with e2 | e2
        · exact absurd e2.symm e
        · exact e2
      have : rmL (x :: r) t = x :: rmL r t := by
        unfold rmL
        rw [List.filter_cons, if_pos (by simpa using e)]
      rw [this, List.length_cons, List.length_cons, ih h.2 hr]
theorem rmL_head {x : Int} {T : List Int} (h : Inc (x :: T)) : rmL (x :: T) x = T := by
  unfold Inc at h
  rw [List.pairwise_cons] at h
  unfold rmL
  rw [List.filter_cons, if_neg (by simp), List.filter_eq_self.2]
  intro y hy
  have := h.1 y hy
  exact decide_eq_true (by omega)
theorem rmL_drop {L : List Int} {i : Nat} {x : Int} (h : Inc L) (hx : L[i]? = some x) : rmL (L.drop i) x = L.drop (i + 1) := by
  obtain ⟨hl, rfl⟩ := List.getElem?_eq_some_iff.1 hx
  have e : L.drop i = L[i] :: L.drop (i + 1) := List.drop_eq_getElem_cons hl
  rw [e]
  refine rmL_head ?_
  rw [← e]
  exact List.Pairwise.sublist (List.drop_sublist _ _) h

/-! ### the table that is given -/
def Fst (L : List Int) (j k : Nat) (x : Int) : Prop := ∃ y : Int, L[j]? = some y ∧ k < 4 ∧ x = 4 * (y / 4) + k ∧ x ∉ L ∧ (∀ q : Nat, q < k → 4 * (y / 4) + (q : Int) ∈ L) ∧ ∀ (i : Nat) (z : Int), i < j → L[i]? = some z → ∀ q : Nat, q < 4 → 4 * (z / 4) + (q : Int) ∈ L
def Full (L : List Int) : Prop := ∀ y ∈ L, ∀ q : Nat, q < 4 → 4 * (y / 4) + (q : Int) ∈ L
def Gv (L T : List Int) (t g now ahead : Int) : Prop :=
  (∃ j k, Fst L j k t ∧ g = 0 ∧ now = ahead ∧ t ∈ T) ∨ (Full L ∧ ahead = 0 ∧ g = 42 ∧ t = 0 ∧ T = L) ∨ (Full L ∧ 0 < ahead ∧ g = 0 ∧ t % 4 = 0 ∧ 0 ≤ t ∧ now = ahead - 1 ∧ t ∉ L ∧ t ∈ T)
theorem div4 (f i : Nat) (h : i < 4) : (4 * (f : Int) + i) / 4 = f := by omega
theorem tabsL_split {cs : List Cut} {k : Nat} {c : Cut} (h : cs[k]? = some c) : tabsL cs = tabsL (cs.take k) ++ (c.tabs ++ tabsL (cs.drop (k + 1))) := by
  rw [← List.append_assoc, ← tabsL_take cs h]
  unfold tabsL
  rw [← List.flatMap_append, List.take_append_drop]
theorem full_bits {cs : List Cut} {d : Cut} (hd : d ∈ cs) (hf : d.left = -1) {q : Nat} (hq : q < 4) : 4 * (d.f : Int) + (q : Int) ∈ tabsL cs := (mem_tabsL cs _).2 ⟨d, hd, q, hq, Cut.left_full.1 hf q hq, rfl⟩
theorem fst_of {cs : List Cut} (hs : Srt cs) (ha : ∀ c ∈ cs, c.any = true) {k : Nat} {c : Cut} {i : Nat} (hk : cs[k]? = some c) (h1 : ∀ (j : Nat) (d : Cut), j < k → cs[j]? = some d → d.left = -1) (h2 : c.left = i) : ∃ j, Fst (tabsL cs) j i (4 * (c.f : Int) + i) := by
  obtain ⟨g1, g2, g3⟩ := Cut.left_at h2
  have hcm := List.mem_of_getElem? hk
  obtain ⟨y, r, hy⟩ : ∃ y r, c.tabs = y :: r := by
    cases e : c.tabs with
    | nil => exact absurd e (tabs_ne (ha c hcm))
    | cons y r => exact ⟨y, r, rfl⟩
  have hyt : y ∈ c.tabs := by rw [hy]; simp
  obtain ⟨b, hb1, hb2, hb3⟩ := (mem_tabsTo c 4 y).1 hyt
  have hy4 : y / 4 = (c.f : Int) := by rw [hb3]; exact div4 _ _ hb1
  refine ⟨(tabsL (cs.take k)).length, y, ?_, g1, by rw [hy4], fun hm => ?_, fun q hq => ?_, fun j z hj hz q hq => ?_⟩
  · rw [tabsL_split hk, List.getElem?_append_right (Nat.le_refl _), Nat.sub_self, hy]
    rfl
  · obtain ⟨d, hd, q, q1, q2, q3⟩ := (mem_tabsL cs _).1 hm
    obtain ⟨p, hp⟩ := List.mem_iff_getElem?.1 hd
    obtain rfl : p = k := srt_unique hs hp hk (by omega)
    rw [hk] at hp
    cases hp
    obtain rfl : i = q := by omega
    rw [g2] at q2
    cases q2
  · rw [hy4]
    exact (mem_tabsL cs _).2 ⟨c, hcm, q, by omega, g3 q hq, rfl⟩
  · rw [tabsL_split hk, List.getElem?_append_left hj] at hz
    obtain ⟨d, hd, p, p1, p2, rfl⟩ := (mem_tabsL _ z).1 (List.mem_of_getElem? hz)
    obtain ⟨m, hm⟩ := List.mem_iff_getElem?.1 hd
    rw [List.getElem?_take] at hm
    split at hm
    · rename_i hmk
      rw [div4 _ _ p1]
      exact full_bits (List.mem_of_getElem? hm) (h1 m d hmk hm) hq
    · cases hm
theorem full_of {cs : List Cut} (h : ∀ c ∈ cs, c.left = -1) : Full (tabsL cs) := fun y hy q hq => by
  obtain ⟨d, hd, p, p1, p2, rfl⟩ := (mem_tabsL cs y).1 hy
  rw [div4 _ _ p1]
  exact full_bits hd (h d hd) hq
theorem tk_zero {f0 : Nat} {u : List Nat} (h : tk f0 u 1 1 = none) : zeros u = 0 := by
  by_cases hz : zeros u = 0
  · exact hz
  · exfalso
    obtain ⟨x, hx, h0⟩ := List.countP_pos_iff.1 (show 0 < zeros u by omega)
    obtain ⟨i, hi⟩ := List.mem_iff_getElem?.1 hx
    obtain rfl : x = 0 := by simpa using h0
    have hl := (List.getElem?_eq_some_iff.1 hi).1
    exact tk_none.1 h i ⟨Nat.mod_one _, by omega, fun q hq => by rw [show i + q = i by omega]; exact hi⟩
theorem gv_of {f0 : Nat} {u u' : List Nat} {cs cs' : List Cut} {r e : Int} (hs : Srt cs) (ha : ∀ c ∈ cs, c.any = true) (hU : Used f0 u cs) (ht : SlT f0 u cs r e u' cs') : Gv (tabsL cs) (tabsL cs') r e (zeros u') (zeros u) := by
  rcases ht with ⟨k, c, b, a1, a2, a3, rfl, rfl, rfl, rfl⟩ | ⟨a1, a2, rfl, rfl, rfl, rfl⟩ | ⟨t, k, a1, a2, a3, rfl, rfl, rfl, rfl⟩
  · obtain ⟨j, hj⟩ := fst_of hs ha a1 a2 a3
    refine .inl ⟨j, b, hj, rfl, rfl, ?_⟩
    exact (mem_tabsL _ _).2 ⟨_, (mem_set a1 _).2 (.inl rfl), b, (Cut.left_at a3).1, by rw [put_b, if_pos rfl], rfl⟩
  · exact .inr (.inl ⟨full_of a1, by rw [tk_zero a2]; rfl, rfl, rfl, rfl⟩)
  · obtain ⟨ht0, htl⟩ := tk_free a2
    have hz := zeros_take_one u t 1 (fun q hq => by rw [show t + q = t by omega]; exact ht0)
    have hp := zeros_pos ht0
    refine .inr (.inr ⟨full_of a1, by omega, rfl, by omega, by omega, by omega, fun hm => ?_, ?_⟩)
    · obtain ⟨d, hd, p, p1, p2, p3⟩ := (mem_tabsL cs _).1 hm
      exact used_new hU a2 d hd (by omega)
    · refine (mem_tabsL _ _).2 ⟨(⟨f0 + t, fun _ => false⟩ : Cut).put 0 true, by simp, 0, by omega, rfl, ?_⟩
      show _ = 4 * ((f0 + t : Nat) : Int) + ((0 : Nat) : Int)
      omega

/-! ### frames and their tables -/
theorem base_succ {cs : List Cut} {k : Nat} {c : Cut} (h : cs[k]? = some c) : (tabsL (cs.take (k + 1))).length = (tabsL (cs.take k)).length + c.tabs.length := by rw [tabsL_take cs h, List.length_append]
theorem fit_in {cs : List Cut} {k : Nat} {c : Cut} (h : cs[k]? = some c) {m : Nat} (hm : m < c.tabs.length) : ∃ y, (tabsL cs)[(tabsL (cs.take k)).length + m]? = some y ∧ y / 4 = (c.f : Int) := by
  obtain ⟨y, hy⟩ : ∃ y, c.tabs[m]? = some y := ⟨_, List.getElem?_eq_getElem hm⟩
  obtain ⟨b, hb1, hb2, hb3⟩ := (mem_tabsTo c 4 y).1 (List.mem_of_getElem? hy)
  refine ⟨y, ?_, by rw [hb3]; exact div4 _ _ hb1⟩
  rw [tabsL_split h, List.getElem?_append_right (by omega), Nat.add_sub_cancel_left, List.getElem?_append_left hm]
  exact hy
theorem fit_out {cs : List Cut} (hs : Srt cs) {k : Nat} {c : Cut} (h : cs[k]? = some c) {y : Int} (hy : (tabsL cs)[(tabsL (cs.take k)).length + c.tabs.length]? = some y) : y / 4 ≠ (c.f : Int) := by
  rw [tabsL_split h, List.getElem?_append_right (by omega), Nat.add_sub_cancel_left, List.getElem?_append_right (Nat.le_refl _)] at hy
  obtain ⟨d, hd, p, p1, p2, rfl⟩ := (mem_tabsL _ y).1 (List.mem_of_getElem? hy)
  rw [div4 _ _ p1]
  obtain ⟨m, hm⟩ := List.mem_iff_getElem?.1 hd
  rw [List.getElem?_drop] at hm
  have := srt_at hs h hm (by omega)
  omega
theorem fit_le {cs : List Cut} (k : Nat) : (tabsL (cs.take k)).length ≤ (tabsL cs).length := by
  conv => rhs; rw [← List.take_append_drop k cs]
  unfold tabsL
  rw [List.flatMap_append, List.length_append]
  omega
theorem inc_at {l : List Int} (h : Inc l) {i j : Nat} {x y : Int} (hi : l[i]? = some x) (hj : l[j]? = some y) (hij : i < j) : x < y := by
  obtain ⟨a1, rfl⟩ := List.getElem?_eq_some_iff.1 hi
  obtain ⟨b1, rfl⟩ := List.getElem?_eq_some_iff.1 hj
  exact List.pairwise_iff_getElem.1 h i j a1 b1 hij
theorem inc_framesL {cs : List Cut} (h : Srt cs) : Inc (framesL cs) := by
  unfold Inc framesL
  rw [List.pairwise_map]
  exact h.imp (fun {a b} hab => by omega)
end Go.Proofs.Ytplobjdghaokoaa

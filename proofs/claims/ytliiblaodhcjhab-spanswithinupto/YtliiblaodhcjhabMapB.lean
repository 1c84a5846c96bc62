import Derived.Test.YtliiblaodhcjhabMap
namespace Go.Proofs.Ytliiblaodhcjhab
open Go.RowKit
set_option linter.unusedVariables false

section
variable {α : Type}
theorem good_lt {L : List (Sp α)} {c : Int} {u : Option α} (h : Good c u L) {a b : Nat} {s t : Sp α} (ha : L[a]? = some s) (hb : L[b]? = some t) (hab : a < b) : s.hi < t.lo := by
  induction L generalizing c u a b with
  | nil => simp at ha
  | cons x r ih =>
    obtain ⟨h1, h2, h3, h4, h5⟩ := h
    cases b with
    | zero => omega
    | succ b =>
      cases a with
      | zero =>
        simp at ha hb
        subst ha
        have := good_lo h5 t (List.mem_of_getElem? hb)
        omega
      | succ a => exact ih h5 (by simpa using ha) (by simpa using hb) (by omega)

theorem countP_cut (L : List α) (f : α → Bool) (c : Nat) (hc : c ≤ L.length) (h1 : ∀ t s, t < c → L[t]? = some s → f s = true) (h2 : ∀ t s, c ≤ t → L[t]? = some s → f s = false) : L.countP f = c := by
  have e : L = L.take c ++ L.drop c := (List.take_append_drop c L).symm
  rw [e, List.countP_append]
  have e1 : (L.take c).countP f = c := by
    rw [List.countP_eq_length.2, List.length_take, Nat.min_eq_left hc]
    intro s hs
    obtain ⟨t, ht⟩ := List.mem_iff_getElem?.1 hs
    rw [List.getElem?_take] at ht
    split at ht
    · exact h1 t s (by assumption) ht
    · cases ht
  have e2 : (L.drop c).countP f = 0 := by
    rw [List.countP_eq_zero]
    intro s hs
    obtain ⟨t, ht⟩ := List.mem_iff_getElem?.1 hs
    rw [List.getElem?_drop] at ht
    rw [h2 (c + t) s (by omega) ht]
    simp
  omega

/-- The tests of the two searches. -/
def pEnd (L : List (Sp α)) (k : Int) (t : Nat) : Bool := match L[t]? with | some s => decide (k ≤ s.hi) | none => true
def pSta (L : List (Sp α)) (k : Int) (t : Nat) : Bool := match L[t]? with | some s => decide (k < s.lo) | none => true

theorem pEnd_mono {L : List (Sp α)} {c : Int} {u : Option α} (h : Good c u L) (k : Int) : ∀ a b, a ≤ b → b < L.length → pEnd L k a = true → pEnd L k b = true := by
  intro a b hab hb hp
  obtain ⟨s, hs⟩ : ∃ s, L[a]? = some s := ⟨_, List.getElem?_eq_getElem (by omega)⟩
  obtain ⟨t, ht⟩ : ∃ t, L[b]? = some t := ⟨_, List.getElem?_eq_getElem hb⟩
  rcases Nat.lt_or_ge a b with hlt | hge
  · have h1 := good_lt h hs ht hlt
    have h2 := (good_lo h t (List.mem_of_getElem? ht)).2.1
    simp only [pEnd, hs, ht, decide_eq_true_eq] at hp ⊢
    omega
  · obtain rfl : a = b := by omega
    exact hp
theorem pSta_mono {L : List (Sp α)} {c : Int} {u : Option α} (h : Good c u L) (k : Int) : ∀ a b, a ≤ b → b < L.length → pSta L k a = true → pSta L k b = true := by
  intro a b hab hb hp
  obtain ⟨s, hs⟩ : ∃ s, L[a]? = some s := ⟨_, List.getElem?_eq_getElem (by omega)⟩
  obtain ⟨t, ht⟩ : ∃ t, L[b]? = some t := ⟨_, List.getElem?_eq_getElem hb⟩
  rcases Nat.lt_or_ge a b with hlt | hge
  · have h1 := good_lt h hs ht hlt
    have h2 := (good_lo h s (List.mem_of_getElem? hs)).2.1
    simp only [pSta, hs, ht, decide_eq_true_eq] at hp ⊢
    omega
  · obtain rfl : a = b := by omega
    exact hp

theorem ei_of {L : List (Sp α)} {k : Int} {c : Nat} (hc : c ≤ L.length) (h1 : ∀ t, t < c → pEnd L k t = false) (h2 : ∀ t, c ≤ t → t < L.length → pEnd L k t = true) : ei L k = c := by
  refine countP_cut L _ c hc (fun t s ht hs => ?_) (fun t s ht hs => ?_)
  · have := h1 t ht
    simp only [pEnd, hs] at this
    simp [this]
  · have := h2 t ht (List.getElem?_eq_some_iff.1 hs).1
    simp only [pEnd, hs] at this
    simp [this]
theorem sa_of {L : List (Sp α)} {k : Int} {c : Nat} (hc : c ≤ L.length) (h1 : ∀ t, t < c → pSta L k t = false) (h2 : ∀ t, c ≤ t → t < L.length → pSta L k t = true) : sa L k = c := by
  refine countP_cut L _ c hc (fun t s ht hs => ?_) (fun t s ht hs => ?_)
  · have := h1 t ht
    simp only [pSta, hs] at this
    simp [this]
  · have := h2 t ht (List.getElem?_eq_some_iff.1 hs).1
    simp only [pSta, hs] at this
    simp [this]
end

theorem cell_new (W : World) (v : Value) (t : TypeId) : (W.alloc (.cells #[v] t)).cell? ⟨W.heap.size, 0, none⟩ = some v := by
  rw [World.cell?_alloc_at _ _ _ _ (by simp)]; rfl

set_option maxHeartbeats 4000000 in
set_option maxRecDepth 100000 in
theorem ends_any (W : World) (lo p : Nat) (v : Value) (L : List (Sp Int)) (k : Int) (h : MapAt W lo p v L) (hsz : L.length < 4611686018427387904) :
    Calls Try.prog 40 #[.pointer (some ⟨p, 0, none⟩), .int .u64 k] W fun e W' => e = .returned (.int .i64 (ei L k)) ∧ Below W.heap.size W W' := by
  obtain ⟨W0, hW0⟩ : ∃ W0, W0 = (W.alloc (.cells #[.pointer (some ⟨p, 0, none⟩)] 24)).alloc (.cells #[.int .u64 k] 23) := ⟨_, rfl⟩
  have hB0 : Below W.heap.size W W0 := by rw [hW0]; exact ((Below.refl _ W).alloc (Nat.le_refl _) _).alloc (by simp) _
  have hb1 : W0.cell? ⟨W.heap.size, 0, none⟩ = some (.pointer (some ⟨p, 0, none⟩)) := by
    have hc1 : Below (W.heap.size + 1) (W.alloc (.cells #[.pointer (some ⟨p, 0, none⟩)] 24)) W0 := by rw [hW0]; exact (Below.refl _ _).alloc (by simp) _
    rw [hc1.cell (p := ⟨W.heap.size, 0, none⟩) (by simp)]; exact cell_new _ _ _
  have hb2 : W0.cell? ⟨W.heap.size + 1, 0, none⟩ = some (.int .u64 k) := by
    rw [hW0]
    have := cell_new (W.alloc (.cells #[.pointer (some ⟨p, 0, none⟩)] 24)) (.int .u64 k) 23
    rwa [World.size_alloc] at this
  have h0 := h.keep hB0
  have eg : ∀ args w, (callFunc 56 args).run Try.prog w = .ok (.enter 56 args) w := enters_of Try.func56 (by kernel_rfl) rfl
  have hS := search_any 56 #[.pointer (some ⟨W.heap.size, 0, none⟩), .pointer (some ⟨W.heap.size + 1, 0, none⟩)] L.length (pEnd L k) W0 eg hsz
    (fun q i hi => by
      obtain ⟨s, hs⟩ : ∃ s, L[i]? = some s := ⟨_, List.getElem?_eq_getElem hi⟩
      rcases h0.own.view with ⟨_, rfl⟩ | ⟨g, cap, rfl, hg1, hg2, hcap, hcap2, hcell⟩
      · simp at hi
      have := ends_closure W.heap.size (W.heap.size + 1) p g cap i L.length s.hi k (W0.drewN q) hb1 hb2 h0.cell hi (hcell i s hs 1 (by omega))
      refine this.mono ?_
      rintro e w' ⟨rfl, q', rfl⟩
      exact ⟨by simp only [pEnd, hs], q + q', by rw [drewN_drewN']⟩) (pEnd_mono h.good k)
  have hcell := h0.cell
  clear hb1 hb2
  obtain ⟨a, cap, hv⟩ : ∃ a cap, v = .slice a L.length cap := by
    rcases h0.own.view with ⟨rfl, rfl⟩ | ⟨g, cap, rfl, _⟩
    · exact ⟨_, _, rfl⟩
    · exact ⟨_, _, rfl⟩
  subst hv
  have hcW : W.cell? ⟨p, 0, none⟩ = some (.slice a L.length cap) := h.cell
  have hlt := h.lt
  go_enter Try.func40, Try.ntmps40
  go_wp2_with (go_at_call 55; rw [← hW0]; refine hS.mono ?_; rintro e w' ⟨c, rfl, ⟨hc1, hc2, hc3⟩, q, rfl⟩)
  go_ret
  refine ⟨?_, ?_⟩
  · rw [ei_of hc1 hc2 hc3]; rfl
  · rw [← hW0]
    exact hB0.trans (grown_below (grownBy_drewN W0 none q) |>.mono hB0.size)

set_option maxHeartbeats 4000000 in
set_option maxRecDepth 100000 in
theorem starts_any (W : World) (lo p : Nat) (v : Value) (L : List (Sp Int)) (k : Int) (h : MapAt W lo p v L) (hsz : L.length < 4611686018427387904) :
    Calls Try.prog 41 #[.pointer (some ⟨p, 0, none⟩), .int .u64 k] W fun e W' => e = .returned (.int .i64 (sa L k)) ∧ Below W.heap.size W W' := by
  obtain ⟨W0, hW0⟩ : ∃ W0, W0 = (W.alloc (.cells #[.pointer (some ⟨p, 0, none⟩)] 24)).alloc (.cells #[.int .u64 k] 23) := ⟨_, rfl⟩
  have hB0 : Below W.heap.size W W0 := by rw [hW0]; exact ((Below.refl _ W).alloc (Nat.le_refl _) _).alloc (by simp) _
  have hb1 : W0.cell? ⟨W.heap.size, 0, none⟩ = some (.pointer (some ⟨p, 0, none⟩)) := by
    have hc1 : Below (W.heap.size + 1) (W.alloc (.cells #[.pointer (some ⟨p, 0, none⟩)] 24)) W0 := by rw [hW0]; exact (Below.refl _ _).alloc (by simp) _
    rw [hc1.cell (p := ⟨W.heap.size, 0, none⟩) (by simp)]; exact cell_new _ _ _
  have hb2 : W0.cell? ⟨W.heap.size + 1, 0, none⟩ = some (.int .u64 k) := by
    rw [hW0]
    have := cell_new (W.alloc (.cells #[.pointer (some ⟨p, 0, none⟩)] 24)) (.int .u64 k) 23
    rwa [World.size_alloc] at this
  have h0 := h.keep hB0
  have eg : ∀ args w, (callFunc 57 args).run Try.prog w = .ok (.enter 57 args) w := enters_of Try.func57 (by kernel_rfl) rfl
  have hS := search_any 57 #[.pointer (some ⟨W.heap.size, 0, none⟩), .pointer (some ⟨W.heap.size + 1, 0, none⟩)] L.length (pSta L k) W0 eg hsz
    (fun q i hi => by
      obtain ⟨s, hs⟩ : ∃ s, L[i]? = some s := ⟨_, List.getElem?_eq_getElem hi⟩
      rcases h0.own.view with ⟨_, rfl⟩ | ⟨g, cap, rfl, hg1, hg2, hcap, hcap2, hcell⟩
      · simp at hi
      have := starts_closure W.heap.size (W.heap.size + 1) p g cap i L.length s.lo k (W0.drewN q) hb1 hb2 h0.cell hi (hcell i s hs 0 (by omega))
      refine this.mono ?_
      rintro e w' ⟨rfl, q', rfl⟩
      exact ⟨by simp only [pSta, hs], q + q', by rw [drewN_drewN']⟩) (pSta_mono h.good k)
  have hcell := h0.cell
  clear hb1 hb2
  obtain ⟨a, cap, hv⟩ : ∃ a cap, v = .slice a L.length cap := by
    rcases h0.own.view with ⟨rfl, rfl⟩ | ⟨g, cap, rfl, _⟩
    · exact ⟨_, _, rfl⟩
    · exact ⟨_, _, rfl⟩
  subst hv
  have hcW : W.cell? ⟨p, 0, none⟩ = some (.slice a L.length cap) := h.cell
  have hlt := h.lt
  go_enter Try.func41, Try.ntmps41
  go_wp2_with (go_at_call 55; rw [← hW0]; refine hS.mono ?_; rintro e w' ⟨c, rfl, ⟨hc1, hc2, hc3⟩, q, rfl⟩)
  go_ret
  refine ⟨?_, ?_⟩
  · rw [sa_of hc1 hc2 hc3]; rfl
  · rw [← hW0]
    exact hB0.trans (grown_below (grownBy_drewN W0 none q) |>.mono hB0.size)
end Go.Proofs.Ytliiblaodhcjhab

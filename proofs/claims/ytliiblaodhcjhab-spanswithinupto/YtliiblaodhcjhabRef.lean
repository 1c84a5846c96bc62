import Derived.Test.YtliiblaodhcjhabPut
namespace Go.Proofs.Ytliiblaodhcjhab
open Go.RowKit
set_option linter.unusedVariables false

theorem cat_len {α : Type} (enc : α → List Value) (K : Nat) (hK : ∀ x, (enc x).length = K) (L : List α) : (L.flatMap enc).length = L.length * K := by
  induction L with
  | nil => simp
  | cons s r ih => rw [List.flatMap_cons, List.length_append, hK, ih, List.length_cons, Nat.add_mul, Nat.one_mul, Nat.add_comm]
theorem cat_at {α : Type} (enc : α → List Value) (K : Nat) (hK : ∀ x, (enc x).length = K) {L : List α} {i : Nat} {s : α} (h : L[i]? = some s) (j : Nat) (hj : j < K) : (L.flatMap enc)[i * K + j]? = (enc s)[j]? := by
  induction L generalizing i with
  | nil => simp at h
  | cons t r ih =>
    rw [List.flatMap_cons]
    cases i with
    | zero =>
      simp at h
      subst h
      rw [Nat.zero_mul, Nat.zero_add, List.getElem?_append_left (by rw [hK]; exact hj)]
    | succ i =>
      rw [List.getElem?_append_right (by rw [hK, Nat.add_mul]; omega), hK, show (i + 1) * K + j - K = i * K + j by rw [Nat.add_mul]; omega]
      exact ih (by simpa using h)

def encD (d : Dn) : List Value := [.int .u64 d.lo, .int .u64 d.hi, .bool d.has, .int .i64 d.val]
theorem encD_one (D : List Dn) : ∀ u ∈ D.flatMap encD, u.oneCell' = true := by
  intro u hu
  obtain ⟨s, _, hs⟩ := List.mem_flatMap.1 hu
  simp [encD] at hs
  rcases hs with rfl | rfl | rfl | rfl <;> rfl

/-- The reference's map. -/
structure RefAt (W : World) (lo p : Nat) (v : Value) (D : List Dn) : Prop where
  box : W.heap[p]? = some (.cells #[v] 55 (0, 0))
  own : W.ownsRow lo 96 4 v D.length (D.flatMap encD)
  low : lo ≤ p
  rng : ∀ d ∈ D, 0 ≤ d.lo ∧ d.lo ≤ d.hi ∧ d.hi ≤ 18446744073709551615 ∧ (d.has = false → d.val = 0)

theorem RefAt.lt {W : World} {lo p : Nat} {v : Value} {D : List Dn} (h : RefAt W lo p v D) : p < W.heap.size := (Array.getElem?_eq_some_iff.1 h.box).1
theorem row_keep {W W' : World} {lo n size : Nat} {e : TypeId} {v : Value} {xs : List Value} (h : W.ownsRow lo e size v n xs) (hB : Below W.heap.size W W') : W'.ownsRow lo e size v n xs := by
  rcases row_of_own h with ⟨rfl, rfl, rfl⟩ | ⟨g, cap, cur, rfl, a, b, c, d, e1, f⟩
  · exact World.ownsRow_nil _ _ _ _
  · refine own_of_row (g := g) (cur := cur) ?_ a c d e1 f
    show W'.heap[g]? = _
    rw [hB.block g b.lt]; exact b
theorem RefAt.keep {W W' : World} {lo p : Nat} {v : Value} {D : List Dn} (h : RefAt W lo p v D) (hB : Below W.heap.size W W') : RefAt W' lo p v D :=
  ⟨by rw [hB.block p h.lt]; exact h.box, row_keep h.own hB, h.low, h.rng⟩
theorem RefAt.cell {W : World} {lo p : Nat} {v : Value} {D : List Dn} (h : RefAt W lo p v D) : W.cell? ⟨p, 0, none⟩ = some v := by simp [World.cell?, h.box]
theorem RefAt.view {W : World} {lo p : Nat} {v : Value} {D : List Dn} (h : RefAt W lo p v D) : ∃ a cap, v = .slice a D.length cap ∧ ∀ i d, D[i]? = some d → ∃ g, a = some ⟨g, 0, none⟩ ∧ g < W.heap.size ∧ W.cell? ⟨g, i * 4, none⟩ = some (.int .u64 d.lo) ∧ W.cell? ⟨g, i * 4 + 1, none⟩ = some (.int .u64 d.hi) ∧ W.cell? ⟨g, i * 4 + 2, none⟩ = some (.bool d.has) ∧ W.cell? ⟨g, i * 4 + 3, none⟩ = some (.int .i64 d.val) := by
  have ho := h.own
  rcases row_of_own ho with ⟨rfl, h1, h2⟩ | ⟨g, cap, cur, rfl, a, b, c, d, e, f⟩
  · refine ⟨none, 0, by rw [h1], fun i x hx => ?_⟩
    have : D = [] := List.eq_nil_of_length_eq_zero h1
    rw [this] at hx
    simp at hx
  · refine ⟨some ⟨g, 0, none⟩, cap, rfl, fun i x hx => ⟨g, rfl, b.lt, ?_⟩⟩
    have hlt : i < D.length := (List.getElem?_eq_some_iff.1 hx).1
    have hc : ∀ j, j < 4 → W.cell? ⟨g, i * 4 + j, none⟩ = (encD x)[j]? := fun j hj => by
      rw [World.ownsRow.cellAt ho (i * 4 + j) (by omega)]
      exact cat_at encD 4 (fun _ => rfl) hx j hj
    exact ⟨hc 0 (by omega), hc 1 (by omega), hc 2 (by omega), hc 3 (by omega)⟩

set_option maxHeartbeats 4000000 in
set_option maxRecDepth 100000 in
theorem rget_any (W : World) (lo p : Nat) (v : Value) (D : List Dn) (k : Int) (h : RefAt W lo p v D) (hs : D.length ≤ 1048576) :
    Calls Try.prog 34 #[.pointer (some ⟨p, 0, none⟩), .int .u64 k] W fun e W' => e = .returned (getV (refG D k)) ∧ Below W.heap.size W W' := by
  obtain ⟨a, cap, hv, hcells⟩ := h.view
  subst hv
  have HC : Hid (∀ i d, D[i]? = some d → ∃ g, a = some ⟨g, 0, none⟩ ∧ g < W.heap.size ∧ W.cell? ⟨g, i * 4, none⟩ = some (.int .u64 d.lo) ∧ W.cell? ⟨g, i * 4 + 1, none⟩ = some (.int .u64 d.hi) ∧ W.cell? ⟨g, i * 4 + 2, none⟩ = some (.bool d.has) ∧ W.cell? ⟨g, i * 4 + 3, none⟩ = some (.int .i64 d.val)) := hcells
  have HH : Hid (RefAt W lo p (.slice a D.length cap) D) := h
  have hpl := h.lt
  have hcW : W.cell? ⟨p, 0, none⟩ = some (.slice a D.length cap) := h.cell
  have HX : Hid (refG D k = refLast D k D.length) := rfl
  generalize refG D k = r at *
  clear h hcells
  generalize hn : D.length = n at *
  have HN : Hid (D.length = n) := hn
  clear hn
  go_enter Try.func34, Try.ntmps34
  go_wp2
  go_loopw [6] (fun i wr => ∃ (q : Nat), q ≤ n ∧ i = .int .i64 ((q : Int) - 1) ∧ Hid (r = refLast D k q) ∧ Hid (Below W.heap.size W wr)) (fun i _ => (intOf i + 1).toNat)
  case atStart => exact ⟨n, Nat.le_refl _, rfl, HX, Below.refl _ _⟩
  case round =>
    obtain ⟨q, hq, rfl, HR, HB⟩ := hrel
    clear HX
    have hcw : wr.cell? ⟨p, 0, none⟩ = some (.slice a n cap) := by rw [(bcell HB.out).1 p 0 hpl]; exact hcW
    cases q with
    | zero =>
      have hr : r = none := HR.out
      subst hr
      go_wp2
      go_ret2
      exact ⟨rfl, HB.out⟩
    | succ q =>
      obtain ⟨d, hd⟩ : ∃ d, D[q]? = some d := ⟨_, List.getElem?_eq_getElem (by rw [HN.out]; omega)⟩
      obtain ⟨g, rfl, hgl, e0, e1, e2, e3⟩ := HC.out q d hd
      have hrng := HH.out.rng d (List.mem_of_getElem? hd)
      have hR := HR.out
      rw [refLast, hd] at hR
      simp only at hR
      rw [← (bcell HB.out).1 g _ hgl] at e0 e1 e2 e3
      have hqz : (q : Int) < (n : Int) := by omega
      have hq0 : (0 : Int) ≤ (q : Int) := by omega
      have hqs : ((q + 1 : Nat) : Int) - 1 = (q : Int) := by omega
      have hB2 := fun ob => below_alloc HB.out ob
      rw [hqs]
      clear hqs hd HR
      by_cases c1 : d.lo ≤ k
      · by_cases c2 : k ≤ d.hi
        · rw [if_pos ⟨c1, c2⟩, Dn.tells] at hR
          cases hh : d.has with
          | true =>
            rw [hh, if_pos rfl] at hR
            rw [hh] at e2
            subst hR
            clear hrng
            go_wp2
            go_quiet (fail)
            go_wp2
            go_ret2
            exact ⟨rfl, below_go (hB2 _) (grown_below (grownBy_drewN _ none _))⟩
          | false =>
            rw [hh] at hR e2
            simp only [Bool.false_eq_true, if_false] at hR
            have hv0 := hrng.2.2.2 hh
            rw [hv0] at e3
            subst hR
            clear hrng hv0
            go_wp2
            go_quiet (fail)
            go_wp2
            go_ret2
            exact ⟨rfl, below_go (hB2 _) (grown_below (grownBy_drewN _ none _))⟩
        · rw [if_neg (fun h => c2 h.2)] at hR
          have HR2 : Hid (r = refLast D k q) := hR
          clear hR hrng
          go_wp2
          go_roundw
          case rel => exact ⟨q, by omega, rfl, HR2, hB2 _⟩
          case measure => simp [intOf]
      · rw [if_neg (fun h => c1 h.1)] at hR
        have HR2 : Hid (r = refLast D k q) := hR
        clear hR hrng
        go_wp2
        go_roundw
        case rel => exact ⟨q, by omega, rfl, HR2, hB2 _⟩
        case measure => simp [intOf]
end Go.Proofs.Ytliiblaodhcjhab

import Derived.Test.YtaahbklganhfkaaFieldsA
namespace Go.Proofs.Ytaahbklganhfkaa
open Go.RowKit
set_option linter.unusedVariables false

theorem owns_view {B : Nat} {w : World} {v : Value} {l : List ByteArray} (h : Owns B w v l) :
    ∃ a cap, v = .slice a l.length cap ∧ l.length ≤ cap ∧ (0 < l.length → ∃ g, a = some ⟨g, 0, none⟩ ∧ ∀ j (hj : j < l.length), w.cell? ⟨g, j, none⟩ = some (.string (l[j]'hj))) := by
  have h' := h
  obtain ⟨h1, h2⟩ := h
  rcases h2 with ⟨rfl, hn⟩ | ⟨g, cap, cur, rfl, hg, hh, hn, r⟩
  · exact ⟨none, 0, by rw [hn], by omega, fun h => by omega⟩
  · refine ⟨some ⟨g, 0, none⟩, cap, rfl, hn, fun _ => ⟨g, rfl, fun j hj => ?_⟩⟩
    have := World.ownsRow.cellAt h' j (by omega)
    rw [this]
    simp [hj]

theorem owns_below {B : Nat} {w w' : World} {v : Value} {l : List ByteArray} (h : Owns B w v l) (hb : Below w.heap.size w w') : Owns B w' v l := by
  obtain ⟨h1, h2⟩ := h
  refine ⟨h1, ?_⟩
  rcases h2 with h2 | ⟨g, cap, cur, a, b, c, d⟩
  · exact .inl h2
  · have hlt : g < w.heap.size := (Array.getElem?_eq_some_iff.1 c).1
    exact .inr ⟨g, cap, cur, a, b, by rw [hb.block g hlt]; exact c, d⟩

set_option maxRecDepth 100000 in
set_option maxHeartbeats 1000000 in
/-- atlaslaw01.same, of one list. -/
theorem same_eq (B C : Nat) (w : World) (va vb : Value) (l : List ByteArray) (ha : Owns B w va l) (hb : Owns C w vb l) (hl : l.length ≤ 4611686018427387904) :
    Calls Try.prog 14 #[va, vb] w fun e w' => e = .returned (.bool true) ∧ ∃ q, w' = w.drewN q := by
  obtain ⟨a, ca, rfl, hca, hva⟩ := owns_view ha
  obtain ⟨b, cb, rfl, hcb, hvb⟩ := owns_view hb
  clear ha hb
  by_cases h0 : 0 < l.length
  · obtain ⟨g, rfl, hg⟩ := hva h0
    obtain ⟨g', rfl, hg'⟩ := hvb h0
    clear hva hvb
    have hne : ((l.length : Int) != (l.length : Int)) = false := by simp
    go_enter Try.func14, Try.ntmps14
    go_wp2
    go_loopw [5] (fun y w' => ∃ (k q : Nat), w' = w.drewN q ∧ y = .int .i64 k ∧ k ≤ l.length) (fun y _ => l.length - (intOf y).toNat)
    case atStart => exact ⟨0, 0, rfl, rfl, by omega⟩
    case round =>
      obtain ⟨k, q, rfl, rfl, hk⟩ := hrel
      by_cases hlt : k < l.length
      · have c1 := hg k hlt
        have c2 := hg' k hlt
        have j0 : (0 : Int) ≤ (k : Int) := by omega
        have j1 : (k : Int) < (l.length : Int) := by omega
        generalize l[k] = x at c1 c2
        go_wp2
        go_quiet (fail)
        go_wp2
        go_roundw
        case rel => exact ⟨k + 1, _, rfl, by go_num, by omega⟩
        case measure =>
          simp [intOf]
          omega
      · go_wp2
        go_ret
        exact ⟨rfl, q, rfl⟩
  · have hl0 : l.length = 0 := by omega
    rw [hl0] at *
    go_enter Try.func14, Try.ntmps14
    go_wp2
    refine wp_loop_rounds 1 ?_
    rw [rounds_succ]
    go_wp2
    go_ret
    exact ⟨rfl, 0, rfl⟩
end Go.Proofs.Ytaahbklganhfkaa

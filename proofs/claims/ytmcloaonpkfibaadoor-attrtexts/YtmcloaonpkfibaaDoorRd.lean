import Derived.Test.YtmcloaonpkfibaaDoorKo
namespace Go.Proofs.YtmcloaonpkfibaaDoor
open Go.RowKit
set_option linter.unusedVariables false
set_option linter.unusedSimpArgs false
theorem kindOf_any (g cp : Nat) (ws : List ByteArray) (w : World) (hT : TA w) (h1 : 1 ≤ ws.length) (h5 : ws.length ≤ 5) (hx : ∀ (j : Nat) x, ws[j]? = some x → w.cell? ⟨g, j, none⟩ = some (.string x)) :
    Calls Tryd.prog 21 #[.slice (some ⟨g, 0, none⟩) ws.length cp] w fun e w' => e = .returned (.agg #[.int .i64 (kW ws).t, .int .i64 (kW ws).i, .int .i64 (kW ws).o, .int .i64 (kW ws).s]) ∧ Below w.heap.size w w' := by
  match ws, h1, h5, hx with
  | [a], _, _, hx =>
    by_cases h : a = wStrong
    · rw [show kW [a] = ⟨0, 0, 0, 2⟩ from if_pos h]
      exact kind_1y g cp a w hT (hx 0 _ rfl) (by simp [h])
    · rw [show kW [a] = mZ from if_neg h]
      exact kind_1n g cp a w hT (hx 0 _ rfl) (sNe h)
  | [a, b], _, _, hx =>
    by_cases h : a = wDevice
    · rw [show kW [a, b] = ⟨1, 0, 0, nO lShares 0 b⟩ from if_pos h]
      exact kind_2y g cp a b w hT (hx 0 _ rfl) (hx 1 _ rfl) (by simp [h])
    · rw [show kW [a, b] = mZ from if_neg h]
      exact kind_2n g cp a b w hT (hx 0 _ rfl) (hx 1 _ rfl) (sNe h)
  | [a, b, c], _, _, hx => exact kind_3n g cp a b c w hT (hx 0 _ rfl) (hx 1 _ rfl) (hx 2 _ rfl)
  | [a, b, c, d], _, _, hx =>
    by_cases h : a = wNormal
    · rw [show kW [a, b, c, d] = ⟨2, nO lCaches 0 b, nO lCaches 0 c, nO lShares 0 d⟩ from if_pos h]
      exact kind_4y g cp a b c d w hT (hx 0 _ rfl) (hx 1 _ rfl) (hx 2 _ rfl) (hx 3 _ rfl) (by simp [h])
    · rw [show kW [a, b, c, d] = mZ from if_neg h]
      exact kind_4n g cp a b c d w hT (hx 0 _ rfl) (hx 1 _ rfl) (hx 2 _ rfl) (hx 3 _ rfl) (sNe h)
  | [a, b, c, d, e], _, _, hx => exact kind_5n g cp a b c d e w hT (hx 0 _ rfl) (hx 1 _ rfl) (hx 2 _ rfl) (hx 3 _ rfl) (hx 4 _ rfl)
/-- The words of a text, and what it says. -/
def wsOf (s : ByteArray) : List ByteArray := Lib.splitB ⟨#[32]⟩ 0 (min 5 (s.size + 1) - 1) s
def rd (s : ByteArray) : Int × Mem := if K (kW (wsOf s)) then (0, kW (wsOf s)) else (62, mZ)
theorem ws_len (s : ByteArray) : 1 ≤ (wsOf s).length ∧ (wsOf s).length ≤ 5 := by
  unfold wsOf
  have h := Lib.splitB_length_le ⟨#[32]⟩ 0 (min 5 (s.size + 1) - 1) s
  refine ⟨?_, by omega⟩
  generalize min 5 (s.size + 1) - 1 = k
  cases k with
  | zero => simp [Lib.splitB]
  | succ k =>
    unfold Lib.splitB
    split <;> simp
theorem split_any (s : ByteArray) (w : World) (hs : s.size < 4294967281) (hT : TA w) :
    Calls Tryd.prog 22 #[.string s, .string ⟨#[32]⟩, .int .i64 5] w fun e w' => ∃ cp, e = .returned (.slice (some ⟨w.heap.size, 0, none⟩) (wsOf s).length cp) ∧ Below w.heap.size w w' ∧ ∀ (j : Nat) x, (wsOf s)[j]? = some x → w'.cell? ⟨w.heap.size, j, none⟩ = some (.string x) := by
  obtain ⟨m, hm⟩ := hT.max
  refine (Tryd.strings_SplitN s ⟨#[32]⟩ 5 m w hs hm (by decide) (by decide) (by decide)).mono ?_
  rintro e w' ⟨rfl, rfl⟩
  refine ⟨_, rfl, below_new _ _, fun j x hx => ?_⟩
  rw [World.cell?_alloc_at _ _ _ _ rfl]
  have hj : j < (wsOf s).length := (List.getElem?_eq_some_iff.1 hx).1
  unfold Lib.cellsOf
  rw [List.getElem?_toArray, List.getElem?_append_left (by rw [List.length_map]; exact hj), List.getElem?_map]
  rw [show (Lib.splitB ⟨#[32]⟩ 0 (min 5 (s.size + 1) - 1) s)[j]? = some x from hx]
  rfl
theorem mem_eta (m : Mem) : m = ⟨m.t, m.i, m.o, m.s⟩ := rfl
set_option maxRecDepth 100000 in
set_option maxHeartbeats 4000000 in
theorem read_any (s : ByteArray) (w : World) (hs : s.size < 4294967281) (hT : TA w) :
    Calls Tryd.prog 14 #[.string s] w fun e w' => e = .returned (.tuple #[.agg #[.int .i64 ((rd s).2).t, .int .i64 ((rd s).2).i, .int .i64 ((rd s).2).o, .int .i64 ((rd s).2).s], .int .i64 (rd s).1]) ∧ Below w.heap.size w w' := by
  have HSp : Hid (Calls Tryd.prog 22 #[.string s, .string ⟨#[32]⟩, .int .i64 5] (w.alloc (.cells #[.int .i64 0, .int .i64 0, .int .i64 0, .int .i64 0] 24)) fun e w' => ∃ cp, e = .returned (.slice (some ⟨w.heap.size + 1, 0, none⟩) (wsOf s).length cp) ∧ Below (w.heap.size + 1) (w.alloc (.cells #[.int .i64 0, .int .i64 0, .int .i64 0, .int .i64 0] 24)) w' ∧ ∀ (j : Nat) x, (wsOf s)[j]? = some x → w'.cell? ⟨w.heap.size + 1, j, none⟩ = some (.string x)) := by
    have h := split_any s (w.alloc (.cells #[.int .i64 0, .int .i64 0, .int .i64 0, .int .i64 0] 24)) hs (hT.below (below_new _ _))
    rw [show (w.alloc (.cells #[.int .i64 0, .int .i64 0, .int .i64 0, .int .i64 0] 24)).heap.size = w.heap.size + 1 by simp] at h
    exact h
  have HKo : Hid (∀ g cp w, TA w → (∀ (j : Nat) x, (wsOf s)[j]? = some x → w.cell? ⟨g, j, none⟩ = some (.string x)) → Calls Tryd.prog 21 #[.slice (some ⟨g, 0, none⟩) (wsOf s).length cp] w fun e w' => e = .returned (.agg #[.int .i64 (kW (wsOf s)).t, .int .i64 (kW (wsOf s)).i, .int .i64 (kW (wsOf s)).o, .int .i64 (kW (wsOf s)).s]) ∧ Below w.heap.size w w') := fun g cp w hw hx => kindOf_any g cp _ w hw (ws_len s).1 (ws_len s).2 hx
  have HK : Hid (∀ w, Calls Tryd.prog 17 #[.agg #[.int .i64 (kW (wsOf s)).t, .int .i64 (kW (wsOf s)).i, .int .i64 (kW (wsOf s)).o, .int .i64 (kW (wsOf s)).s]] w fun e w' => e = .returned (.bool (decide (K (kW (wsOf s))))) ∧ Below w.heap.size w w') := fun w => isKind_any _ w
  unfold rd
  generalize hM : kW (wsOf s) = M at *
  generalize hn : (wsOf s).length = n at *
  generalize wsOf s = L at *
  have HT : Hid (TA (w.alloc (.cells #[.int .i64 0, .int .i64 0, .int .i64 0, .int .i64 0] 24))) := hT.below (below_new _ _)
  have HN0 : Hid (Bl (w.alloc (.cells #[.int .i64 0, .int .i64 0, .int .i64 0, .int .i64 0] 24)) w.heap.size 24 [.int .i64 0, .int .i64 0, .int .i64 0, .int .i64 0]) := Bl.new w _ _
  clear hT hM hn hs
  by_cases h : K M
  · rw [if_pos h]
    rw [decide_eq_true h] at HK
    clear h
    go_enter Tryd.func14, Tryd.ntmps14
    go_wp2_with (first
      | (go_at_call 22; refine HSp.out.mono ?_; rintro e w1 ⟨cp, rfl, hb1, hx1⟩; have HB1 : Hid (Below (w.alloc (.cells #[.int .i64 0, .int .i64 0, .int .i64 0, .int .i64 0] 24)).heap.size (w.alloc (.cells #[.int .i64 0, .int .i64 0, .int .i64 0, .int .i64 0] 24)) w1) := (by rw [show (w.alloc (.cells #[.int .i64 0, .int .i64 0, .int .i64 0, .int .i64 0] 24)).heap.size = w.heap.size + 1 by simp]; exact hb1); have HX1 : Hid _ := hx1; clear hb1 hx1)
      | (go_at_call 21; refine (HKo.out _ _ _ (HT.out.below HB1.out) HX1.out).mono ?_; rintro e w2 ⟨rfl, hb2⟩; have HB2 : Hid (Bl w2 w.heap.size 24 [.int .i64 0, .int .i64 0, .int .i64 0, .int .i64 0]) := (HN0.out.below HB1.out).below hb2; have HF : Hid (Below w.heap.size w w2) := Below.step (Below.one HB1.out) hb2; have hl2 := HB2.out.lt; clear hb2)
      | (go_at_call 17; refine (HK.out _).mono ?_; rintro e w3 ⟨rfl, hb3⟩; have hcM := ((Bl.new w2 24 [.int .i64 M.t, .int .i64 M.i, .int .i64 M.o, .int .i64 M.s]).below hb3).cell; have hc0 := ((HB2.out.below (below_new w2 (.cells #[.int .i64 M.t, .int .i64 M.i, .int .i64 M.o, .int .i64 M.s] 24))).below hb3).cell; have hf0 := ((HB2.out.below (below_new w2 (.cells #[.int .i64 M.t, .int .i64 M.i, .int .i64 M.o, .int .i64 M.s] 24))).below hb3).frozen; have HF3 : Hid (Below w.heap.size w w3) := Below.step HF.out (Below.one hb3); clear hb3)
      | go_in)
    refine bodyPost_ret (v := .tuple #[.agg #[.int .i64 M.t, .int .i64 M.i, .int .i64 M.o, .int .i64 M.s], .int .i64 0]) (by simp [results, Tryd.results14, go_sem, hc0, hf0]) rfl ⟨rfl, (by (repeat (with_reducible refine Below.setCell ?_ (by simp) _)); exact HF3.out)⟩
  · rw [if_neg h]
    rw [decide_eq_false h] at HK
    clear h
    unfold mZ
    go_enter Tryd.func14, Tryd.ntmps14
    go_wp2_with (first
      | (go_at_call 22; refine HSp.out.mono ?_; rintro e w1 ⟨cp, rfl, hb1, hx1⟩; have HB1 : Hid (Below (w.alloc (.cells #[.int .i64 0, .int .i64 0, .int .i64 0, .int .i64 0] 24)).heap.size (w.alloc (.cells #[.int .i64 0, .int .i64 0, .int .i64 0, .int .i64 0] 24)) w1) := (by rw [show (w.alloc (.cells #[.int .i64 0, .int .i64 0, .int .i64 0, .int .i64 0] 24)).heap.size = w.heap.size + 1 by simp]; exact hb1); have HX1 : Hid _ := hx1; clear hb1 hx1)
      | (go_at_call 21; refine (HKo.out _ _ _ (HT.out.below HB1.out) HX1.out).mono ?_; rintro e w2 ⟨rfl, hb2⟩; have HB2 : Hid (Bl w2 w.heap.size 24 [.int .i64 0, .int .i64 0, .int .i64 0, .int .i64 0]) := (HN0.out.below HB1.out).below hb2; have HF : Hid (Below w.heap.size w w2) := Below.step (Below.one HB1.out) hb2; have hl2 := HB2.out.lt; clear hb2)
      | (go_at_call 17; refine (HK.out _).mono ?_; rintro e w3 ⟨rfl, hb3⟩; have hcM := ((Bl.new w2 24 [.int .i64 M.t, .int .i64 M.i, .int .i64 M.o, .int .i64 M.s]).below hb3).cell; have hc0 := ((HB2.out.below (below_new w2 (.cells #[.int .i64 M.t, .int .i64 M.i, .int .i64 M.o, .int .i64 M.s] 24))).below hb3).cell; have hf0 := ((HB2.out.below (below_new w2 (.cells #[.int .i64 M.t, .int .i64 M.i, .int .i64 M.o, .int .i64 M.s] 24))).below hb3).frozen; have HF3 : Hid (Below w.heap.size w w3) := Below.step HF.out (Below.one hb3); clear hb3)
      | go_in)
    refine bodyPost_ret (v := .tuple #[.agg #[.int .i64 0, .int .i64 0, .int .i64 0, .int .i64 0], .int .i64 62]) (by simp [results, Tryd.results14, go_sem, hc0, hf0]) rfl ⟨rfl, (by (repeat (with_reducible refine Below.setCell ?_ (by simp) _)); exact HF3.out)⟩
end Go.Proofs.YtmcloaonpkfibaaDoor

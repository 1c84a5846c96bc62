import Derived.Test.YtmcloaonpkfibaaDoorTz
import Derived.Test.YtmcloaonpkfibaaDoorSt
import Derived.Test.YtmcloaonpkfibaaDoorSi
import Derived.Deep.OwnRows
import Derived.Laws.Strings3
import Derived.Lib.CutLaws
namespace Go.Proofs.YtmcloaonpkfibaaDoor
open Go.RowKit
set_option linter.unusedVariables false
set_option linter.unusedSimpArgs false
def bl1 : ByteArray := ⟨#[32]⟩
theorem ix_one : ∀ (l : List UInt8), Lib.index l [32] = Lib.indexByte l 32
  | [] => rfl
  | b :: l => by
    unfold Lib.index Lib.indexByte
    rw [ix_one l]
    have e : ([32] : List UInt8).isPrefixOf (b :: l) = (b == 32) := by
      simp [List.isPrefixOf, eq_comm, Bool.beq_comm]
    rw [e]
theorem index_any (x : ByteArray) (w : World) : Calls Tryd.prog 38 #[.string x, .string ⟨#[32]⟩] w fun e w' => e = .returned (.int .i64 (Lib.indexB x ⟨#[32]⟩)) ∧ w = w' := by
  refine (Tryd.strings_Index_one x 32 w).mono ?_
  rintro e w' ⟨rfl, rfl⟩
  refine ⟨?_, rfl⟩
  show _ = Ending.returned (.int .i64 (Lib.index x.data.toList [32]))
  rw [ix_one]
/-- The new row while the loop runs. -/
structure PX (w wr : World) (c : Array Value) : Prop where
  bel : Below w.heap.size w wr
  row : Bl wr w.heap.size 9 c.toList
theorem infoE : (Tryd.prog.info? 9).map (fun i => (i.zero, i.size, i.bytes)) = some (some (.string ByteArray.empty), 1, 16) := by kernel_rfl
set_option maxRecDepth 100000 in
set_option maxHeartbeats 1000000 in
theorem gen_any (s : ByteArray) (n : Nat) (w : World) (hs : s.size ≤ 4611686018427387904) (hn : min 5 (s.size + 1) = n) :
    Calls Tryd.prog 33 #[.string s, .string ⟨#[32]⟩, .int .i64 0, .int .i64 5] w fun e w' => e = .returned (.slice (some ⟨w.heap.size, 0, none⟩) (wsOf s).length n) ∧ PX w w' (Lib.cellsOf (wsOf s) n) := by
  have hmin : min (5 : Int) ((s.size : Int) + 1) = (n : Int) := by omega
  have hn1 : (1 : Int) ≤ (n : Int) := by omega
  have hn5 : (n : Int) ≤ 5 := by omega
  have hmk := run_make_row' (P := Tryd.prog) 47 9 (.string ByteArray.empty) 16 Tryd.underlying47 infoE rfl .i64 .i64 n (by omega) (by omega)
  have hw1 : IntKind.i64.wrap ((s.size : Int) + 1) = (s.size : Int) + 1 := by rw [IntKind.wrap_i64]; omega
  have hW : wsOf s = Lib.splitB ⟨#[32]⟩ 0 (n - 1) s := by unfold wsOf; rw [hn]
  rw [hW]
  clear hW hn
  have HP0 : Hid (PX w (w.alloc (.cells (madeCells #[.string ByteArray.empty] n) 9)) (Lib.cellsOf [] n)) := by
    rw [Lib.cellsOf_nil]
    refine ⟨below_new _ _, ?_⟩
    have := Bl.new w 9 (madeCells #[.string ByteArray.empty] n).toList
    simpa using this
  go_enter Tryd.func33, Tryd.ntmps33
  go_wp2
  go_loopw [0, 10] (fun v0 v10 wr => ∃ (done : List ByteArray) (rest : ByteArray), v0 = .string rest ∧ v10 = .int .i64 done.length ∧ done.length ≤ n - 1 ∧ rest.size ≤ s.size ∧ PX w wr (Lib.cellsOf done n) ∧ done ++ Lib.splitB ⟨#[32]⟩ 0 (n - 1 - done.length) rest = Lib.splitB ⟨#[32]⟩ 0 (n - 1) s) (fun _ v10 _ => n - (intOf v10).toNat)
  case atStart => exact ⟨[], s, rfl, rfl, Nat.zero_le _, Nat.le_refl _, HP0.out, rfl⟩
  case round =>
    obtain ⟨done, rest, rfl, rfl, hd, hr, hP, hsp⟩ := hrel
    have HP : Hid (PX w _ (Lib.cellsOf done n)) := hP
    have HS : Hid (done ++ Lib.splitB ⟨#[32]⟩ 0 (n - 1 - done.length) rest = Lib.splitB ⟨#[32]⟩ 0 (n - 1) s) := hsp
    have hc : wr.cell? ⟨w.heap.size, done.length, none⟩ = some (.string ByteArray.empty) := (hP.row.cell done.length).trans (by rw [Array.getElem?_toList]; exact Lib.cellsOf_next (by omega))
    have hf := hP.row.frozen
    have hl := hP.row.lt
    clear HP0 hsp hP hmk
    have HFin : Hid (∀ wr, PX w wr (Lib.cellsOf done n) → Lib.splitB ⟨#[32]⟩ 0 (n - 1 - done.length) rest = [rest] → (Lib.splitB ⟨#[32]⟩ 0 (n - 1) s).length = done.length + 1 ∧ PX w (wr.setCell ⟨w.heap.size, done.length, none⟩ (.string rest)) (Lib.cellsOf (Lib.splitB ⟨#[32]⟩ 0 (n - 1) s) n)) := fun wr h1 h2 => by
      have e := HS.out
      rw [h2] at e
      rw [← e]
      refine ⟨by simp, Below.setCell h1.bel (Nat.le_refl _) _, ?_⟩
      rw [← Lib.cellsOf_set (by omega)]
      have := h1.row.set done.length (.string rest)
      simpa using this
    have HI0 : Hid (∀ w, Calls Tryd.prog 38 #[.string rest, .string ⟨#[32]⟩] w fun e w' => e = .returned (.int .i64 (Lib.indexB rest ⟨#[32]⟩)) ∧ w = w') := index_any rest
    have d1 : ((done.length : Nat) : Int) < (n : Int) := by omega
    generalize hk : done.length = k at *
    by_cases hlt : k < n - 1
    · have h2 : (k : Int) < (n : Int) - 1 := by omega
      rcases Lib.indexB_cases rest ⟨#[32]⟩ with hix | ⟨i, hix, hroom⟩
      · have HQ : Hid _ := HFin.out wr HP.out (Lib.splitB_miss _ _ _ _ hix)
        clear HFin HP HS
        generalize Lib.indexB rest ⟨#[32]⟩ = x at *
        subst hix
        have HI : Hid (∀ w, Calls Tryd.prog 38 #[.string rest, .string ⟨#[32]⟩] w fun e w' => e = .returned (.int .i64 (-1)) ∧ w = w') := HI0.out
        go_wp2_with (first | (go_at_call 38; refine (HI.out _).mono ?_; rintro e w1 ⟨rfl, rfl⟩))
        go_ret
        exact ⟨by rw [HQ.out.1]; rfl, HQ.out.2⟩
      · have c0 : ¬ ((i : Int) < 0) := by omega
        have hroom' : i + 1 ≤ rest.size := hroom
        have c1 : (i : Int) ≤ (rest.size : Int) := by omega
        have c2 : (i : Int) + 1 ≤ (rest.size : Int) := by omega
        have c3 : (0 : Int) ≤ (i : Int) + 1 := by omega
        have HI : Hid (∀ w, Calls Tryd.prog 38 #[.string rest, .string ⟨#[32]⟩] w fun e w' => e = .returned (.int .i64 i) ∧ w = w') := by rw [← hix]; exact HI0.out
        have HN : Hid (PX w (wr.setCell ⟨w.heap.size, k, none⟩ (.string (rest.extract 0 i))) (Lib.cellsOf (done ++ [rest.extract 0 i]) n)) := by
          refine ⟨Below.setCell HP.out.bel (Nat.le_refl _) _, ?_⟩
          rw [← Lib.cellsOf_set (by omega), hk]
          have := HP.out.row.set k (.string (rest.extract 0 i))
          simpa using this
        have HT : Hid ((done ++ [rest.extract 0 i]) ++ Lib.splitB ⟨#[32]⟩ 0 (n - 1 - (k + 1)) (rest.extract (i + 1) rest.size) = Lib.splitB ⟨#[32]⟩ 0 (n - 1) s) := by
          have e := HS.out
          rw [show n - 1 - k = (n - 1 - (k + 1)) + 1 by omega, Lib.splitB_hit _ _ _ rest i hix] at e
          rw [← e]
          simp
          rfl
        clear HFin HP HS HI0 hix hroom hroom'
        go_wp2_with (first | (go_at_call 38; refine (HI.out _).mono ?_; rintro e w1 ⟨rfl, rfl⟩))
        go_roundw
        case rel => exact ⟨done ++ [rest.extract 0 i], rest.extract (i + 1) rest.size, rfl, by simp [hk], by simp; omega, by rw [ByteArray.size_extract]; omega, HN.out, by rw [List.length_append, hk]; exact HT.out⟩
        case measure => simp [intOf]; omega
    · have h2 : ¬ ((k : Int) < (n : Int) - 1) := by omega
      have HQ : Hid _ := HFin.out wr HP.out (by rw [show n - 1 - k = 0 by omega]; rfl)
      clear HFin HP HS HI0
      go_wp2
      go_ret
      exact ⟨by rw [HQ.out.1]; rfl, HQ.out.2⟩
set_option maxRecDepth 100000 in
theorem splitN_full (s : ByteArray) (w : World) (hs : s.size ≤ 4611686018427387904) :
    Calls Tryd.prog 22 #[.string s, .string ⟨#[32]⟩, .int .i64 5] w fun e w' => e = .returned (.slice (some ⟨w.heap.size, 0, none⟩) (wsOf s).length (min 5 (s.size + 1))) ∧ PX w w' (Lib.cellsOf (wsOf s) (min 5 (s.size + 1))) := by
  have HG : Hid (∀ w, Calls Tryd.prog 33 #[.string s, .string ⟨#[32]⟩, .int .i64 0, .int .i64 5] w fun e w' => e = .returned (.slice (some ⟨w.heap.size, 0, none⟩) (wsOf s).length (min 5 (s.size + 1))) ∧ PX w w' (Lib.cellsOf (wsOf s) (min 5 (s.size + 1)))) := fun w => gen_any s _ w hs rfl
  generalize min 5 (s.size + 1) = n at *
  generalize wsOf s = L at *
  generalize L.length = k at *
  clear hs
  go_enter Tryd.func22, Tryd.ntmps22
  go_wp2_with (first | (go_at_call 33; refine (HG.out _).mono ?_; rintro e w1 ⟨rfl, hP⟩; have HP : Hid _ := hP; clear hP) | go_in)
  go_ret
  exact ⟨rfl, HP.out⟩
theorem split_full (s : ByteArray) (w : World) (hs : s.size ≤ 4611686018427387904) (hT : TA w) :
    Calls Tryd.prog 22 #[.string s, .string ⟨#[32]⟩, .int .i64 5] w fun e w' => ∃ cp, e = .returned (.slice (some ⟨w.heap.size, 0, none⟩) (wsOf s).length cp) ∧ Below w.heap.size w w' ∧ ∀ (j : Nat) x, (wsOf s)[j]? = some x → w'.cell? ⟨w.heap.size, j, none⟩ = some (.string x) := by
  refine (splitN_full s w hs).mono ?_
  rintro e w' ⟨rfl, hP⟩
  refine ⟨_, rfl, hP.bel, fun j x hx => ?_⟩
  have hj : j < (wsOf s).length := (List.getElem?_eq_some_iff.1 hx).1
  rw [hP.row.cell j]
  unfold Lib.cellsOf
  rw [List.getElem?_append_left (by rw [List.length_map]; exact hj), List.getElem?_map, hx]
  rfl
set_option maxRecDepth 100000 in
set_option maxHeartbeats 1000000 in
theorem read_full (s : ByteArray) (w : World) (hs : s.size ≤ 4611686018427387904) (hT : TA w) :
    Calls Tryd.prog 14 #[.string s] w fun e w' => e = .returned (.tuple #[.agg #[.int .i64 ((rd s).2).t, .int .i64 ((rd s).2).i, .int .i64 ((rd s).2).o, .int .i64 ((rd s).2).s], .int .i64 (rd s).1]) ∧ Below w.heap.size w w' := by
  have HSp : Hid (Calls Tryd.prog 22 #[.string s, .string ⟨#[32]⟩, .int .i64 5] (w.alloc (.cells #[.int .i64 0, .int .i64 0, .int .i64 0, .int .i64 0] 24)) fun e w' => ∃ cp, e = .returned (.slice (some ⟨w.heap.size + 1, 0, none⟩) (wsOf s).length cp) ∧ Below (w.heap.size + 1) (w.alloc (.cells #[.int .i64 0, .int .i64 0, .int .i64 0, .int .i64 0] 24)) w' ∧ ∀ (j : Nat) x, (wsOf s)[j]? = some x → w'.cell? ⟨w.heap.size + 1, j, none⟩ = some (.string x)) := by
    have h := split_full s (w.alloc (.cells #[.int .i64 0, .int .i64 0, .int .i64 0, .int .i64 0] 24)) hs (hT.below (below_new _ _))
    rw [show (w.alloc (.cells #[.int .i64 0, .int .i64 0, .int .i64 0, .int .i64 0] 24)).heap.size = w.heap.size + 1 by simp] at h
    exact h
  have HKo : Hid (∀ g cp w, TA w → (∀ (j : Nat) x, (wsOf s)[j]? = some x → w.cell? ⟨g, j, none⟩ = some (.string x)) → Calls Tryd.prog 21 #[.slice (some ⟨g, 0, none⟩) (wsOf s).length cp] w fun e w' => e = .returned (.agg #[.int .i64 (kW (wsOf s)).t, .int .i64 (kW (wsOf s)).i, .int .i64 (kW (wsOf s)).o, .int .i64 (kW (wsOf s)).s]) ∧ Below w.heap.size w w') := fun g cp w hw hx => kindOf_any g cp _ w hw (ws_len s).1 (ws_len s).2 hx
  have HK : Hid (∀ w, Calls Tryd.prog 17 #[.agg #[.int .i64 (kW (wsOf s)).t, .int .i64 (kW (wsOf s)).i, .int .i64 (kW (wsOf s)).o, .int .i64 (kW (wsOf s)).s]] w fun e w' => e = .returned (.bool (decide (K (kW (wsOf s))))) ∧ Below w.heap.size w w') := fun w => isKind_any _ w
  unfold rd
  generalize hM : kW (wsOf s) = M at *
  generalize hn : (wsOf s).length = n at *
  generalize wsOf s = L at *
  have HT : Hid (TA (w.alloc (.cells #[.int .i64 0, .int .i64 0, .int .i64 0, .int .i64 0] 24))) := hT.below (below_new _ _)
  have HN0 : Hid (Bl (w.alloc (.cells #[.int .i64 0, .int .i64 0, .int .i64 0, .int .i64 0] 24)) w.heap.size 24 [.int .i64 0, .int .i64 0, .int .i64 0, .int .i64 0]) := Bl.new w _ _
  clear hT hM hn hs
  by_cases h : K M
  · rw [if_pos h]
    rw [decide_eq_true h] at HK
    clear h
    go_enter Tryd.func14, Tryd.ntmps14
    go_wp2_with (first
      | (go_at_call 22; refine HSp.out.mono ?_; rintro e w1 ⟨cp, rfl, hb1, hx1⟩; have HB1 : Hid (Below (w.alloc (.cells #[.int .i64 0, .int .i64 0, .int .i64 0, .int .i64 0] 24)).heap.size (w.alloc (.cells #[.int .i64 0, .int .i64 0, .int .i64 0, .int .i64 0] 24)) w1) := (by rw [show (w.alloc (.cells #[.int .i64 0, .int .i64 0, .int .i64 0, .int .i64 0] 24)).heap.size = w.heap.size + 1 by simp]; exact hb1); have HX1 : Hid _ := hx1; clear hb1 hx1)
      | (go_at_call 21; refine (HKo.out _ _ _ (HT.out.below HB1.out) HX1.out).mono ?_; rintro e w2 ⟨rfl, hb2⟩; have HB2 : Hid (Bl w2 w.heap.size 24 [.int .i64 0, .int .i64 0, .int .i64 0, .int .i64 0]) := (HN0.out.below HB1.out).below hb2; have HF : Hid (Below w.heap.size w w2) := Below.step (Below.one HB1.out) hb2; have hl2 := HB2.out.lt; clear hb2)
      | (go_at_call 17; refine (HK.out _).mono ?_; rintro e w3 ⟨rfl, hb3⟩; have hcM := ((Bl.new w2 24 [.int .i64 M.t, .int .i64 M.i, .int .i64 M.o, .int .i64 M.s]).below hb3).cell; have hc0 := ((HB2.out.below (below_new w2 (.cells #[.int .i64 M.t, .int .i64 M.i, .int .i64 M.o, .int .i64 M.s] 24))).below hb3).cell; have hf0 := ((HB2.out.below (below_new w2 (.cells #[.int .i64 M.t, .int .i64 M.i, .int .i64 M.o, .int .i64 M.s] 24))).below hb3).frozen; have HF3 : Hid (Below w.heap.size w w3) := Below.step HF.out (Below.one hb3); clear hb3)
      | go_in)
    refine bodyPost_ret (v := .tuple #[.agg #[.int .i64 M.t, .int .i64 M.i, .int .i64 M.o, .int .i64 M.s], .int .i64 0]) (by simp [results, Tryd.results14, go_sem, hc0, hf0]) rfl ⟨rfl, (by (repeat (with_reducible refine Below.setCell ?_ (by simp) _)); exact HF3.out)⟩
  · rw [if_neg h]
    rw [decide_eq_false h] at HK
    clear h
    unfold mZ
    go_enter Tryd.func14, Tryd.ntmps14
    go_wp2_with (first
      | (go_at_call 22; refine HSp.out.mono ?_; rintro e w1 ⟨cp, rfl, hb1, hx1⟩; have HB1 : Hid (Below (w.alloc (.cells #[.int .i64 0, .int .i64 0, .int .i64 0, .int .i64 0] 24)).heap.size (w.alloc (.cells #[.int .i64 0, .int .i64 0, .int .i64 0, .int .i64 0] 24)) w1) := (by rw [show (w.alloc (.cells #[.int .i64 0, .int .i64 0, .int .i64 0, .int .i64 0] 24)).heap.size = w.heap.size + 1 by simp]; exact hb1); have HX1 : Hid _ := hx1; clear hb1 hx1)
      | (go_at_call 21; refine (HKo.out _ _ _ (HT.out.below HB1.out) HX1.out).mono ?_; rintro e w2 ⟨rfl, hb2⟩; have HB2 : Hid (Bl w2 w.heap.size 24 [.int .i64 0, .int .i64 0, .int .i64 0, .int .i64 0]) := (HN0.out.below HB1.out).below hb2; have HF : Hid (Below w.heap.size w w2) := Below.step (Below.one HB1.out) hb2; have hl2 := HB2.out.lt; clear hb2)
      | (go_at_call 17; refine (HK.out _).mono ?_; rintro e w3 ⟨rfl, hb3⟩; have hcM := ((Bl.new w2 24 [.int .i64 M.t, .int .i64 M.i, .int .i64 M.o, .int .i64 M.s]).below hb3).cell; have hc0 := ((HB2.out.below (below_new w2 (.cells #[.int .i64 M.t, .int .i64 M.i, .int .i64 M.o, .int .i64 M.s] 24))).below hb3).cell; have hf0 := ((HB2.out.below (below_new w2 (.cells #[.int .i64 M.t, .int .i64 M.i, .int .i64 M.o, .int .i64 M.s] 24))).below hb3).frozen; have HF3 : Hid (Below w.heap.size w w3) := Below.step HF.out (Below.one hb3); clear hb3)
      | go_in)
    refine bodyPost_ret (v := .tuple #[.agg #[.int .i64 0, .int .i64 0, .int .i64 0, .int .i64 0], .int .i64 62]) (by simp [results, Tryd.results14, go_sem, hc0, hf0]) rfl ⟨rfl, (by (repeat (with_reducible refine Below.setCell ?_ (by simp) _)); exact HF3.out)⟩
end Go.Proofs.YtmcloaonpkfibaaDoor

import Derived.Test.YtdinmhjdnnhhjaaDoorPh
import Derived.Laws.EntriesVeiled
namespace Go.Proofs.YtdinmhjdnnhhjaaDoor
open Go.RowKit
set_option linter.unusedVariables false
set_option linter.unusedSimpArgs false
def nmV (n : Nat) (t : Tu) : Value :=
  match opOf t with
  | some c => .agg #[.int .i64 t.a, .int .i64 t.b, .int .i64 t.c, .int .i64 t.d, .bool (c == 8), doV n c]
  | none => .agg #[.int .i64 0, .int .i64 0, .int .i64 0, .int .i64 0, .bool false, .nilFunc]
set_option maxRecDepth 100000 in
set_option maxHeartbeats 4000000 in
theorem named_any (hO : ∀ w : World, Calls Tryd.prog 34 #[] w fun e w' => e = .returned (.agg (opL w.heap.size).toArray) ∧ Asks w' w.heap.size ∧ Below w.heap.size w w') (t : Tu) (w : World) :
    Calls Tryd.prog 26 #[.agg #[.int .i64 t.a, .int .i64 t.b, .int .i64 t.c, .int .i64 t.d]] w fun e w' => ∃ n, e = .returned (.tuple #[nmV n t, .bool (opOf t).isSome]) ∧ Asks w' n ∧ Below w.heap.size w w' := by
  have HB0 : Hid (Below w.heap.size w ((w.alloc (.cells ([.int .i64 t.a, .int .i64 t.b, .int .i64 t.c, .int .i64 t.d]).toArray 27)).alloc (.cells #[.int .i64 0, .int .i64 0, .int .i64 0, .int .i64 0, .bool false, .nilFunc] 72))) := (below_new _ _).alloc (by simp) _
  have HX0 : Hid (Bl ((w.alloc (.cells ([.int .i64 t.a, .int .i64 t.b, .int .i64 t.c, .int .i64 t.d]).toArray 27)).alloc (.cells #[.int .i64 0, .int .i64 0, .int .i64 0, .int .i64 0, .bool false, .nilFunc] 72)) w.heap.size 27 ([.int .i64 t.a, .int .i64 t.b, .int .i64 t.c, .int .i64 t.d])) := (Bl.new _ _ _).below (below_new _ _)
  have HX1 : Hid (Bl ((w.alloc (.cells ([.int .i64 t.a, .int .i64 t.b, .int .i64 t.c, .int .i64 t.d]).toArray 27)).alloc (.cells #[.int .i64 0, .int .i64 0, .int .i64 0, .int .i64 0, .bool false, .nilFunc] 72)) (w.heap.size + 1) 72 [.int .i64 0, .int .i64 0, .int .i64 0, .int .i64 0, .bool false, .nilFunc]) := by
    have := Bl.new (w.alloc (.cells ([.int .i64 t.a, .int .i64 t.b, .int .i64 t.c, .int .i64 t.d]).toArray 27)) 72 [.int .i64 0, .int .i64 0, .int .i64 0, .int .i64 0, .bool false, .nilFunc]
    show Bl _ _ _ _
    simpa using this
  have HI : Hid (∀ (n k : Nat) (hk : k < 21) (w : World), (Instr.index 84 (.agg (opL n).toArray) (.int .i64 k)).run Tryd.prog w = .ok (.agg #[.int .i64 (op k).1.a, .int .i64 (op k).1.b, .int .i64 (op k).1.c, .int .i64 (op k).1.d, .bool ((op k).2 == 8), doV n (op k).2]) w) := op_ix
  go_enter Tryd.func26, Tryd.ntmps26
  go_wp2_with (fail)
  go_at_call 34
  refine (hO _).mono ?_
  clear hO
  rintro e w1 ⟨rfl, hA, hB⟩
  have HN : Hid (NX w w1 t (w.heap.size + 1 + 1)) := ⟨Below.step HB0.out hB, HX0.out.below hB, HX1.out.below hB, by simpa using hA, by omega⟩
  clear hA hB HB0 HX0 HX1
  go_wp2
  generalize hn : w.heap.size + 1 + 1 = n at *
  have HI2 : Hid (∀ (k : Nat) (hk : k < 21) (w : World), (Instr.index 84 (.agg (opL n).toArray) (.int .i64 k)).run Tryd.prog w = .ok (.agg #[.int .i64 (op k).1.a, .int .i64 (op k).1.b, .int .i64 (op k).1.c, .int .i64 (op k).1.d, .bool ((op k).2 == 8), doV n (op k).2]) w) := HI.out n
  clear HI hn
  generalize hFA : (opL n).toArray = FA at *
  clear hFA
  go_loopw [7] (fun i wr => ∃ (k : Nat), k ≤ 21 ∧ i = .int .i64 k ∧ opOf t = nO (lOp.drop k) t ∧ NX w wr t n) (fun i _ => 21 - (intOf i).toNat)
  case atStart => exact ⟨0, by omega, rfl, rfl, HN.out⟩
  case round =>
    obtain ⟨k, hk, rfl, hS, hX⟩ := hrel
    have HS : Hid (opOf t = nO (lOp.drop k) t) := hS
    have HX : Hid (NX w wr t n) := hX
    clear hS hX HN
    by_cases h : k < 21
    · have hi : (k : Int) < 21 := by omega
      have HQ : Hid _ := HS.out.trans (nO_at k h t)
      have ix := HI2.out k h
      have hw : IntKind.i64.wrap ((k : Int) + 1) = ((k + 1 : Nat) : Int) := by rw [IntKind.wrap_i64]; omega
      have he := eqT (op k).1 t
      have c0 := HX.out.box.cell
      have l0 := HX.out.box.lt
      have c1 := HX.out.res.cell
      have f1 := HX.out.res.frozen
      have l1 := HX.out.res.lt
      clear HS HI2
      have HT : Hid ((op k).1.same t = true → op k = (t, (op k).2)) := fun hs => by
        have := (Tu.same_iff _ _).1 hs
        rw [← this]
      generalize hc : (op k).2 = c at *
      clear hc
      obtain ⟨fn, cp, hd⟩ : ∃ fn cp, doV n c = .func fn #[] cp := by unfold doV; split <;> exact ⟨_, _, rfl⟩
      rw [hd] at ix
      have HD : Hid (doV n c = .func fn #[] cp) := hd
      clear hd
      have HX2 : ∀ o, Hid (NX w (wr.alloc o) t n) := fun o => HX.out.alloc o
      cases hs : (op k).1.same t
      · rw [hs] at he
        have HV : Hid (opOf t = nO (lOp.drop (k + 1)) t) := by rw [hs] at HQ; exact HQ.out
        clear HQ hs hk HX HT c1 f1 l1
        generalize (op k).1 = T at *
        go_wp2
        go_roundw
        case rel => exact ⟨k + 1, by omega, rfl, HV.out, (HX2 _).out⟩
        case measure => simp [intOf]; omega
      · rw [hs] at he
        have HV : Hid (opOf t = some c) := by rw [hs] at HQ; exact HQ.out
        have ht := HT.out hs
        clear HQ hs hk HT
        rw [ht] at ix he
        clear ht
        have hg1 : ¬ w.heap.size = w.heap.size + 1 := by omega
        have hg2 : ¬ w.heap.size + 1 = wr.heap.size := by omega
        have hg3 : w.heap.size ≤ w.heap.size + 1 := by omega
        have HF : Hid (w.heap.size + 1 ≤ n) := Nat.le_of_lt (HX2 (.cells #[] 0)).out.far
        generalize w.heap.size + 1 = g at *
        have hg4 : g ≤ n := HF.out
        go_wp2
        refine bodyPost_ret (v := .tuple #[.agg #[.int .i64 t.a, .int .i64 t.b, .int .i64 t.c, .int .i64 t.d, .bool (c == 8), .func fn #[] cp], .bool true]) (by simp [results, Tryd.results26, go_sem, c1, f1, l1]) rfl ⟨n, by simp [nmV, HV.out, HD.out], ?_, ?_⟩
        · refine Asks.below ?_ (below_new _ _)
          (repeat (with_reducible refine Asks.setO ?_ hg4 _ _)); with_reducible exact HX.out.ask
        · refine Below.step ?_ (below_new _ _)
          (repeat (with_reducible refine Below.setCell ?_ (by simpa using hg3) _)); with_reducible exact HX.out.bel
    · obtain rfl : k = 21 := by omega
      have HV : Hid (opOf t = none) := HS.out
      have c1 := HX.out.res.cell
      have f1 := HX.out.res.frozen
      have l1 := HX.out.res.lt
      clear HS HI2 h hk
      have hg3 : w.heap.size ≤ w.heap.size + 1 := by omega
      have HF : Hid (w.heap.size + 1 ≤ n) := Nat.le_of_lt HX.out.far
      generalize w.heap.size + 1 = g at *
      go_wp2
      refine bodyPost_ret (v := .tuple #[.agg #[.int .i64 0, .int .i64 0, .int .i64 0, .int .i64 0, .bool false, .nilFunc], .bool false]) (by simp [results, Tryd.results26, go_sem, c1, f1, l1]) rfl ⟨n, by simp [nmV, HV.out], ?_, ?_⟩
      · (repeat (with_reducible refine Asks.setO ?_ HF.out _ _)); exact HX.out.ask
      · (repeat (with_reducible refine Below.setCell ?_ (by simpa using hg3) _)); exact HX.out.bel
end Go.Proofs.YtdinmhjdnnhhjaaDoor

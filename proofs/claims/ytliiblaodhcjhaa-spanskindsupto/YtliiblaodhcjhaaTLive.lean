import Derived.Test.YtliiblaodhcjhaaTSet
import Derived.Laws.StructEq
namespace Go.Proofs.Ytliiblaodhcjhaa.T
open Go.RowKit
set_option linter.unusedVariables false

theorem turn_below {W0 W W' : World} {lo p : Nat} {v : Value} {L : List (Sp (Int × Bool))} (hB : Below W0.heap.size W0 W) (h : MapAt W lo p v L) (hlo : W0.heap.size ≤ lo) (t : Turn W W' p v) : Below W0.heap.size W0 W' :=
  ⟨t.os.trans hB.os, t.tape.trans hB.tape, t.output.trans hB.output, Nat.le_trans hB.size t.size, fun k hk => (t.block k (Nat.lt_of_lt_of_le hk hB.size) (by have := h.low; omega) (fun e => by have := (h.own.lt k e.symm).1; omega)).trans (hB.block k hk)⟩

theorem set_at (W0 W : World) (hB : Below W0.heap.size W0 W) (lo p : Nat) (v : Value) (L : List (Sp (Int × Bool))) (a b : Int) (x : (Int × Bool)) (h : MapAt W lo p v L) (hlo : W0.heap.size ≤ lo) (hsz : (L.length + 4) * 32 ≤ 140737488355328) (ha : 0 ≤ a) (hb : b ≤ 18446744073709551615) :
    Calls Try.prog 30 #[.pointer (some ⟨p, 0, none⟩), .int .u64 a, .int .u64 b, .agg #[.int .i64 x.1, .bool x.2]] W fun e W' => e = .returned (.int .i64 (errC a b)) ∧ ∃ v', MapAt W' lo p v' (setR L a b x) ∧ Below W0.heap.size W0 W' := by
  refine (set_any W lo p v L a b x h hsz ha hb).mono ?_
  rintro e W' ⟨rfl, v', h1, h2, h3⟩
  exact ⟨rfl, v', h1, turn_below hB h hlo h2⟩

theorem clear_at (W0 W : World) (hB : Below W0.heap.size W0 W) (lo p : Nat) (v : Value) (L : List (Sp (Int × Bool))) (a b : Int) (h : MapAt W lo p v L) (hlo : W0.heap.size ≤ lo) (hsz : (L.length + 4) * 32 ≤ 140737488355328) (ha : 0 ≤ a) (hb : b ≤ 18446744073709551615) :
    Calls Try.prog 33 #[.pointer (some ⟨p, 0, none⟩), .int .u64 a, .int .u64 b] W fun e W' => e = .returned (.int .i64 (errC a b)) ∧ ∃ v', MapAt W' lo p v' (clearR L a b) ∧ Below W0.heap.size W0 W' := by
  refine (clear_any W lo p v L a b h hsz ha hb).mono ?_
  rintro e W' ⟨rfl, v', h1, h2, h3⟩
  exact ⟨rfl, v', h1, turn_below hB h hlo h2⟩

theorem next_at (W0 W : World) (hB : Below W0.heap.size W0 W) (lo p : Nat) (v : Value) (L : List (Sp (Int × Bool))) (k : Int) (h : MapAt W lo p v L) (hsz : L.length < 4611686018427387904) (o : Option (Sp (Int × Bool))) (ho : next L k = o) :
    Calls Try.prog 67 #[.pointer (some ⟨p, 0, none⟩), .int .u64 k] W fun e W' => e = .returned (optV o) ∧ MapAt W' lo p v L ∧ Below W0.heap.size W0 W' ∧ Below W.heap.size W W' := by
  subst ho
  refine (next_any W lo p v L k h hsz).mono ?_
  rintro e W' ⟨rfl, hb⟩
  exact ⟨rfl, h.keep hb, below_go hB hb, hb⟩

theorem get_at (W0 W : World) (hB : Below W0.heap.size W0 W) (lo p : Nat) (v : Value) (L : List (Sp (Int × Bool))) (k : Int) (h : MapAt W lo p v L) (hsz : L.length < 4611686018427387904) (o : Option (Int × Bool)) (ho : get L k = o) :
    Calls Try.prog 35 #[.pointer (some ⟨p, 0, none⟩), .int .u64 k] W fun e W' => e = .returned (getV o) ∧ MapAt W' lo p v L ∧ Below W0.heap.size W0 W' ∧ Below W.heap.size W W' := by
  subst ho
  refine (get_any W lo p v L k h hsz).mono ?_
  rintro e W' ⟨rfl, hb⟩
  exact ⟨rfl, h.keep hb, below_go hB hb, hb⟩

end Go.Proofs.Ytliiblaodhcjhaa.T

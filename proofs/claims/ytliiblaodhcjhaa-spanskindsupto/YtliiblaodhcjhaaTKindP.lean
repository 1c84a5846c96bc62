import Derived.Test.YtliiblaodhcjhaaTLive
import Derived.Test.YtliiblaodhcjhaaTwo
import Derived.Test.YtliiblaodhcjhaaLaw1
import Derived.Laws.BitsLemmas
namespace Go.Proofs.Ytliiblaodhcjhaa.T
open Go.RowKit
set_option linter.unusedVariables false

/-- A list of spans with other values. -/
def mapS (f : Int → Int × Bool) (R : List (Sp Int)) : List (Sp (Int × Bool)) := R.map fun s => ⟨s.lo, s.hi, f s.val⟩

theorem mapS_get (f : Int → Int × Bool) (R : List (Sp Int)) (k : Int) : get (mapS f R) k = (get R k).map f := by
  induction R with
  | nil => rfl
  | cons s r ih =>
    have e : mapS f (s :: r) = ⟨s.lo, s.hi, f s.val⟩ :: mapS f r := rfl
    rw [e, get, get]
    split
    · rfl
    · exact ih

theorem mapS_good {f : Int → Int × Bool} (hf : ∀ x y, f x = f y → x = y) {R : List (Sp Int)} {c : Int} {u : Option Int} (h : Good c u R) : Good c (u.map f) (mapS f R) := by
  induction R generalizing c u with
  | nil => trivial
  | cons s r ih =>
    obtain ⟨h1, h2, h3, h4, h5⟩ := h
    refine ⟨h1, h2, h3, fun e he => h4 e ?_, ih h5⟩
    cases u with
    | none => cases he
    | some y => exact congrArg some (hf _ _ (Option.some.inj he))

/-- The tag of a number. -/
def tagF (n : Int) : Int × Bool := (n / 2, bits BinOp.and IntKind.i64 n 1 != 0)

theorem i64_and1 (n : Int) : bits .and .i64 n 1 = n % 2 := by
  have h1 : (BitVec.ofInt 64 1).toNat = 2 ^ 1 - 1 := by decide
  have key : (BitVec.ofInt 64 n &&& BitVec.ofInt 64 1).toNat = (n % ((2 ^ 64 : Nat) : Int)).toNat % 2 ^ 1 := by
    rw [BitVec.toNat_and, BitVec.toNat_ofInt, h1, Nat.and_two_pow_sub_one_eq_mod]
  show IntKind.i64.wrap ((BitVec.ofInt 64 n &&& BitVec.ofInt 64 1).toNat : Nat) = n % 2
  rw [key, IntKind.wrap_i64]
  omega

theorem tagF_inj (x y : Int) (h : tagF x = tagF y) : x = y := by
  rw [tagF, tagF, i64_and1, i64_and1] at h
  have h1 : x / 2 = y / 2 := congrArg Prod.fst h
  have h2 : (x % 2 != 0) = (y % 2 != 0) := congrArg Prod.snd h
  by_cases hx : x % 2 = 0 <;> by_cases hy : y % 2 = 0
  · omega
  · rw [hx, show (y % 2 != 0) = true by simpa using hy] at h2
    cases h2
  · rw [hy, show (x % 2 != 0) = true by simpa using hx] at h2
    cases h2
  · omega

/-- What a map of tags and the reference tell is the same. -/
def BothT (L : List (Sp (Int × Bool))) (D : List Dn) : Prop := ∀ k, 0 ≤ k → k ≤ 18446744073709551615 → get L k = (refG D k).map tagF

theorem bothT_set {L : List (Sp (Int × Bool))} {D : List Dn} (h : BothT L D) (hg : Good 0 none L) {a b : Int} (ha : 0 ≤ a) (hb : b ≤ 18446744073709551615) (x : Int) : BothT (setR L a b (tagF x)) (didR D ⟨a, b, true, x⟩) := by
  intro k h0 h1
  rw [setR, didR]
  by_cases hab : a ≤ b
  · rw [if_pos hab, if_pos (show (⟨a, b, true, x⟩ : Dn).lo ≤ (⟨a, b, true, x⟩ : Dn).hi from hab), setL_get hg ha hab hb, refG_snoc]
    by_cases hc : a ≤ k ∧ k ≤ b
    · rw [if_pos hc, if_pos hc]; rfl
    · rw [if_neg hc, if_neg hc]; exact h k h0 h1
  · rw [if_neg hab, if_neg (show ¬ (⟨a, b, true, x⟩ : Dn).lo ≤ (⟨a, b, true, x⟩ : Dn).hi from hab)]
    exact h k h0 h1

theorem bothT_clear {L : List (Sp (Int × Bool))} {D : List Dn} (h : BothT L D) (hg : Good 0 none L) {a b : Int} : BothT (clearR L a b) (didR D ⟨a, b, false, 0⟩) := by
  intro k h0 h1
  rw [clearR, didR]
  by_cases hab : a ≤ b
  · rw [if_pos hab, if_pos (show (⟨a, b, false, 0⟩ : Dn).lo ≤ (⟨a, b, false, 0⟩ : Dn).hi from hab), clearL_get hg hab, refG_snoc]
    by_cases hc : a ≤ k ∧ k ≤ b
    · rw [if_pos hc, if_pos hc]; rfl
    · rw [if_neg hc, if_neg hc]; exact h k h0 h1
  · rw [if_neg hab, if_neg (show ¬ (⟨a, b, false, 0⟩ : Dn).lo ≤ (⟨a, b, false, 0⟩ : Dn).hi from hab)]
    exact h k h0 h1

theorem setR_len' {L : List (Sp (Int × Bool))} (h : Good 0 none L) {a b : Int} (ha : 0 ≤ a) (hb : b ≤ 18446744073709551615) (x : Int × Bool) : (setR L a b x).length ≤ L.length + 2 := by
  rw [setR]
  split
  · exact setL_len h ha (by assumption) hb x
  · omega
theorem clearR_len' {L : List (Sp (Int × Bool))} (h : Good 0 none L) {a b : Int} : (clearR L a b).length ≤ L.length + 2 := by
  rw [clearR]
  split
  · have := clearL_len h (lo := a) (hi := b) (by assumption); omega
  · omega

theorem Turn.to {W W' : World} {p : Nat} {v : Value} (t : Turn W W' p v) : Go.Proofs.Ytliiblaodhcjhaa.Turn W W' p v := ⟨t.os, t.tape, t.output, t.size, t.block⟩

theorem refTurn {W W' : World} {lo lo' p q : Nat} {u v : Value} {D : List Dn} {L : List (Sp (Int × Bool))} (h : RefAt W lo q u D) (hm : MapAt W lo' p v L) (t : Turn W W' p v) : RefAt W' lo q u D := by
  refine ⟨?_, row_turn h.own t.to ?_ ?_, h.low, h.rng⟩
  · rw [t.block q h.lt (block_ne h.box hm.box (by decide)) (fun e => by obtain ⟨cur, hc⟩ := own_type hm.own e.symm; exact block_ne h.box hc (by decide) rfl)]
    exact h.box
  · intro g hg
    obtain ⟨cur, hc⟩ := own_type h.own hg
    exact block_ne hc hm.box (by decide)
  · intro g hg e
    obtain ⟨cur, hc⟩ := own_type h.own hg
    obtain ⟨cur2, hc2⟩ := own_type hm.own e.symm
    exact block_ne hc hc2 (by decide) rfl

theorem mapTurn {W W' : World} {lo lo' p q : Nat} {u v : Value} {D : List Dn} {L : List (Sp (Int × Bool))} (h : MapAt W lo p v L) (hm : RefAt W lo' q u D) (t : Go.Proofs.Ytliiblaodhcjhaa.Turn W W' q u) : MapAt W' lo p v L := by
  refine ⟨?_, row_turn h.own t ?_ ?_, h.low, h.good⟩
  · rw [t.block p h.lt (block_ne h.box hm.box (by decide)) (fun e => by obtain ⟨cur, hc⟩ := own_type hm.own e.symm; exact block_ne h.box hc (by decide) rfl)]
    exact h.box
  · intro g hg
    obtain ⟨cur, hc⟩ := own_type h.own hg
    exact block_ne hc hm.box (by decide)
  · intro g hg e
    obtain ⟨cur, hc⟩ := own_type h.own hg
    obtain ⟨cur2, hc2⟩ := own_type hm.own e.symm
    exact block_ne hc hc2 (by decide) rfl

/-- A block of another type stays as it is. -/
theorem Turn.other {W W' : World} {lo p b : Nat} {v : Value} {L : List (Sp (Int × Bool))} (t : Turn W W' p v) (hm : MapAt W lo p v L) {cur : Array Value} (hb : W.heap[b]? = some (.cells cur 28 (0, 0))) : W'.heap[b]? = some (.cells cur 28 (0, 0)) := by
  rw [t.block b (Array.getElem?_eq_some_iff.1 hb).1 (block_ne hb hm.box (by decide)) (fun e => by obtain ⟨c2, hc2⟩ := own_type hm.own e.symm; exact block_ne hb hc2 (by decide) rfl)]
  exact hb
theorem otherR {W W' : World} {lo p b : Nat} {v : Value} {D : List Dn} (t : Go.Proofs.Ytliiblaodhcjhaa.Turn W W' p v) (hm : RefAt W lo p v D) {cur : Array Value} (hb : W.heap[b]? = some (.cells cur 28 (0, 0))) : W'.heap[b]? = some (.cells cur 28 (0, 0)) := by
  rw [t.block b (Array.getElem?_eq_some_iff.1 hb).1 (block_ne hb hm.box (by decide)) (fun e => by obtain ⟨c2, hc2⟩ := own_type hm.own e.symm; exact block_ne hb hc2 (by decide) rfl)]
  exact hb

set_option maxHeartbeats 1000000 in
theorem tag_any (n : Int) (w : World) : Calls Try.prog 31 #[.int .i64 n] w fun e w' => e = .returned (.agg #[.int .i64 (tagF n).1, .bool (tagF n).2]) ∧ Below w.heap.size w w' := by
  go_enter Try.func31, Try.ntmps31
  go_wp2
  refine bodyPost_ret (v := .agg #[.int .i64 (n / 2), .bool (bits BinOp.and IntKind.i64 n 1 != 0)]) (by simp [results, Try.results31, go_sem]) rfl ⟨rfl, below_alloc (Below.refl _ w) _⟩

/-- Two tags by !=. -/
theorem neq_tag (a b : Int) (c d : Bool) (w : World) : (binOp .neq 65 (.agg #[.int .i64 a, .bool c]) (.agg #[.int .i64 b, .bool d])).run Try.prog w = .ok (.bool (!(a == b && c == d))) w := by
  have h1 := eql_tag a b c d w
  rw [run_eql_struct] at h1
  rw [run_neq_struct]
  cases hq : (Op.equalIn 10000 65 (.agg #[.int .i64 a, .bool c]) (.agg #[.int .i64 b, .bool d])).run Try.prog w with
  | ok b w' =>
    rw [hq] at h1
    simp only [Result.andThen] at h1 ⊢
    cases h1
    rfl
  | _ => rw [hq] at h1; simp [Result.andThen] at h1
end Go.Proofs.Ytliiblaodhcjhaa.T

import Derived.Test.YtbbnodhpafiplaaDoorTr
namespace Go.Proofs.YtbbnodhpafiplaaDoor
open Go.RowKit
set_option linter.unusedVariables false
set_option linter.unusedSimpArgs false
theorem trans_any (e : Ent) (dm va : Int) (W : World) (ht : TT W) (hO : Ok e) (hva : 0 ≤ va ∧ va < 4294967296) :
    Calls Tryd.prog 34 #[.agg #[.int .i64 e.kind, .int .u64 e.base, .int .i64 e.dom, .bool e.ns, .int .i64 e.ap, .int .u32 e.bits, .bool e.ng, .bool e.xn], .int .i64 dm, .int .u32 va] W fun r w' => r = .returned (.agg #[.int .i64 (trF e dm va).size, .int .u32 (trF e dm va).va, .int .u64 (trF e dm va).pa, .int .i64 (trF e dm va).dom, .int .i64 (trF e dm va).ap, .int .u32 (trF e dm va).bits, .bool (trF e dm va).ng, .bool (trF e dm va).xn]) ∧ Below W.heap.size W w' := by
  have HS := fun ww (hh : TE ww) => saysBlock_any e ww hh hO
  cases hs : sb e with
  | false =>
    rw [hs] at HS
    rw [show trF e dm va = tZ by unfold trF; rw [if_neg (by rw [hs]; simp)]]
    exact trans_no _ _ _ _ _ _ _ _ dm va W ht HS
  | true =>
    rw [hs] at HS
    by_cases h0 : domOf e dm < 0
    · rw [show trF e dm va = tZ by unfold trF; rw [if_neg (by omega)]]
      rcases sb_kind hs with h | h | h | h
      · have hD : domOf e dm = e.dom := by unfold domOf; rw [if_pos (.inl h)]
        rw [hD] at h0
        rw [h] at HS ⊢
        exact trans_2lo _ _ _ _ _ _ _ dm va W ht (decide_eq_true h0) HS
      · have hD : domOf e dm = e.dom := by unfold domOf; rw [if_pos (.inr h)]
        rw [hD] at h0
        rw [h] at HS ⊢
        exact trans_3lo _ _ _ _ _ _ _ dm va W ht (decide_eq_true h0) HS
      · have hD : domOf e dm = dm := by unfold domOf; rw [if_neg (by omega)]
        rw [hD] at h0
        rw [h] at HS ⊢
        exact trans_4lo _ _ _ _ _ _ _ dm va W ht (decide_eq_true h0) HS
      · have hD : domOf e dm = dm := by unfold domOf; rw [if_neg (by omega)]
        rw [hD] at h0
        rw [h] at HS ⊢
        exact trans_5lo _ _ _ _ _ _ _ dm va W ht (decide_eq_true h0) HS
    · by_cases h1 : 15 < domOf e dm
      · rw [show trF e dm va = tZ by unfold trF; rw [if_neg (by omega)]]
        rcases sb_kind hs with h | h | h | h
        · have hD : domOf e dm = e.dom := by unfold domOf; rw [if_pos (.inl h)]
          rw [hD] at h0 h1
          rw [h] at HS ⊢
          exact trans_2hi _ _ _ _ _ _ _ dm va W ht (decide_eq_false h0) (decide_eq_true h1) HS
        · have hD : domOf e dm = e.dom := by unfold domOf; rw [if_pos (.inr h)]
          rw [hD] at h0 h1
          rw [h] at HS ⊢
          exact trans_3hi _ _ _ _ _ _ _ dm va W ht (decide_eq_false h0) (decide_eq_true h1) HS
        · have hD : domOf e dm = dm := by unfold domOf; rw [if_neg (by omega)]
          rw [hD] at h0 h1
          rw [h] at HS ⊢
          exact trans_4hi _ _ _ _ _ _ _ dm va W ht (decide_eq_false h0) (decide_eq_true h1) HS
        · have hD : domOf e dm = dm := by unfold domOf; rw [if_neg (by omega)]
          rw [hD] at h0 h1
          rw [h] at HS ⊢
          exact trans_5hi _ _ _ _ _ _ _ dm va W ht (decide_eq_false h0) (decide_eq_true h1) HS
      · rw [show trF e dm va = ⟨szK e.kind, va / byN (szK e.kind) * byN (szK e.kind), e.base, domOf e dm, e.ap, e.bits, e.ng, e.xn⟩ by unfold trF; rw [if_pos ⟨hs, by omega, by omega⟩]]
        rcases sb_kind hs with h | h | h | h
        · have hD : domOf e dm = e.dom := by unfold domOf; rw [if_pos (.inl h)]
          rw [hD] at h0 h1 ⊢
          rw [h] at HS ⊢
          exact trans_2 _ _ _ _ _ _ _ dm va W ht hva (decide_eq_false h0) (decide_eq_false h1) HS
        · have hD : domOf e dm = e.dom := by unfold domOf; rw [if_pos (.inr h)]
          rw [hD] at h0 h1 ⊢
          rw [h] at HS ⊢
          exact trans_3 _ _ _ _ _ _ _ dm va W ht hva (decide_eq_false h0) (decide_eq_false h1) HS
        · have hD : domOf e dm = dm := by unfold domOf; rw [if_neg (by omega)]
          rw [hD] at h0 h1 ⊢
          rw [h] at HS ⊢
          exact trans_4 _ _ _ _ _ _ _ dm va W ht hva (decide_eq_false h0) (decide_eq_false h1) HS
        · have hD : domOf e dm = dm := by unfold domOf; rw [if_neg (by omega)]
          rw [hD] at h0 h1 ⊢
          rw [h] at HS ⊢
          exact trans_5 _ _ _ _ _ _ _ dm va W ht hva (decide_eq_false h0) (decide_eq_false h1) HS
end Go.Proofs.YtbbnodhpafiplaaDoor

import Derived.Test.YtliiblaodhcjhabLive
namespace Go.Proofs.Ytliiblaodhcjhab
open Go.RowKit
set_option linter.unusedVariables false

/-- A call of a script. -/
structure Op4 where
  kind : Int
  lo : Int
  hi : Int
  val : Int

/-- A script as it lies in memory. -/
structure Script (W : World) (a : Option Addr) (ops : List Op4) : Prop where
  lies : ∀ i o, ops[i]? = some o → ∃ b off, a = some ⟨b, off, none⟩ ∧ b < W.heap.size ∧ W.cell? ⟨b, off + i * 4, none⟩ = some (.int .i64 o.kind) ∧ W.cell? ⟨b, off + i * 4 + 1, none⟩ = some (.int .u64 o.lo) ∧ W.cell? ⟨b, off + i * 4 + 2, none⟩ = some (.int .u64 o.hi) ∧ W.cell? ⟨b, off + i * 4 + 3, none⟩ = some (.int .i64 o.val)
  rng : ∀ o ∈ ops, (0 ≤ o.lo ∧ o.lo ≤ 18446744073709551615) ∧ (0 ≤ o.hi ∧ o.hi ≤ 18446744073709551615) ∧ (-9223372036854775808 ≤ o.kind ∧ o.kind ≤ 9223372036854775807) ∧ (-9223372036854775808 ≤ o.val ∧ o.val ≤ 9223372036854775807)

theorem Turn.cell {W W' : World} {p : Nat} {v : Value} (t : Turn W W' p v) {b o : Nat} (hb : b < W.heap.size) (h1 : b ≠ p) (h2 : some b ≠ v.ownBlock) : W'.cell? ⟨b, o, none⟩ = W.cell? ⟨b, o, none⟩ :=
  World.cell?_of_block (w := W) (t.block b hb h1 h2)

theorem setR_len {L : List (Sp Int)} (h : Good 0 none L) {a b : Int} (ha : 0 ≤ a) (hb : b ≤ 18446744073709551615) (x : Int) : (setR L a b x).length ≤ L.length + 2 := by
  rw [setR]
  split
  · exact setL_len h ha (by assumption) hb x
  · omega
theorem clearR_len {L : List (Sp Int)} (h : Good 0 none L) {a b : Int} : (clearR L a b).length ≤ L.length + 2 := by
  rw [clearR]
  split
  · have := clearL_len h (lo := a) (hi := b) (by assumption); omega
  · omega

end Go.Proofs.Ytliiblaodhcjhab

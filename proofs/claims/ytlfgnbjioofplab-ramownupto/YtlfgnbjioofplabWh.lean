import Derived.Test.YtlfgnbjioofplabKs
namespace Go.Proofs.Ytlfgnbjioofplab
open Go.RowKit
set_option linter.unusedVariables false

/-- One call of a script. -/
structure Op3 where
  kind : Int
  who : Int
  n : Int
  pa : Nat
  v : Int
  bs : List Int
  a : Option Addr
  cap : Nat
def Op3.cells (o : Op3) : List Value := [.int .i64 o.kind, .int .i64 o.who, .int .i64 o.n, .int .u64 o.pa, .int .u32 o.v, .slice o.a o.bs.length o.cap]
structure Op3.ok (o : Op3) (W : World) (B : Nat) : Prop where
  k1 : -9223372036854775808 ≤ o.kind
  k2 : o.kind ≤ 9223372036854775807
  w1 : -9223372036854775808 ≤ o.who
  w2 : o.who ≤ 9223372036854775807
  n1 : -9223372036854775808 ≤ o.n
  n2 : o.n ≤ 9223372036854775807
  p2 : o.pa < 18446744073709551616
  v1 : 0 ≤ o.v
  v2 : o.v < 4294967296
  bl : o.bs.length ≤ 140737488355328
  bc : o.bs.length ≤ o.cap
  bz : o.a = none → o.bs = [] ∧ o.cap = 0
  by_ : ∀ x ∈ o.bs, 0 ≤ x ∧ x < 256
  lies : ∀ i x, o.bs[i]? = some x → ∃ g q, o.a = some ⟨g, q, none⟩ ∧ g < B ∧ W.cell? ⟨g, q + i, none⟩ = some (.int .u8 x)

theorem who_q (W : World) (n : Int) (h1 : -9223372036854775808 ≤ n) (h2 : n ≤ 9223372036854775807) : Calls Try.prog 6 #[.int .i64 n] W fun e W' => e = .returned (.int .i64 (w3 n : Int)) ∧ W' = W := (who_any W n h1 h2).mono (fun e W' ⟨h1, h2⟩ => ⟨h1, h2.symm⟩)

theorem byt_mod1 (v : Int) : byt (v % 256) 1 = byt v 1 := by simp [byt]
theorem byt_mod2 (v : Int) : byt (v % 65536) 2 = byt v 2 := by
  simp only [byt]
  rw [show v % 65536 % 256 = v % 256 by omega, show v % 65536 / 256 % 256 = v / 256 % 256 by omega]
theorem setV_mod1 (N : Nat) (m : Nat → Int) (pa : Nat) (v : Int) : setV N m pa 1 (v % 256) = setV N m pa 1 v := by unfold setV; rw [byt_mod1]
theorem setV_mod2 (N : Nat) (m : Nat → Int) (pa : Nat) (v : Int) : setV N m pa 2 (v % 65536) = setV N m pa 2 v := by unfold setV; rw [byt_mod2]
theorem good_up {s : St} (h : s.good) (i : Nat) (m : Nat → Int) : ((s.upP i m).upR i m).good := by
  refine ⟨h.1, fun j hj => ?_⟩
  show up s.mp i m j = up s.mr i m j
  by_cases e : j = i
  · subst e; rw [up_same, up_same]
  · rw [up_other _ _ e, up_other _ _ e]; exact h.2 j hj
end Go.Proofs.Ytlfgnbjioofplab

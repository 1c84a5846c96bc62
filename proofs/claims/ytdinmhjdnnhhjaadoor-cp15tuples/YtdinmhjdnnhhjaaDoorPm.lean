import Derived.Test.YtdinmhjdnnhhjaaDoorPk
import Derived.Test.YtdinmhjdnnhhjaaDoorPl
namespace Go.Proofs.YtdinmhjdnnhhjaaDoor
open Go.RowKit
set_option linter.unusedVariables false
set_option linter.unusedSimpArgs false
theorem opOf_le {t : Tu} {c : Nat} (h : opOf t = some c) : c = 0 ∨ c = 1 ∨ c = 2 ∨ c = 3 ∨ c = 4 ∨ c = 5 ∨ c = 6 ∨ c = 7 ∨ c = 8 := by
  have := nO_mem _ _ _ h
  simp only [lOp, List.mem_cons, Prod.mk.injEq, List.not_mem_nil, or_false] at this
  omega
theorem wr_reg {F : List Nat} {t : Tu} {r : Nat} (priv : Bool) (x : Nat) (h : regOf t = some r) : wrF F t priv x = setF F r priv x := by simp [wrF, h]
theorem wr_none {F : List Nat} {t : Tu} (priv : Bool) (x : Nat) (h : regOf t = none) (ho : opOf t = none) : wrF F t priv x = (aZ, 80, F) := by simp [wrF, h, ho]
theorem wr_yes {F : List Nat} {t : Tu} {c : Nat} (priv : Bool) (x : Nat) (h : regOf t = none) (ho : opOf t = some c) (hp : (priv || c == 8) = true) : wrF F t priv x = (actD c x, 0, F) := by simp [wrF, h, ho, hp]
theorem wr_no {F : List Nat} {t : Tu} {c : Nat} (priv : Bool) (x : Nat) (h : regOf t = none) (ho : opOf t = some c) (hp : (priv || c == 8) = false) : wrF F t priv x = (aZ, 81, F) := by simp [wrF, h, ho, hp]
theorem write_any (b x : Nat) (t : Tu) (priv : Bool) (F : List Nat) (w : World) (hF : Fi 63 w b F) (hT : TR w) (hx : x < 4294967296) :
    Calls Tryd.prog 17 #[.pointer (some ⟨b, 0, none⟩), .agg #[.int .i64 t.a, .int .i64 t.b, .int .i64 t.c, .int .i64 t.d], .bool priv, .int .u32 (x : Int)] w fun e w' => e = .returned (.tuple #[.agg #[.int .i64 ((wrF F t priv x).1).k, .int .i64 ((wrF F t priv x).1).tk, .int .u32 (((wrF F t priv x).1).tva : Nat), .int .i64 (((wrF F t priv x).1).tas : Nat), .int .u32 (((wrF F t priv x).1).va : Nat), .bool ((wrF F t priv x).1).us, .bool ((wrF F t priv x).1).st], .int .i64 ((wrF F t priv x).2.1 : Nat)]) ∧ Fi 63 w' b (wrF F t priv x).2.2 ∧ Turn (· = b) w w' := by
  cases hr : regOf t with
  | some r => rw [wr_reg priv x hr]; exact write_reg b x r t priv F w hF hT hx hr
  | none =>
    cases ho : opOf t with
    | none => rw [wr_none priv x hr ho]; exact write_none b x t priv F w hF hT hr ho
    | some c =>
      have hc := opOf_le ho
      cases priv
      · rcases hc with rfl | rfl | rfl | rfl | rfl | rfl | rfl | rfl | rfl
        · rw [wr_no false x hr ho rfl]; exact write_no0 b x t F w hF hT hx hr ho
        · rw [wr_no false x hr ho rfl]; exact write_no1 b x t F w hF hT hx hr ho
        · rw [wr_no false x hr ho rfl]; exact write_no2 b x t F w hF hT hx hr ho
        · rw [wr_no false x hr ho rfl]; exact write_no3 b x t F w hF hT hx hr ho
        · rw [wr_no false x hr ho rfl]; exact write_no4 b x t F w hF hT hx hr ho
        · rw [wr_no false x hr ho rfl]; exact write_no5 b x t F w hF hT hx hr ho
        · rw [wr_no false x hr ho rfl]; exact write_no6 b x t F w hF hT hx hr ho
        · rw [wr_no false x hr ho rfl]; exact write_no7 b x t F w hF hT hx hr ho
        · rw [wr_yes false x hr ho rfl]; exact write_yes8u b x t F w hF hT hx hr ho
      · rcases hc with rfl | rfl | rfl | rfl | rfl | rfl | rfl | rfl | rfl
        · rw [wr_yes true x hr ho rfl]; exact write_yes0 b x t F w hF hT hx hr ho
        · rw [wr_yes true x hr ho rfl]; exact write_yes1 b x t F w hF hT hx hr ho
        · rw [wr_yes true x hr ho rfl]; exact write_yes2 b x t F w hF hT hx hr ho
        · rw [wr_yes true x hr ho rfl]; exact write_yes3 b x t F w hF hT hx hr ho
        · rw [wr_yes true x hr ho rfl]; exact write_yes4 b x t F w hF hT hx hr ho
        · rw [wr_yes true x hr ho rfl]; exact write_yes5 b x t F w hF hT hx hr ho
        · rw [wr_yes true x hr ho rfl]; exact write_yes6 b x t F w hF hT hx hr ho
        · rw [wr_yes true x hr ho rfl]; exact write_yes7 b x t F w hF hT hx hr ho
        · rw [wr_yes true x hr ho rfl]; exact write_yes8 b x t F w hF hT hx hr ho
end Go.Proofs.YtdinmhjdnnhhjaaDoor

import Derived.Test.YtliiblaodhcjhaaLaid
namespace Go.Proofs.Ytliiblaodhcjhaa
open Go.RowKit
set_option linter.unusedVariables false

/-- Is the key in the range of this call? -/
def hit (o : Op4) (k : Int) : Prop := (o.kind = 1 ∨ o.kind = 2) ∧ o.lo ≤ k ∧ k ≤ o.hi
def tells (o : Op4) : Option Int := if o.kind = 1 then some o.val else none

theorem layS_get {L : List (Sp Int)} (h : Good 0 none L) {o : Op4} (r1 : 0 ≤ o.lo) (r4 : o.hi ≤ 18446744073709551615) (k : Int) :
    (hit o k → get (layS L o) k = tells o) ∧ (¬ hit o k → get (layS L o) k = get L k) := by
  rw [layS, tells]
  by_cases h1 : o.kind = 1
  · rw [if_pos h1, if_pos h1, setR]
    by_cases hab : o.lo ≤ o.hi
    · rw [if_pos hab, setL_get h r1 hab r4]
      exact ⟨fun hh => by rw [if_pos hh.2], fun hh => by rw [if_neg (fun h2 => hh ⟨.inl h1, h2⟩)]⟩
    · rw [if_neg hab]
      exact ⟨fun hh => by have := hh.2; omega, fun _ => rfl⟩
  · rw [if_neg h1, if_neg h1]
    by_cases h2 : o.kind = 2
    · rw [if_pos h2, clearR]
      by_cases hab : o.lo ≤ o.hi
      · rw [if_pos hab, clearL_get h hab]
        exact ⟨fun hh => by rw [if_pos hh.2], fun hh => by rw [if_neg (fun h3 => hh ⟨.inr h2, h3⟩)]⟩
      · rw [if_neg hab]
        exact ⟨fun hh => by have := hh.2; omega, fun _ => rfl⟩
    · rw [if_neg h2]
      exact ⟨fun hh => by rcases hh.1 with e | e <;> omega, fun _ => rfl⟩

theorem layS_good {L : List (Sp Int)} (h : Good 0 none L) {o : Op4} (r1 : 0 ≤ o.lo) (r4 : o.hi ≤ 18446744073709551615) : Good 0 none (layS L o) := by
  rw [layS]
  split
  · rw [setR]
    split
    · exact setL_good h r1 (by assumption) r4 _
    · exact h
  · split
    · rw [clearR]
      split
      · exact clearL_good h r1 (by assumption)
      · exact h
    · exact h

theorem layL_good_take {W : World} {a : Option Addr} {ops : List Op4} (S : Script W a ops) (k : Nat) (hk : k ≤ ops.length) : Good 0 none (layL (ops.take k)) := by
  induction k with
  | zero => exact trivial
  | succ k ih =>
    have ho : ops[k]? = some ops[k] := List.getElem?_eq_getElem (by omega)
    rw [layL_take_succ ops k _ ho]
    have hr := S.rng _ (List.mem_of_getElem? ho)
    exact layS_good (ih (by omega)) hr.1.1 hr.2.1.2

set_option maxHeartbeats 4000000 in
set_option maxRecDepth 100000 in
theorem said_any (W0 W : World) (hB : Below W0.heap.size W0 W) (a : Option Addr) (cap : Nat) (ops : List Op4) (S : Script W0 a ops) (hs : ops.length ≤ 1048576) (x : Int) :
    Calls Try.prog 18 #[.slice a ops.length cap, .int .u64 x] W fun e W' => e = .returned (getV (get (layL ops) x)) ∧ Below W0.heap.size W0 W' ∧ Below W.heap.size W W' := by
  have HS : Hid (Script W0 a ops) := S
  have HX : Hid (get (layL ops) x = get (layL (ops.take ops.length)) x) := by show _ = _; rw [List.take_length]
  clear S
  generalize hg : get (layL ops) x = r at *
  clear hg
  generalize hn : ops.length = n at *
  have HN : Hid (ops.length = n) := hn
  clear hn
  go_enter Try.func18, Try.ntmps18
  go_wp2
  go_loopw [6] (fun i wr => ∃ (k : Nat), k ≤ n ∧ i = .int .i64 ((k : Int) - 1) ∧ Hid (r = get (layL (ops.take k)) x) ∧ Hid (Below W0.heap.size W0 wr ∧ Below W.heap.size W wr)) (fun i _ => (intOf i + 1).toNat)
  case atStart => exact ⟨n, Nat.le_refl _, rfl, HX, ⟨hB, Below.refl _ _⟩⟩
  case round =>
    obtain ⟨k, hk, rfl, HR, HB⟩ := hrel
    clear HX
    cases k with
    | zero =>
      have hr : r = none := HR.out
      subst hr
      go_wp2
      go_ret2
      exact ⟨rfl, HB.out⟩
    | succ k =>
      obtain ⟨o, ho⟩ : ∃ o, ops[k]? = some o := ⟨_, List.getElem?_eq_getElem (by rw [HN.out]; omega)⟩
      obtain ⟨b, off, rfl, hbl, e0, e1, e2, e3⟩ := HS.out.lies k o ho
      obtain ⟨⟨r1, r2⟩, ⟨r3, r4⟩, ⟨r5, r6⟩, ⟨r7, r8⟩⟩ := HS.out.rng o (List.mem_of_getElem? ho)
      obtain ⟨hcc, _⟩ := bcell HB.out.1
      rw [← hcc b _ hbl] at e0 e1 e2 e3
      have hst := layL_take_succ ops k o ho
      obtain ⟨g1, g2⟩ := layS_get (layL_good_take HS.out k (by rw [HN.out]; omega)) r1 r4 x
      rw [← hst, ← HR.out] at g1 g2
      have G1 : Hid (hit o x → r = tells o) := g1
      have G2 : Hid (¬ hit o x → r = get (layL (ops.take k)) x) := g2
      clear hcc ho hst g1 g2 HR
      have hkz : (k : Int) < (n : Int) := by omega
      have hk0 : (0 : Int) ≤ (k : Int) := by omega
      have hks : ((k + 1 : Nat) : Int) - 1 = (k : Int) := by omega
      have hB2 := fun ob => (⟨below_alloc HB.out.1 ob, below_alloc HB.out.2 ob⟩ : Below W0.heap.size W0 (wr.alloc ob) ∧ Below W.heap.size W (wr.alloc ob))
      rw [hks]
      clear hks
      by_cases h1 : o.kind = 1
      · have k1 : (o.kind == 1) = true := by simp [h1]
        by_cases c1 : o.lo ≤ x
        · by_cases c2 : x ≤ o.hi
          · have hr := G1.out ⟨.inl h1, c1, c2⟩
            rw [tells, if_pos h1] at hr
            subst hr
            clear G1 G2 h1
            go_wp2
            go_ret2
            exact ⟨rfl, hB2 _⟩
          · have HR2 : Hid (r = get (layL (ops.take k)) x) := G2.out (fun h => c2 h.2.2)
            clear G1 G2 h1
            go_wp2
            go_roundw
            case rel => exact ⟨k, by omega, rfl, HR2, hB2 _⟩
            case measure => simp [intOf]
        · have HR2 : Hid (r = get (layL (ops.take k)) x) := G2.out (fun h => c1 h.2.1)
          clear G1 G2 h1
          go_wp2
          go_roundw
          case rel => exact ⟨k, by omega, rfl, HR2, hB2 _⟩
          case measure => simp [intOf]
      · have k1 : (o.kind == 1) = false := by simp [h1]
        by_cases h2 : o.kind = 2
        · have k2 : (o.kind == 2) = true := by simp [h2]
          by_cases c1 : o.lo ≤ x
          · by_cases c2 : x ≤ o.hi
            · have hr := G1.out ⟨.inr h2, c1, c2⟩
              rw [tells, if_neg h1] at hr
              subst hr
              clear G1 G2 h1 h2
              go_wp2
              go_ret2
              exact ⟨rfl, hB2 _⟩
            · have HR2 : Hid (r = get (layL (ops.take k)) x) := G2.out (fun h => c2 h.2.2)
              clear G1 G2 h1 h2
              go_wp2
              go_roundw
              case rel => exact ⟨k, by omega, rfl, HR2, hB2 _⟩
              case measure => simp [intOf]
          · have HR2 : Hid (r = get (layL (ops.take k)) x) := G2.out (fun h => c1 h.2.1)
            clear G1 G2 h1 h2
            go_wp2
            go_roundw
            case rel => exact ⟨k, by omega, rfl, HR2, hB2 _⟩
            case measure => simp [intOf]
        · have k2 : (o.kind == 2) = false := by simp [h2]
          have HR2 : Hid (r = get (layL (ops.take k)) x) := G2.out (fun h => by rcases h.1 with e | e <;> contradiction)
          clear G1 G2 h1 h2
          go_wp2
          go_roundw
          case rel => exact ⟨k, by omega, rfl, HR2, hB2 _⟩
          case measure => simp [intOf]
end Go.Proofs.Ytliiblaodhcjhaa

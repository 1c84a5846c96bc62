import Derived.Test.YtplobjdghaokoaaMem
import Derived.WalkKit
import Derived.Deep.RegionHeld3
import Derived.Deep.QuietTactic
import Derived.BigQuiet
import Derived.Laws.BitsAllLaws
namespace Go.Proofs.Ytplobjdghaokoaa
open Go.RowKit
set_option linter.unusedVariables false

theorem ret_int {k : IntKind} {a b : Int} (h : a = b) : Ending.returned (.int k a) = .returned (.int k b) := by rw [h]
theorem ret_bool {a b : Bool} (h : a = b) : Ending.returned (.bool a) = .returned (.bool b) := by rw [h]
theorem ret_ii {k k' : IntKind} {a b a' b' : Int} (h : a = b) (h' : a' = b') : Ending.returned (.tuple #[.int k a, .int k' a']) = .returned (.tuple #[.int k b, .int k' b']) := by rw [h, h']
theorem ret_ib {k : IntKind} {a b : Int} {a' b' : Bool} (h : a = b) (h' : a' = b') : Ending.returned (.tuple #[.int k a, .bool a']) = .returned (.tuple #[.int k b, .bool b']) := by rw [h, h']
theorem take_snoc {α : Type} (l : List α) {k : Nat} {x : α} (h : l[k]? = some x) : l.take (k + 1) = l.take k ++ [x] := by
  rw [List.take_add_one, h]; rfl

theorem i64_and_nat (a b : Nat) (ha : a < 9223372036854775808) (hb : b < 9223372036854775808) : bits .and .i64 (a : Int) (b : Int) = ((a &&& b : Nat) : Int) := by
  have hx : a &&& b ≤ a := Nat.and_le_left
  show IntKind.i64.wrap ((BitVec.ofInt 64 (a : Int) &&& BitVec.ofInt 64 (b : Int)).toNat : Int) = _
  rw [BitVec.toNat_and, ofInt_u64 a (by omega), ofInt_u64 b (by omega), IntKind.wrap_i64]
  omega
theorem al_all : (List.range 4097).all (fun a => decide (a = 0) || decide ((a &&& (a - 1)) = 0) == isAl (a : Int)) = true := by kernel_rfl
theorem al_nat (a : Nat) (h1 : 1 ≤ a) (h2 : a ≤ 4096) : decide ((a &&& (a - 1)) = 0) = isAl (a : Int) := by
  have := List.all_eq_true.1 al_all a (List.mem_range.2 (by omega))
  simp at this
  rcases this with h | h
  · omega
  · rw [← h]
set_option maxHeartbeats 1000000 in
theorem isAlign_any (W : World) (a : Int) : Calls Try.prog 35 #[.int .i64 a] W fun e W' => e = .returned (.bool (isAl a)) ∧ W = W' := by
  by_cases h1 : 1 ≤ a
  · by_cases h2 : a ≤ 4096
    · obtain ⟨n, rfl⟩ := Int.eq_ofNat_of_zero_le (show 0 ≤ a by omega)
      have hb : bits .and .i64 (n : Int) ((n : Int) - 1) = ((n &&& (n - 1) : Nat) : Int) := by
        rw [show (n : Int) - 1 = ((n - 1 : Nat) : Int) by omega]
        exact i64_and_nat n (n - 1) (by omega) (by omega)
      have hn := al_nat n (by omega) (by omega)
      have HN : Hid (decide ((n &&& (n - 1)) = 0) = isAl (n : Int)) := hn
      clear hn
      go_enter Try.func35, Try.ntmps35
      go_wp2
      go_ret
      refine ⟨ret_bool ?_, rfl⟩
      rw [← HN.out]
      exact decide_eq_decide.2 (by omega)
    · have h3 : isAl a = false := by
        cases h : isAl a with
        | false => rfl
        | true => have := isAl_pos h; omega
      rw [h3]
      clear h3
      have h2' : decide (a ≤ 4096) = false := decide_eq_false h2
      go_enter Try.func35, Try.ntmps35
      go_wp2
      go_ret
      exact ⟨rfl, rfl⟩
  · have h3 : isAl a = false := by
      cases h : isAl a with
      | false => rfl
      | true => have := isAl_pos h; omega
    rw [h3]
    clear h3
    have h1' : decide (1 ≤ a) = false := decide_eq_false h1
    go_enter Try.func35, Try.ntmps35
    go_wp2
    go_ret
    exact ⟨rfl, rfl⟩

set_option maxHeartbeats 1000000 in
theorem has_any (W : World) (p ub f0 low : Nat) (u : List Nat) (f n : Int) (h : PPx W p ub f0 u low) (hf1 : -9223372036854775808 ≤ f) (hf2 : f ≤ 9223372036854775807) :
    Calls Try.prog 43 #[.pointer (some ⟨p, 0, none⟩), .int .i64 f, .int .i64 n] W fun e W' => e = .returned (.bool (hasB f0 u f n)) ∧ ∃ q, W' = W.drewN q := by
  have c0 := h.c0
  have c1 := h.c1
  have n1 := h.n1
  have n2 := h.n2
  clear h
  by_cases h1 : (f0 : Int) ≤ f
  · by_cases h2 : n ≤ (u.length : Int) - (f - f0)
    · have hH : hasB f0 u f n = true := decide_eq_true ⟨h1, by omega⟩
      have HH : Hid _ := hH
      clear hH
      generalize u.length = m at *
      go_enter Try.func43, Try.ntmps43
      go_wp2
      go_quiet (fail)
      go_wp2
      go_ret
      exact ⟨ret_bool HH.out.symm, _, rfl⟩
    · have h2' : decide (n ≤ (u.length : Int) - (f - f0)) = false := decide_eq_false h2
      have hH : hasB f0 u f n = false := decide_eq_false (fun e => h2 (by omega))
      have HH : Hid _ := hH
      clear hH
      generalize u.length = m at *
      go_enter Try.func43, Try.ntmps43
      go_wp2
      go_quiet (fail)
      go_wp2
      go_ret
      exact ⟨ret_bool HH.out.symm, _, rfl⟩
  · have h1' : decide ((f0 : Int) ≤ f) = false := decide_eq_false h1
    have hH : hasB f0 u f n = false := decide_eq_false (fun e => h1 e.1)
    have HH : Hid _ := hH
    clear hH
    generalize u.length = m at *
    go_enter Try.func43, Try.ntmps43
    go_wp2
    go_quiet (fail)
    go_wp2
    go_ret
    exact ⟨ret_bool HH.out.symm, _, rfl⟩

set_option maxHeartbeats 1000000 in
theorem ixU_any (W : World) (g o cap v : Nat) (bs : List Nat) (hb : ∀ (i b : Nat), bs[i]? = some b → W.cell? ⟨g, o + i, none⟩ = some (.int .u8 b)) (hl : bs.length ≤ 140737488355328) :
    Calls Try.prog 57 #[.slice (some ⟨g, o, none⟩) bs.length cap, .int .u8 v] W fun e W' => ∃ r : Int, e = .returned (.int .i64 r) ∧ (0 ≤ r ↔ v ∈ bs) ∧ W = W' := by
  have HB : Hid (∀ (i b : Nat), bs[i]? = some b → W.cell? ⟨g, o + i, none⟩ = some (.int .u8 b)) := hb
  clear hb
  generalize hn : bs.length = n at *
  have HN : Hid (bs.length = n) := hn
  clear hn
  go_enter Try.func57, Try.ntmps57
  go_wp2
  go_loop [8] (fun i => ∃ k : Nat, k ≤ n ∧ i = .int .i64 k ∧ Hid (∀ b ∈ bs.take k, v ≠ b)) (fun i => n - (intOf i).toNat)
  case atStart => exact ⟨0, Nat.zero_le _, rfl, by intro b hb; simp at hb⟩
  case round =>
    obtain ⟨k, hk, rfl, HZ⟩ := hrel
    by_cases hlt : k < n
    · obtain ⟨b, hb⟩ : ∃ b, bs[k]? = some b := ⟨_, List.getElem?_eq_getElem (by rw [HN.out]; omega)⟩
      have hc := HB.out k b hb
      have HBB : Hid (bs[k]? = some b) := hb
      clear hb
      by_cases hv : v = b
      · subst hv
        go_wp2
        go_ret
        exact ⟨_, rfl, ⟨fun _ => List.mem_of_getElem? HBB.out, fun _ => by omega⟩, rfl⟩
      · have hvz : ¬ (v : Int) = (b : Int) := by omega
        go_wp2
        go_round
        case rel =>
          refine ⟨k + 1, by omega, by go_num, ?_⟩
          intro c hb
          rw [take_snoc bs HBB.out] at hb
          rcases List.mem_append.1 hb with h | h
          · exact HZ.out c h
          · simp at h; subst h; exact hv
        case measure => simp [intOf]; omega
    · have hz := HZ.out
      rw [List.take_of_length_le (by rw [HN.out]; omega)] at hz
      have HZZ : Hid _ := hz
      clear hz HZ
      go_wp2
      go_ret
      exact ⟨_, rfl, ⟨fun h => by omega, fun h => absurd rfl (HZZ.out v h)⟩, rfl⟩

theorem ctU_any (W : World) (g o cap v : Nat) (bs : List Nat) (hb : ∀ (i b : Nat), bs[i]? = some b → W.cell? ⟨g, o + i, none⟩ = some (.int .u8 b)) (hl : bs.length ≤ 140737488355328) :
    Calls Try.prog 50 #[.slice (some ⟨g, o, none⟩) bs.length cap, .int .u8 v] W fun e W' => e = .returned (.bool (decide (v ∈ bs))) ∧ W = W' := by
  have hx := ixU_any W g o cap v bs hb hl
  clear hb
  go_enter Try.func50, Try.ntmps50
  go_wp2_with (go_at_call 57; refine hx.mono ?_; rintro e w' ⟨r, rfl, hr, rfl⟩; have HR : Hid _ := hr; clear hr)
  go_ret
  exact ⟨ret_bool (decide_eq_decide.2 HR.out), rfl⟩

def alFrom (f0 i al : Nat) : Nat := if (f0 + i) % al = 0 then i else i + al - (f0 + i) % al
set_option maxHeartbeats 1000000 in
theorem alFrom_any (W : World) (p f0 i al : Nat) (c0 : W.cell? ⟨p, 0, none⟩ = some (.int .i64 f0)) (h1 : f0 + i ≤ 536870912) (h2 : 1 ≤ al) (h3 : al ≤ 4096) :
    Calls Try.prog 51 #[.pointer (some ⟨p, 0, none⟩), .int .i64 i, .int .i64 al] W fun e W' => e = .returned (.int .i64 (alFrom f0 i al)) ∧ W = W' := by
  have hz2 : (1 : Int) ≤ (al : Int) := by omega
  have hmod : ((f0 : Int) + (i : Int)) % (al : Int) = ((f0 + i) % al : Nat) := by rw [Int.natCast_emod]; rfl
  have hlt : (f0 + i) % al < al := Nat.mod_lt _ (by omega)
  unfold alFrom
  by_cases h : (f0 + i) % al = 0
  · rw [if_pos h]
    rw [h] at hmod
    clear hlt h
    go_enter Try.func51, Try.ntmps51
    go_wp2
    go_ret
    exact ⟨rfl, rfl⟩
  · rw [if_neg h]
    generalize (f0 + i) % al = m at *
    have hm0 : ¬ ((m : Int) = 0) := by omega
    have hmm : ¬ ((f0 : Int) + (i : Int)) % (al : Int) = 0 := by rw [hmod]; exact hm0
    have HM : Hid (((f0 : Int) + (i : Int)) % (al : Int) = m) := hmod
    clear hmod
    have hb : 0 ≤ ((f0 : Int) + (i : Int)) % (al : Int) ∧ ((f0 : Int) + (i : Int)) % (al : Int) < al := by rw [HM.out]; omega
    obtain ⟨hb1, hb2⟩ := hb
    go_enter Try.func51, Try.ntmps51
    go_wp2
    go_ret
    exact ⟨ret_int (by rw [HM.out]; omega), rfl⟩
end Go.Proofs.Ytplobjdghaokoaa

import Derived.Test.YtplobjdghaokoaaPf
import Derived.Test.YtplobjdghaokoaaPd
namespace Go.Proofs.Ytplobjdghaokoaa
open Go.RowKit
set_option linter.unusedVariables false

/-! ### the cuts of a slab -/
structure Cut where
  f : Nat
  b : Nat → Bool
def Cut.enc (c : Cut) : List Value := [.int .i64 c.f, .bool (c.b 0), .bool (c.b 1), .bool (c.b 2), .bool (c.b 3)]
theorem Cut.enc_len (c : Cut) : c.enc.length = 5 := rfl
def Cut.left (c : Cut) : Int := if c.b 0 = false then 0 else if c.b 1 = false then 1 else if c.b 2 = false then 2 else if c.b 3 = false then 3 else -1
def Cut.put (c : Cut) (i : Nat) (v : Bool) : Cut := ⟨c.f, fun j => if j = i then v else c.b j⟩
def Cut.bs (c : Cut) : List Bool := [c.b 0, c.b 1, c.b 2, c.b 3]
theorem Cut.left_le (c : Cut) : -1 ≤ c.left ∧ c.left ≤ 3 := by unfold Cut.left; split <;> (try split) <;> (try split) <;> (try split) <;> omega
theorem Cut.left_at {c : Cut} {i : Nat} (h : c.left = i) : i < 4 ∧ c.b i = false ∧ ∀ j, j < i → c.b j = true := by
  unfold Cut.left at h
  by_cases h0 : c.b 0 = false
  · rw [if_pos h0] at h
    obtain rfl : i = 0 := by omega
    exact ⟨by omega, h0, fun j hj => by omega⟩
  rw [if_neg h0] at h
  simp at h0
  by_cases h1 : c.b 1 = false
  · rw [if_pos h1] at h
    obtain rfl : i = 1 := by omega
    exact ⟨by omega, h1, fun j hj => by obtain rfl : j = 0 := (by omega); exact h0⟩
  rw [if_neg h1] at h
  simp at h1
  by_cases h2 : c.b 2 = false
  · rw [if_pos h2] at h
    obtain rfl : i = 2 := by omega
    exact ⟨by omega, h2, fun j hj => by rcases (show j = 0 ∨ j = 1 by omega) with rfl | rfl <;> assumption⟩
  rw [if_neg h2] at h
  simp at h2
  by_cases h3 : c.b 3 = false
  · rw [if_pos h3] at h
    obtain rfl : i = 3 := by omega
    exact ⟨by omega, h3, fun j hj => by rcases (show j = 0 ∨ j = 1 ∨ j = 2 by omega) with rfl | rfl | rfl <;> assumption⟩
  rw [if_neg h3] at h
  omega
theorem Cut.left_full {c : Cut} : c.left = -1 ↔ ∀ j, j < 4 → c.b j = true := by
  constructor
  · intro h j hj
    unfold Cut.left at h
    by_cases h0 : c.b 0 = false
    · rw [if_pos h0] at h; omega
    by_cases h1 : c.b 1 = false
    · rw [if_neg h0, if_pos h1] at h; omega
    by_cases h2 : c.b 2 = false
    · rw [if_neg h0, if_neg h1, if_pos h2] at h; omega
    by_cases h3 : c.b 3 = false
    · rw [if_neg h0, if_neg h1, if_neg h2, if_pos h3] at h; omega
    simp at h0 h1 h2 h3
    rcases (show j = 0 ∨ j = 1 ∨ j = 2 ∨ j = 3 by omega) with rfl | rfl | rfl | rfl <;> assumption
  · intro h
    unfold Cut.left
    rw [if_neg (by simp [h 0]), if_neg (by simp [h 1]), if_neg (by simp [h 2]), if_neg (by simp [h 3])]

/-! ### slices.Index at bool -/
set_option maxHeartbeats 1000000 in
theorem ixB_any (W : World) (g o cap : Nat) (v : Bool) (bs : List Bool) (hb : ∀ (i : Nat) (b : Bool), bs[i]? = some b → W.cell? ⟨g, o + i, none⟩ = some (.bool b)) (hl : bs.length ≤ 140737488355328) :
    Calls Try.prog 52 #[.slice (some ⟨g, o, none⟩) bs.length cap, .bool v] W fun e W' => ∃ r : Int, e = .returned (.int .i64 r) ∧ ((r = -1 ∧ v ∉ bs) ∨ ∃ k : Nat, r = k ∧ bs[k]? = some v ∧ v ∉ bs.take k) ∧ W = W' := by
  have HB : Hid (∀ (i : Nat) (b : Bool), bs[i]? = some b → W.cell? ⟨g, o + i, none⟩ = some (.bool b)) := hb
  clear hb
  generalize hn : bs.length = n at *
  have HN : Hid (bs.length = n) := hn
  clear hn
  go_enter Try.func52, Try.ntmps52
  go_wp2
  go_loop [8] (fun i => ∃ k : Nat, k ≤ n ∧ i = .int .i64 k ∧ Hid (v ∉ bs.take k)) (fun i => n - (intOf i).toNat)
  case atStart => exact ⟨0, Nat.zero_le _, rfl, by intro hb; simp at hb⟩
  case round =>
    obtain ⟨k, hk, rfl, HZ⟩ := hrel
    by_cases hlt : k < n
    · obtain ⟨b, hb⟩ : ∃ b, bs[k]? = some b := ⟨_, List.getElem?_eq_getElem (by rw [HN.out]; omega)⟩
      have hc := HB.out k b hb
      have HBB : Hid (bs[k]? = some b) := hb
      clear hb
      by_cases hv : v = b
      · subst hv
        go_wp2
        go_ret
        exact ⟨_, rfl, .inr ⟨k, rfl, HBB.out, HZ.out⟩, rfl⟩
      · have hvv : (v == b) = false := by simpa using hv
        have HV : Hid (v ≠ b) := hv
        clear hv
        go_wp2
        go_round
        case rel =>
          refine ⟨k + 1, by omega, by go_num, ?_⟩
          intro hb
          rw [take_snoc bs HBB.out] at hb
          rcases List.mem_append.1 hb with h | h
          · exact HZ.out h
          · simp at h; exact HV.out h
        case measure => simp [intOf]; omega
    · have hz := HZ.out
      rw [List.take_of_length_le (by rw [HN.out]; omega)] at hz
      have HZZ : Hid (v ∉ bs) := hz
      clear hz HZ
      go_wp2
      go_ret
      exact ⟨_, rfl, .inl ⟨rfl, HZZ.out⟩, rfl⟩
theorem ctB_any (W : World) (g o cap : Nat) (v : Bool) (bs : List Bool) (hb : ∀ (i : Nat) (b : Bool), bs[i]? = some b → W.cell? ⟨g, o + i, none⟩ = some (.bool b)) (hl : bs.length ≤ 140737488355328) :
    Calls Try.prog 48 #[.slice (some ⟨g, o, none⟩) bs.length cap, .bool v] W fun e W' => e = .returned (.bool (decide (v ∈ bs))) ∧ W = W' := by
  have hx : Calls Try.prog 52 #[.slice (some ⟨g, o, none⟩) bs.length cap, .bool v] W fun e W' => ∃ r : Int, e = .returned (.int .i64 r) ∧ (0 ≤ r ↔ v ∈ bs) ∧ W = W' := by
    refine (ixB_any W g o cap v bs hb hl).mono ?_
    rintro e w' ⟨r, rfl, h, rfl⟩
    refine ⟨r, rfl, ?_, rfl⟩
    rcases h with ⟨rfl, h⟩ | ⟨k, rfl, h, _⟩
    · exact ⟨fun h => by omega, fun h' => absurd h' h⟩
    · exact ⟨fun _ => List.mem_of_getElem? h, fun _ => by omega⟩
  clear hb
  go_enter Try.func48, Try.ntmps48
  go_wp2_with (go_at_call 52; refine hx.mono ?_; rintro e w' ⟨r, rfl, hr, rfl⟩; have HR : Hid _ := hr; clear hr)
  go_ret
  exact ⟨ret_bool (decide_eq_decide.2 HR.out), rfl⟩

/-- A cut in its cells. -/
def CutAt (W : World) (g o : Nat) (c : Cut) : Prop := ∀ j, j < 5 → W.cell? ⟨g, o + j, none⟩ = c.enc[j]?
theorem CutAt.bits {W : World} {g o : Nat} {c : Cut} (h : CutAt W g o c) : ∀ (i : Nat) (b : Bool), c.bs[i]? = some b → W.cell? ⟨g, o + 1 + i, none⟩ = some (.bool b) := by
  intro i b hb
  have hi : i < 4 := (List.getElem?_eq_some_iff.1 hb).1
  rw [Nat.add_assoc, h (1 + i) (by omega)]
  rcases (show i = 0 ∨ i = 1 ∨ i = 2 ∨ i = 3 by omega) with rfl | rfl | rfl | rfl <;> (simp [Cut.bs] at hb; subst hb; rfl)
theorem left_of_ix {c : Cut} {r : Int} (h : (r = -1 ∧ false ∉ c.bs) ∨ ∃ k : Nat, r = k ∧ c.bs[k]? = some false ∧ false ∉ c.bs.take k) : r = c.left := by
  unfold Cut.bs at h
  unfold Cut.left
  rcases h with ⟨rfl, h⟩ | ⟨k, rfl, h, h2⟩
  · simp at h
    simp [h]
  · have hk : k < 4 := (List.getElem?_eq_some_iff.1 h).1
    rcases (show k = 0 ∨ k = 1 ∨ k = 2 ∨ k = 3 by omega) with rfl | rfl | rfl | rfl <;> (simp at h h2; simp [h, h2])
set_option maxHeartbeats 1000000 in
theorem firstLeft_any (W : World) (g o : Nat) (c : Cut) (h : CutAt W g o c) :
    Calls Try.prog 44 #[.pointer (some ⟨g, o, none⟩)] W fun e W' => e = .returned (.int .i64 c.left) ∧ W = W' := by
  have hx := fun cap => ixB_any W g (o + 1) cap false c.bs h.bits (by show 4 ≤ _; omega)
  have hs : (Instr.sliceAt 83 (Value.pointer (some ⟨g, o + 1, none⟩)) none none none).run Try.prog W = .ok (.slice (some ⟨g, o + 1, none⟩) 4 4) W := by
    simp [Instr.sliceAt, Instr.sliceBounds, Instr.sureAddr, run_underlying Try.underlying83, go_sem]
  go_enter Try.func44, Try.ntmps44
  go_wp2_with (go_at_call 52; refine (hx _).mono ?_; rintro e w' ⟨r, rfl, hr, rfl⟩; have HR : Hid (r = c.left) := left_of_ix hr; clear hr)
  go_ret
  exact ⟨ret_int HR.out, rfl⟩

/-! ### the search -/
def cmpV (a b : Int) : Int := if a < b then -1 else if b < a then 1 else 0
theorem isNaN_any (W : World) (a : Int) : Calls Try.prog 60 #[.int .i64 a] W fun e W' => e = .returned (.bool false) ∧ W = W' := by
  go_enter Try.func60, Try.ntmps60
  go_wp2
  go_ret
  exact ⟨ret_bool (by simp), rfl⟩
set_option maxHeartbeats 1000000 in
theorem cmp_any (W : World) (a b : Int) : Calls Try.prog 56 #[.int .i64 a, .int .i64 b] W fun e W' => e = .returned (.int .i64 (cmpV a b)) ∧ W = W' := by
  unfold cmpV
  by_cases h1 : a < b
  · rw [if_pos h1]
    go_enter Try.func56, Try.ntmps56
    go_wp2_with (go_at_call 60; refine (isNaN_any _ _).mono ?_; rintro e w' ⟨rfl, rfl⟩)
    go_ret
    exact ⟨rfl, rfl⟩
  · rw [if_neg h1]
    by_cases h2 : b < a
    · rw [if_pos h2]
      go_enter Try.func56, Try.ntmps56
      go_wp2_with (go_at_call 60; refine (isNaN_any _ _).mono ?_; rintro e w' ⟨rfl, rfl⟩)
      go_ret
      exact ⟨rfl, rfl⟩
    · rw [if_neg h2]
      go_enter Try.func56, Try.ntmps56
      go_wp2_with (go_at_call 60; refine (isNaN_any _ _).mono ?_; rintro e w' ⟨rfl, rfl⟩)
      go_ret
      exact ⟨rfl, rfl⟩
set_option maxHeartbeats 1000000 in
theorem find1_any (W : World) (c : Cut) (f : Int) (v : Value) (hv : v = .agg #[.int .i64 c.f, .bool (c.b 0), .bool (c.b 1), .bool (c.b 2), .bool (c.b 3)]) :
    Calls Try.prog 55 #[v, .int .i64 f] W fun e W' => e = .returned (.int .i64 (cmpV c.f f)) ∧ Turn (fun _ => False) W W' := by
  subst hv
  go_enter Try.func55, Try.ntmps55
  go_wp2_with (go_at_call 56; refine (cmp_any _ _ _).mono ?_; rintro e w' ⟨rfl, rfl⟩)
  go_ret
  exact ⟨rfl, (Turn.refl _ _).alloc _⟩
end Go.Proofs.Ytplobjdghaokoaa

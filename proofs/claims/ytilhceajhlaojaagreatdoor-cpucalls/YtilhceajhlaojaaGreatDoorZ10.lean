import Derived.Test.YtilhceajhlaojaaGreatDoorZ3
import Derived.Test.YtilhceajhlaojaaGreatDoorZ9
import Derived.Test.YtilhceajhlaojaaGreatDoorZ2
import Derived.Test.YtilhceajhlaojaaGreatDoorZ0
namespace Go.Proofs.YtilhceajhlaojaaGreatDoor
open Go.RowKit
set_option linter.unusedVariables false
set_option linter.unusedSimpArgs false
/-- What a step came to. -/
structure Tk where
  kind : Int
  at_ : Int
  word : Int
  va : Int
  fk : Int
  fl : Int
  fd : Int
  store : Bool
def tkL (t : Tk) : List Value := [.int .i64 t.kind, .int .u32 t.at_, .int .u32 t.word, .int .u32 t.va, .int .i64 t.fk, .int .i64 t.fl, .int .i64 t.fd, .bool t.store]
def tkA (t : Tk) : Array Value := (tkL t).toArray
structure TkOk (t : Tk) : Prop where
  at_ : 0 ≤ t.at_ ∧ t.at_ < 4294967296
  word : 0 ≤ t.word ∧ t.word < 4294967296
  va : 0 ≤ t.va ∧ t.va < 4294967296
def tkZ : Tk := ⟨0, 0, 0, 0, 0, 0, 0, false⟩
/-- What stands behind the registers while an instruction is done. -/
def doE (ln : Bool) (bus : Value) (i : Is.Ins) (t : Tk) : List Value := .bool ln :: bus :: (Is.insL i ++ tkL t)
theorem RB.ext {w : World} {b : Nat} {t : TypeId} {R : List Int} {E : List Value} (h : RB w b t R E) (j k : Nat) (hk : k = 30 + j) : w.cell? ⟨b, k, none⟩ = E[j]? := by
  have hl : (RL R).length = 30 := by unfold RL; rw [List.length_map, h.ok.len]
  rw [hk, h.bl.cell, List.getElem?_append_right (by omega), hl]
  congr 1
  omega
theorem RB.frz {w : World} {b : Nat} {t : TypeId} {R : List Int} {E : List Value} (h : RB w b t R E) (k : Nat) : w.frozen? ⟨b, k, none⟩ = false := h.bl.frozen k
/-- A register, as an instruction at 'at' reads it. -/
def vlR (R : List Int) (a n : Int) : Int := if n = 15 then (a + 8) % 4294967296 else gtR R n
theorem vlR_range {R : List Int} (h : ROk R) (a n : Int) : 0 ≤ vlR R a n ∧ vlR R a n < 4294967296 := by
  unfold vlR
  split
  · omega
  · exact h.gt n
set_option maxRecDepth 100000 in
theorem gvalue (w : World) (b : Nat) (R : List Int) (ln : Bool) (bus : Value) (i : Is.Ins) (t : Tk) (n : Int) (h : RB w b 124 R (doE ln bus i t)) (hn : 0 ≤ n ∧ n ≤ 15) : Calls Tryz.prog 83 #[.pointer (some ⟨b, 0, none⟩), .int .i64 n] w fun e w' => e = .returned (.int .u32 (vlR R t.at_ n)) ∧ Below w.heap.size w w' := by
  have c53 : w.cell? ⟨b, 53, none⟩ = some (.int .u32 t.at_) := h.ext 23 53 rfl
  have HG : Hid (Calls Tryz.prog 36 #[.pointer (some ⟨b, 0, none⟩), .int .i64 n] w fun e w' => e = .returned (.int .u32 (gtR R n)) ∧ Below w.heap.size w w') := gget w b R n h.rs hn
  unfold vlR
  by_cases h15 : n = 15
  · subst h15
    rw [if_pos rfl]
    have e : IntKind.u32.wrap (t.at_ + 8) = (t.at_ + 8) % 4294967296 := by rw [IntKind.wrap_u32']
    generalize (t.at_ + 8) % 4294967296 = z at *
    clear h HG hn
    generalize t.at_ = a at *
    go_enter Tryz.func83, Tryz.ntmps83
    go_wp2
    exact bodyPost_ret (v := .int .u32 z) (by simp [results, Tryz.results83, go_sem]) rfl ⟨rfl, Below.refl _ _⟩
  · rw [if_neg h15]
    have b0 : (n == 15) = false := beq_eq_false_iff_ne.2 h15
    clear h hn h15 c53
    generalize gtR R n = v at *
    go_enter Tryz.func83, Tryz.ntmps83
    go_wp2_with (first | (go_at_call 36; refine HG.out.mono ?_; rintro e w1 ⟨rfl, hb⟩))
    exact bodyPost_ret (v := .int .u32 v) (by simp [results, Tryz.results83, go_sem]) rfl ⟨rfl, hb⟩
theorem wset_bl {w : World} {b : Nat} {t : TypeId} {L : List Value} (h : Bl w b t L) (M : List Value) (hl : M.length = L.length) : Bl (w.setCells b 0 M) b t M := set_all h hl
/-- State: a copy of all registers. -/
theorem regs_of {w : World} {b : Nat} {t : TypeId} {R : List Int} {E : List Value} (h : RB w b t R E) : w.rangeAt b 0 (RL R) := fun j v hv => by
  rw [Nat.zero_add, h.bl.cell, List.getElem?_append_left (List.getElem?_eq_some_iff.1 hv).1]
  exact hv
theorem RL_len {R : List Int} (h : ROk R) : (RL R).length = 30 := by unfold RL; rw [List.length_map, h.len]
set_option maxRecDepth 100000 in
theorem regs_info : (Tryz.prog.info? 84).map (·.size) = some 30 := by kernel_rfl
set_option maxRecDepth 100000 in
theorem state_info : (Tryz.prog.info? 26).map (·.size) = some 30 := by kernel_rfl
theorem RL_one (R : List Int) : (RL R).toArray.all (·.oneCell') = true := by
  rw [Array.all_eq_true']
  intro x hx
  unfold RL at hx
  simp only [List.mem_toArray, List.mem_map] at hx
  obtain ⟨y, _, rfl⟩ := hx
  rfl
theorem newA (w : World) (t : TypeId) (A : Array Value) : Bl (w.alloc (.cells A t)) w.heap.size t A.toList := by
  have := Bl.new w t A.toList
  simpa using this
theorem fill_new (w : World) (t : TypeId) (A : Array Value) (L : List Value) (hl : L.length = A.size) : Below w.heap.size w ((w.alloc (.cells A t)).setCells w.heap.size 0 L) ∧ Bl ((w.alloc (.cells A t)).setCells w.heap.size 0 L) w.heap.size t L :=
  ⟨Turn.to (set_turn L 0 w _ (TA.of (below_new _ _))) (fun _ e => Nat.le_of_eq e.symm) (Nat.le_refl _), set_all (newA w t A) (by rw [hl]; simp)⟩
theorem there_new (w : World) (t : TypeId) (A : Array Value) (n : Nat) (hn : n = A.size) : (w.alloc (.cells A t)).there w.heap.size 0 n := (newA w t A).there n (by rw [hn]; simp)
set_option maxRecDepth 100000 in
theorem gState (w : World) (b : Nat) (R : List Int) (E : List Value) (h : RB w b 86 R E) : Calls Tryz.prog 11 #[.pointer (some ⟨b, 0, none⟩)] w fun e w' => e = .returned (.agg (RL R).toArray) ∧ Below w.heap.size w w' := by
  have HR : Hid (∀ A, (w.alloc (.cells A 26)).rangeAt b 0 (RL R)) := fun A => Is.range_keep (regs_of h) (below_new _ _)
  have HI : Hid ((Tryz.prog.info? 84).map (·.size) = some (RL R).length) := by rw [RL_len h.ok]; exact regs_info
  have HJ : Hid ((Tryz.prog.info? 26).map (·.size) = some (RL R).toArray.size) := by rw [List.size_toArray, RL_len h.ok]; exact state_info
  have HL : (Tryz.prog.info? 26).map (·.size) = some (RL R).length := by rw [RL_len h.ok]; exact state_info
  have HO : Hid ((RL R).toArray.all (·.oneCell') = true) := RL_one R
  have HT : Hid (∀ A : Array Value, A.size = 30 → (w.alloc (.cells A 26)).there w.heap.size 0 (RL R).toArray.size) := fun A hA => there_new _ _ A _ (by rw [List.size_toArray, RL_len h.ok, hA])
  have HE : Hid (∀ (A : Array Value) (w2 : World), A.size = 30 → (w.alloc (.cells A 26)).setCells w.heap.size 0 (RL R) = w2 → Below w.heap.size w w2 ∧ (loadVar 26 ⟨w.heap.size, 0, none⟩).run Tryz.prog w2 = .ok (.agg (RL R).toArray) w2) := fun A w2 hA e => by
    have := fill_new w 26 A (RL R) (by rw [RL_len h.ok, hA])
    rw [e] at this
    exact ⟨this.1, run_loadVar_mid w2 _ 0 26 _ _ this.2.range Tryz.underlying26 rfl HL⟩
  generalize RL R = L at *
  clear h
  go_enter Tryz.func11, Tryz.ntmps11
  go_wp2_with (first | (guard_target =~ wpList _ _ _ (Oper.mk (some 6) _ _ _ _ _ :: _) _ _; refine wpList_load_mid rfl _ _ rfl b 0 rfl L _ (HR.out _) Tryz.underlying84 rfl HI.out ?_) | (guard_target =~ wpList _ _ _ (Oper.mk none (Op.store 26 _ _) _ _ _ _ :: _) _ _; refine wpList_store_mid rfl _ _ _ rfl w.heap.size 0 L.toArray rfl rfl (HT.out _ rfl) HJ.out HO.out ?_; generalize hW : World.setCells _ _ _ _ = w2; have HZ := hidW (HE.out _ w2 rfl hW); clear hW))
  have hl := HZ.out.2
  exact bodyPost_ret (v := .agg L.toArray) (by simp [results, Tryz.results11, asAddr, hl, Act.put]) rfl ⟨rfl, HZ.out.1⟩
end Go.Proofs.YtilhceajhlaojaaGreatDoor
namespace Go.Proofs.YtilhceajhlaojaaGreatDoor.Al
open Go.RowKit
set_option linter.unusedVariables false
set_option linter.unusedSimpArgs false
theorem exp_sh (i : Nat) (c : Bool) : shX 3 (i % 256) ((2 * (i / 256 % 16) : Nat) : Int) c = (expW i, expC i c) := by
  have hr : i / 256 % 16 < 16 := by omega
  unfold shX expC expW
  rw [if_neg (by omega)]
  generalize i / 256 % 16 = r at *
  have e : (((2 * r : Nat) : Int) % 256).toNat = 2 * r := by omega
  have e2 : 2 * r % 256 = 2 * r := by omega
  have e3 : 2 * r % 32 = 2 * r := by omega
  rw [e]
  by_cases h0 : r = 0
  · subst h0
    simp [shW, shC, rorK_0]
  · have h1 : ¬ 2 * r = 0 := by omega
    simp [shW, shC, e2, e3, h1, h0]
set_option maxRecDepth 100000 in
set_option maxHeartbeats 1000000 in
theorem gexpand_any (i : Nat) (c : Bool) (w : World) (hi : i < 4294967296) :
    Calls Tryz.prog 100 #[.int .u32 i, .bool c] w fun e w' => e = .returned (.tuple #[.int .u32 (expW i : Nat), .bool (expC i c)]) ∧ Below w.heap.size w w' := by
  have HS : Hid (∀ w, Calls Tryz.prog 101 #[.int .i64 3, .int .u32 ((i % 256 : Nat) : Int), .int .i64 ((2 * (i / 256 % 16) : Nat) : Int), .bool c] w fun e w' => e = .returned (.tuple #[.int .u32 (expW i : Nat), .bool (expC i c)]) ∧ Below w.heap.size w w') := fun w => by
    have := gshift_any 3 ((2 * (i / 256 % 16) : Nat) : Int) (i % 256) c w (by omega)
    rwa [exp_sh] at this
  generalize expC i c = EC at *
  generalize expW i = EW at *
  have b2 : bits .and .u32 (i : Int) 255 = ((i % 256 : Nat) : Int) := by
    rw [band_mod 8 255 _ (by decide) (by decide) (by omega)]; omega
  have hd : (i : Int) / 256 = ((i / 256 : Nat) : Int) := by simp
  have ht : Int.tmod ((i : Int) / 256) 16 = ((i / 256 % 16 : Nat) : Int) := by rw [hd, Int.tmod_eq_emod_of_nonneg (by omega)]; omega
  have ht2 : (i : Int) / 256 % 16 = ((i / 256 % 16 : Nat) : Int) := by omega
  have hr : i / 256 % 16 < 16 := by omega
  generalize i % 256 = b at *
  generalize i / 256 % 16 = r at *
  have w0 : IntKind.u32.wrap ((r : Int) * 2) = ((2 * r : Nat) : Int) := by rw [IntKind.wrap_u32']; omega
  have w1 : (r : Int) * 2 = ((2 * r : Nat) : Int) := by omega
  have w2 : IntKind.i64.wrap ((2 * r : Nat) : Int) = ((2 * r : Nat) : Int) := by rw [IntKind.wrap_i64]; omega
  generalize 2 * r = R at *
  clear hd
  go_enter Tryz.func100, Tryz.ntmps100
  go_wp2_with (go_at_call 101; refine (HS.out _).mono ?_; rintro e w' ⟨rfl, hb⟩)
  exact bodyPost_ret (v := .tuple #[.int .u32 (EW : Nat), .bool EC]) (by simp [results, Tryz.results100, go_sem]) rfl ⟨rfl, hb⟩
end Go.Proofs.YtilhceajhlaojaaGreatDoor.Al
namespace Go.Proofs.YtilhceajhlaojaaGreatDoor.Al
open Go.RowKit
set_option linter.unusedVariables false
set_option linter.unusedSimpArgs false
set_option maxRecDepth 100000 in
theorem gdecode_1 (k n : Int) (w : World) (h : n < 0) :
    Calls Tryz.prog 102 #[.int .i64 k, .int .i64 n] w fun e w' => e = .returned (.tuple #[.int .i64 0, .int .i64 0]) ∧ w' = w := by
  have q0 : decide (n < 0) = true := decide_eq_true (by omega)
  clear h
  go_enter Tryz.func102, Tryz.ntmps102
  go_wp2
  exact bodyPost_ret (v := .tuple #[.int .i64 0, .int .i64 0]) (by simp [results, Tryz.results102, go_sem]) rfl ⟨rfl, rfl⟩
set_option maxRecDepth 100000 in
theorem gdecode_2 (k n : Int) (w : World) (h : 31 < n) :
    Calls Tryz.prog 102 #[.int .i64 k, .int .i64 n] w fun e w' => e = .returned (.tuple #[.int .i64 0, .int .i64 0]) ∧ w' = w := by
  have q0 : decide (n < 0) = false := decide_eq_false (by omega)
  have q1 : decide (32 ≤ n) = true := decide_eq_true (by omega)
  clear h
  go_enter Tryz.func102, Tryz.ntmps102
  go_wp2
  exact bodyPost_ret (v := .tuple #[.int .i64 0, .int .i64 0]) (by simp [results, Tryz.results102, go_sem]) rfl ⟨rfl, rfl⟩
set_option maxRecDepth 100000 in
theorem gdecode_3 (k n : Int) (w : World) (h : 0 ≤ n ∧ n ≤ 31 ∧ k < 0) :
    Calls Tryz.prog 102 #[.int .i64 k, .int .i64 n] w fun e w' => e = .returned (.tuple #[.int .i64 0, .int .i64 0]) ∧ w' = w := by
  have q0 : decide (n < 0) = false := decide_eq_false (by omega)
  have q1 : decide (32 ≤ n) = false := decide_eq_false (by omega)
  have q2 : decide (k < 0) = true := decide_eq_true (by omega)
  clear h
  go_enter Tryz.func102, Tryz.ntmps102
  go_wp2
  exact bodyPost_ret (v := .tuple #[.int .i64 0, .int .i64 0]) (by simp [results, Tryz.results102, go_sem]) rfl ⟨rfl, rfl⟩
set_option maxRecDepth 100000 in
theorem gdecode_4 (k n : Int) (w : World) (h : 0 ≤ n ∧ n ≤ 31 ∧ 3 < k) :
    Calls Tryz.prog 102 #[.int .i64 k, .int .i64 n] w fun e w' => e = .returned (.tuple #[.int .i64 0, .int .i64 0]) ∧ w' = w := by
  have q0 : decide (n < 0) = false := decide_eq_false (by omega)
  have q1 : decide (32 ≤ n) = false := decide_eq_false (by omega)
  have q2 : decide (k < 0) = false := decide_eq_false (by omega)
  have q3 : decide (3 < k) = true := decide_eq_true (by omega)
  clear h
  go_enter Tryz.func102, Tryz.ntmps102
  go_wp2
  exact bodyPost_ret (v := .tuple #[.int .i64 0, .int .i64 0]) (by simp [results, Tryz.results102, go_sem]) rfl ⟨rfl, rfl⟩
set_option maxRecDepth 100000 in
theorem gdecode_5 (k n : Int) (w : World) (h : 0 ≤ k ∧ k ≤ 3 ∧ 0 < n ∧ n ≤ 31) :
    Calls Tryz.prog 102 #[.int .i64 k, .int .i64 n] w fun e w' => e = .returned (.tuple #[.int .i64 k, .int .i64 n]) ∧ w' = w := by
  have q0 : decide (n < 0) = false := decide_eq_false (by omega)
  have q1 : decide (32 ≤ n) = false := decide_eq_false (by omega)
  have q2 : decide (k < 0) = false := decide_eq_false (by omega)
  have q3 : decide (3 < k) = false := decide_eq_false (by omega)
  have q4 : decide (0 < n) = true := decide_eq_true (by omega)
  clear h
  go_enter Tryz.func102, Tryz.ntmps102
  go_wp2
  exact bodyPost_ret (v := .tuple #[.int .i64 k, .int .i64 n]) (by simp [results, Tryz.results102, go_sem]) rfl ⟨rfl, rfl⟩
set_option maxRecDepth 100000 in
theorem gdecode_6 (w : World) :
    Calls Tryz.prog 102 #[.int .i64 0, .int .i64 0] w fun e w' => e = .returned (.tuple #[.int .i64 0, .int .i64 0]) ∧ w' = w := by
  go_enter Tryz.func102, Tryz.ntmps102
  go_wp2
  exact bodyPost_ret (v := .tuple #[.int .i64 0, .int .i64 0]) (by simp [results, Tryz.results102, go_sem]) rfl ⟨rfl, rfl⟩
set_option maxRecDepth 100000 in
theorem gdecode_7 (w : World) :
    Calls Tryz.prog 102 #[.int .i64 1, .int .i64 0] w fun e w' => e = .returned (.tuple #[.int .i64 1, .int .i64 32]) ∧ w' = w := by
  go_enter Tryz.func102, Tryz.ntmps102
  go_wp2
  exact bodyPost_ret (v := .tuple #[.int .i64 1, .int .i64 32]) (by simp [results, Tryz.results102, go_sem]) rfl ⟨rfl, rfl⟩
set_option maxRecDepth 100000 in
theorem gdecode_8 (w : World) :
    Calls Tryz.prog 102 #[.int .i64 2, .int .i64 0] w fun e w' => e = .returned (.tuple #[.int .i64 2, .int .i64 32]) ∧ w' = w := by
  go_enter Tryz.func102, Tryz.ntmps102
  go_wp2
  exact bodyPost_ret (v := .tuple #[.int .i64 2, .int .i64 32]) (by simp [results, Tryz.results102, go_sem]) rfl ⟨rfl, rfl⟩
set_option maxRecDepth 100000 in
theorem gdecode_9 (w : World) :
    Calls Tryz.prog 102 #[.int .i64 3, .int .i64 0] w fun e w' => e = .returned (.tuple #[.int .i64 4, .int .i64 1]) ∧ w' = w := by
  go_enter Tryz.func102, Tryz.ntmps102
  go_wp2
  exact bodyPost_ret (v := .tuple #[.int .i64 4, .int .i64 1]) (by simp [results, Tryz.results102, go_sem]) rfl ⟨rfl, rfl⟩
theorem gdecode_all (k n : Int) (w : World) :
    Calls Tryz.prog 102 #[.int .i64 k, .int .i64 n] w fun e w' => e = .returned (.tuple #[.int .i64 (deF k n).1, .int .i64 (deF k n).2]) ∧ w' = w := by
  unfold deF
  by_cases h3 : n < 0
  · rw [if_pos (by omega)]; exact gdecode_1 k n w (by omega)
  by_cases h4 : 31 < n
  · rw [if_pos (by omega)]; exact gdecode_2 k n w (by omega)
  by_cases h1 : k < 0
  · rw [if_pos (by omega)]; exact gdecode_3 k n w (by omega)
  by_cases h2 : 3 < k
  · rw [if_pos (by omega)]; exact gdecode_4 k n w (by omega)
  rw [if_neg (by omega)]
  by_cases h5 : 0 < n
  · rw [if_pos (by omega)]; exact gdecode_5 k n w (by omega)
  obtain rfl : n = 0 := by omega
  rcases (show k = 0 ∨ k = 1 ∨ k = 2 ∨ k = 3 by omega) with rfl | rfl | rfl | rfl
  · exact gdecode_6 w
  · exact gdecode_7 w
  · exact gdecode_8 w
  · exact gdecode_9 w
theorem gdecode_any (k n : Int) (w : World) :
    Calls Tryz.prog 102 #[.int .i64 k, .int .i64 n] w fun e w' => e = .returned (.tuple #[.int .i64 (deF k n).1, .int .i64 (deF k n).2]) ∧ Below w.heap.size w w' := by
  refine (gdecode_all k n w).mono ?_
  rintro e w' ⟨rfl, rfl⟩
  exact ⟨rfl, Below.refl _ _⟩
end Go.Proofs.YtilhceajhlaojaaGreatDoor.Al
namespace Go.Proofs.YtilhceajhlaojaaGreatDoor.Al
open Go.RowKit
set_option linter.unusedVariables false
set_option linter.unusedSimpArgs false
set_option maxRecDepth 100000 in
set_option maxHeartbeats 1000000 in
theorem gpassed_0 (n z cc v : Bool) (w : World) :
    Calls Tryz.prog 13 #[.int .i64 0, .agg #[.bool n, .bool z, .bool cc, .bool v]] w fun e w' => e = .returned (.bool (paF 0 n z cc v)) ∧ Below w.heap.size w w' := by
  have HN : Hid (∀ o, Below w.heap.size w (w.alloc o)) := below_new w
  go_enter Tryz.func13, Tryz.ntmps13
  go_wp2
  go_ret
  exact ⟨by simp [paF], HN.out _⟩
set_option maxRecDepth 100000 in
set_option maxHeartbeats 1000000 in
theorem gpassed_1 (n z cc v : Bool) (w : World) :
    Calls Tryz.prog 13 #[.int .i64 1, .agg #[.bool n, .bool z, .bool cc, .bool v]] w fun e w' => e = .returned (.bool (paF 1 n z cc v)) ∧ Below w.heap.size w w' := by
  have HN : Hid (∀ o, Below w.heap.size w (w.alloc o)) := below_new w
  go_enter Tryz.func13, Tryz.ntmps13
  go_wp2
  go_ret
  exact ⟨by simp [paF], HN.out _⟩
set_option maxRecDepth 100000 in
set_option maxHeartbeats 1000000 in
theorem gpassed_2 (n z cc v : Bool) (w : World) :
    Calls Tryz.prog 13 #[.int .i64 2, .agg #[.bool n, .bool z, .bool cc, .bool v]] w fun e w' => e = .returned (.bool (paF 2 n z cc v)) ∧ Below w.heap.size w w' := by
  have HN : Hid (∀ o, Below w.heap.size w (w.alloc o)) := below_new w
  go_enter Tryz.func13, Tryz.ntmps13
  go_wp2
  go_ret
  exact ⟨by simp [paF], HN.out _⟩
set_option maxRecDepth 100000 in
set_option maxHeartbeats 1000000 in
theorem gpassed_3 (n z cc v : Bool) (w : World) :
    Calls Tryz.prog 13 #[.int .i64 3, .agg #[.bool n, .bool z, .bool cc, .bool v]] w fun e w' => e = .returned (.bool (paF 3 n z cc v)) ∧ Below w.heap.size w w' := by
  have HN : Hid (∀ o, Below w.heap.size w (w.alloc o)) := below_new w
  go_enter Tryz.func13, Tryz.ntmps13
  go_wp2
  go_ret
  exact ⟨by simp [paF], HN.out _⟩
set_option maxRecDepth 100000 in
set_option maxHeartbeats 1000000 in
theorem gpassed_4 (n z cc v : Bool) (w : World) :
    Calls Tryz.prog 13 #[.int .i64 4, .agg #[.bool n, .bool z, .bool cc, .bool v]] w fun e w' => e = .returned (.bool (paF 4 n z cc v)) ∧ Below w.heap.size w w' := by
  have HN : Hid (∀ o, Below w.heap.size w (w.alloc o)) := below_new w
  go_enter Tryz.func13, Tryz.ntmps13
  go_wp2
  go_ret
  exact ⟨by simp [paF], HN.out _⟩
set_option maxRecDepth 100000 in
set_option maxHeartbeats 1000000 in
theorem gpassed_5 (n z cc v : Bool) (w : World) :
    Calls Tryz.prog 13 #[.int .i64 5, .agg #[.bool n, .bool z, .bool cc, .bool v]] w fun e w' => e = .returned (.bool (paF 5 n z cc v)) ∧ Below w.heap.size w w' := by
  have HN : Hid (∀ o, Below w.heap.size w (w.alloc o)) := below_new w
  go_enter Tryz.func13, Tryz.ntmps13
  go_wp2
  go_ret
  exact ⟨by simp [paF], HN.out _⟩
set_option maxRecDepth 100000 in
set_option maxHeartbeats 1000000 in
theorem gpassed_6 (n z cc v : Bool) (w : World) :
    Calls Tryz.prog 13 #[.int .i64 6, .agg #[.bool n, .bool z, .bool cc, .bool v]] w fun e w' => e = .returned (.bool (paF 6 n z cc v)) ∧ Below w.heap.size w w' := by
  have HN : Hid (∀ o, Below w.heap.size w (w.alloc o)) := below_new w
  go_enter Tryz.func13, Tryz.ntmps13
  go_wp2
  go_ret
  exact ⟨by simp [paF], HN.out _⟩
set_option maxRecDepth 100000 in
set_option maxHeartbeats 1000000 in
theorem gpassed_7 (n z cc v : Bool) (w : World) :
    Calls Tryz.prog 13 #[.int .i64 7, .agg #[.bool n, .bool z, .bool cc, .bool v]] w fun e w' => e = .returned (.bool (paF 7 n z cc v)) ∧ Below w.heap.size w w' := by
  have HN : Hid (∀ o, Below w.heap.size w (w.alloc o)) := below_new w
  go_enter Tryz.func13, Tryz.ntmps13
  go_wp2
  go_ret
  exact ⟨by simp [paF], HN.out _⟩
set_option maxRecDepth 100000 in
set_option maxHeartbeats 1000000 in
theorem gpassed_8 (n z cc v : Bool) (w : World) :
    Calls Tryz.prog 13 #[.int .i64 8, .agg #[.bool n, .bool z, .bool cc, .bool v]] w fun e w' => e = .returned (.bool (paF 8 n z cc v)) ∧ Below w.heap.size w w' := by
  have HN : Hid (∀ o, Below w.heap.size w (w.alloc o)) := below_new w
  cases z <;> cases cc
  all_goals
    go_enter Tryz.func13, Tryz.ntmps13
    go_wp2
    go_ret
    exact ⟨by simp [paF], HN.out _⟩
set_option maxRecDepth 100000 in
set_option maxHeartbeats 1000000 in
theorem gpassed_9 (n z cc v : Bool) (w : World) :
    Calls Tryz.prog 13 #[.int .i64 9, .agg #[.bool n, .bool z, .bool cc, .bool v]] w fun e w' => e = .returned (.bool (paF 9 n z cc v)) ∧ Below w.heap.size w w' := by
  have HN : Hid (∀ o, Below w.heap.size w (w.alloc o)) := below_new w
  cases cc
  all_goals
    go_enter Tryz.func13, Tryz.ntmps13
    go_wp2
    go_ret
    exact ⟨by simp [paF], HN.out _⟩
set_option maxRecDepth 100000 in
set_option maxHeartbeats 1000000 in
theorem gpassed_10 (n z cc v : Bool) (w : World) :
    Calls Tryz.prog 13 #[.int .i64 10, .agg #[.bool n, .bool z, .bool cc, .bool v]] w fun e w' => e = .returned (.bool (paF 10 n z cc v)) ∧ Below w.heap.size w w' := by
  have HN : Hid (∀ o, Below w.heap.size w (w.alloc o)) := below_new w
  go_enter Tryz.func13, Tryz.ntmps13
  go_wp2
  go_ret
  exact ⟨by simp [paF], HN.out _⟩
set_option maxRecDepth 100000 in
set_option maxHeartbeats 1000000 in
theorem gpassed_11 (n z cc v : Bool) (w : World) :
    Calls Tryz.prog 13 #[.int .i64 11, .agg #[.bool n, .bool z, .bool cc, .bool v]] w fun e w' => e = .returned (.bool (paF 11 n z cc v)) ∧ Below w.heap.size w w' := by
  have HN : Hid (∀ o, Below w.heap.size w (w.alloc o)) := below_new w
  go_enter Tryz.func13, Tryz.ntmps13
  go_wp2
  go_ret
  exact ⟨by simp [paF], HN.out _⟩
set_option maxRecDepth 100000 in
set_option maxHeartbeats 1000000 in
theorem gpassed_12 (n z cc v : Bool) (w : World) :
    Calls Tryz.prog 13 #[.int .i64 12, .agg #[.bool n, .bool z, .bool cc, .bool v]] w fun e w' => e = .returned (.bool (paF 12 n z cc v)) ∧ Below w.heap.size w w' := by
  have HN : Hid (∀ o, Below w.heap.size w (w.alloc o)) := below_new w
  cases z
  all_goals
    go_enter Tryz.func13, Tryz.ntmps13
    go_wp2
    go_ret
    exact ⟨by simp [paF], HN.out _⟩
set_option maxRecDepth 100000 in
set_option maxHeartbeats 1000000 in
theorem gpassed_13 (n z cc v : Bool) (w : World) :
    Calls Tryz.prog 13 #[.int .i64 13, .agg #[.bool n, .bool z, .bool cc, .bool v]] w fun e w' => e = .returned (.bool (paF 13 n z cc v)) ∧ Below w.heap.size w w' := by
  have HN : Hid (∀ o, Below w.heap.size w (w.alloc o)) := below_new w
  cases z
  all_goals
    go_enter Tryz.func13, Tryz.ntmps13
    go_wp2
    go_ret
    exact ⟨by simp [paF], HN.out _⟩
set_option maxRecDepth 100000 in
set_option maxHeartbeats 1000000 in
theorem gpassed_out (c : Int) (n z cc v : Bool) (w : World) (h : ¬ (0 ≤ c ∧ c ≤ 13)) :
    Calls Tryz.prog 13 #[.int .i64 c, .agg #[.bool n, .bool z, .bool cc, .bool v]] w fun e w' => e = .returned (.bool (decide (c = 14))) ∧ Below w.heap.size w w' := by
  have HN : Hid (∀ o, Below w.heap.size w (w.alloc o)) := below_new w
  have z0 : (c == 0) = false := by simp; omega
  have z1 : (c == 1) = false := by simp; omega
  have z2 : (c == 2) = false := by simp; omega
  have z3 : (c == 3) = false := by simp; omega
  have z4 : (c == 4) = false := by simp; omega
  have z5 : (c == 5) = false := by simp; omega
  have z6 : (c == 6) = false := by simp; omega
  have z7 : (c == 7) = false := by simp; omega
  have z8 : (c == 8) = false := by simp; omega
  have z9 : (c == 9) = false := by simp; omega
  have z10 : (c == 10) = false := by simp; omega
  have z11 : (c == 11) = false := by simp; omega
  have z12 : (c == 12) = false := by simp; omega
  have z13 : (c == 13) = false := by simp; omega
  clear h
  go_enter Tryz.func13, Tryz.ntmps13
  go_wp2
  go_ret
  exact ⟨rfl, HN.out _⟩
theorem gpassed_all (c : Int) (n z cc v : Bool) (w : World) :
    Calls Tryz.prog 13 #[.int .i64 c, .agg #[.bool n, .bool z, .bool cc, .bool v]] w fun e w' => e = .returned (.bool (paF c n z cc v)) ∧ Below w.heap.size w w' := by
  by_cases h : 0 ≤ c ∧ c ≤ 13
  · rcases (show c = 0 ∨ c = 1 ∨ c = 2 ∨ c = 3 ∨ c = 4 ∨ c = 5 ∨ c = 6 ∨ c = 7 ∨ c = 8 ∨ c = 9 ∨ c = 10 ∨ c = 11 ∨ c = 12 ∨ c = 13 by omega) with rfl | rfl | rfl | rfl | rfl | rfl | rfl | rfl | rfl | rfl | rfl | rfl | rfl | rfl
    · exact gpassed_0 n z cc v w
    · exact gpassed_1 n z cc v w
    · exact gpassed_2 n z cc v w
    · exact gpassed_3 n z cc v w
    · exact gpassed_4 n z cc v w
    · exact gpassed_5 n z cc v w
    · exact gpassed_6 n z cc v w
    · exact gpassed_7 n z cc v w
    · exact gpassed_8 n z cc v w
    · exact gpassed_9 n z cc v w
    · exact gpassed_10 n z cc v w
    · exact gpassed_11 n z cc v w
    · exact gpassed_12 n z cc v w
    · exact gpassed_13 n z cc v w
  · have e := gpassed_out c n z cc v w h
    have : paF c n z cc v = decide (c = 14) := by
      unfold paF
      repeat rw [if_neg (by omega)]
    rw [this]
    exact e
theorem gpassed_any (c : Int) (f : Fl) (w : World) :
    Calls Tryz.prog 13 #[.int .i64 c, .agg #[.bool f.n, .bool f.z, .bool f.c, .bool f.v]] w fun e w' => e = .returned (.bool (paF c f.n f.z f.c f.v)) ∧ Below w.heap.size w w' := by exact gpassed_all c f.n f.z f.c f.v w
end Go.Proofs.YtilhceajhlaojaaGreatDoor.Al
namespace Go.Proofs.YtilhceajhlaojaaGreatDoor
open Go.RowKit
set_option linter.unusedVariables false
set_option linter.unusedSimpArgs false
/-- The numbers of an instruction, as far as it is done. -/
structure IR (i : Is.Ins) : Prop where
  rd : 0 ≤ i.rd ∧ i.rd ≤ 15
  rn : 0 ≤ i.rn ∧ i.rn ≤ 15
  rm : 0 ≤ i.rm ∧ i.rm ≤ 15
  rs : 0 ≤ i.rs ∧ i.rs ≤ 15
  ra : 0 ≤ i.ra ∧ i.ra ≤ 15
  imm : 0 ≤ i.imm ∧ i.imm < 4294967296
/-- While an instruction is done. -/
abbrev DB (w : World) (b : Nat) (R : List Int) (ln : Bool) (bus : Value) (i : Is.Ins) (t : Tk) : Prop := RB w b 124 R (doE ln bus i t)
theorem DB.at_ {w : World} {b : Nat} {R : List Int} {ln : Bool} {bus : Value} {i : Is.Ins} {t : Tk} (h : DB w b R ln bus i t) (j : Nat) : w.cell? ⟨b, 30 + j, none⟩ = (doE ln bus i t)[j]? := RB.ext h j _ rfl
theorem DB.ins {w : World} {b : Nat} {R : List Int} {ln : Bool} {bus : Value} {i : Is.Ins} {t : Tk} (h : DB w b R ln bus i t) : w.rangeAt b 32 (Is.insL i) := fun j v hv => by
  have hj : j < 20 := (List.getElem?_eq_some_iff.1 hv).1
  have := DB.at_ h (2 + j)
  rw [show 30 + (2 + j) = 32 + j by omega] at this
  rw [this]
  rw [show (doE ln bus i t)[2 + j]? = (Is.insL i ++ tkL t)[j]? from by rw [Nat.add_comm]; rfl]
  rw [List.getElem?_append_left hj]
  exact hv
theorem DB.tk {w : World} {b : Nat} {R : List Int} {ln : Bool} {bus : Value} {i : Is.Ins} {t : Tk} (h : DB w b R ln bus i t) : w.rangeAt b 52 (tkL t) := fun j v hv => by
  have hj : j < 8 := (List.getElem?_eq_some_iff.1 hv).1
  have := DB.at_ h (22 + j)
  rw [show 30 + (22 + j) = 52 + j by omega] at this
  rw [this]
  rw [show (doE ln bus i t)[22 + j]? = (Is.insL i ++ tkL t)[20 + j]? from by rw [show 22 + j = (20 + j) + 1 + 1 by omega]; rfl]
  rw [List.getElem?_append_right (by show (20 : Nat) ≤ _; omega)]
  rw [show 20 + j - (Is.insL i).length = j by show 20 + j - 20 = j; omega]
  exact hv
/-- The cells of an instruction in a box. -/
theorem ins_cells {w : World} {q o : Nat} {i : Is.Ins} (h : w.rangeAt q o (Is.insL i)) :
    (w.cell? ⟨q, o + 0, none⟩ = some (.int .i64 i.cond) ∧ w.cell? ⟨q, o + 1, none⟩ = some (.int .i64 i.op) ∧ w.cell? ⟨q, o + 2, none⟩ = some (.bool i.s) ∧ w.cell? ⟨q, o + 3, none⟩ = some (.int .i64 i.form) ∧ w.cell? ⟨q, o + 4, none⟩ = some (.int .i64 i.rd) ∧ w.cell? ⟨q, o + 5, none⟩ = some (.int .i64 i.rn) ∧ w.cell? ⟨q, o + 6, none⟩ = some (.int .i64 i.rm) ∧ w.cell? ⟨q, o + 7, none⟩ = some (.int .i64 i.rs) ∧ w.cell? ⟨q, o + 8, none⟩ = some (.int .i64 i.ra) ∧ w.cell? ⟨q, o + 9, none⟩ = some (.int .u32 i.imm)) ∧
    (w.cell? ⟨q, o + 10, none⟩ = some (.int .i64 i.shift) ∧ w.cell? ⟨q, o + 11, none⟩ = some (.int .i64 i.amount) ∧ w.cell? ⟨q, o + 12, none⟩ = some (.bool i.pre) ∧ w.cell? ⟨q, o + 13, none⟩ = some (.bool i.up) ∧ w.cell? ⟨q, o + 14, none⟩ = some (.bool i.write) ∧ w.cell? ⟨q, o + 15, none⟩ = some (.int .u16 i.list)) :=
  ⟨⟨h 0 _ rfl, h 1 _ rfl, h 2 _ rfl, h 3 _ rfl, h 4 _ rfl, h 5 _ rfl, h 6 _ rfl, h 7 _ rfl, h 8 _ rfl, h 9 _ rfl⟩, h 10 _ rfl, h 11 _ rfl, h 12 _ rfl, h 13 _ rfl, h 14 _ rfl, h 15 _ rfl⟩
set_option maxRecDepth 100000 in
theorem ins_info : (Tryz.prog.info? 35).map (·.size) = some 20 := by kernel_rfl
theorem ins_one (i : Is.Ins) : (Is.insL i).toArray.all (·.oneCell') = true := by
  rw [Array.all_eq_true']
  intro v hv
  simp only [List.mem_toArray, Is.insL, List.mem_cons, List.not_mem_nil, or_false] at hv
  rcases hv with rfl | rfl | rfl | rfl | rfl | rfl | rfl | rfl | rfl | rfl | rfl | rfl | rfl | rfl | rfl | rfl | rfl | rfl | rfl | rfl <;> rfl
/-- The second operand, and its carry. -/
def opdP (R : List Int) (a : Int) (i : Is.Ins) : Int × Bool :=
  if i.form = 1 then ((Al.expW i.imm.toNat : Nat), Al.expC i.imm.toNat (flR R).c)
  else if i.form = 3 then (((Al.shX i.shift (vlR R a i.rm).toNat (vlR R a i.rs % 256) (flR R).c).1 : Nat), (Al.shX i.shift (vlR R a i.rm).toNat (vlR R a i.rs % 256) (flR R).c).2)
  else (((Al.shX (Al.deF i.shift i.amount).1 (vlR R a i.rm).toNat (Al.deF i.shift i.amount).2 (flR R).c).1 : Nat), (Al.shX (Al.deF i.shift i.amount).1 (vlR R a i.rm).toNat (Al.deF i.shift i.amount).2 (flR R).c).2)
/-- The state while an operand is reckoned: the box of the instruction. -/
structure OX (W v : World) (q b : Nat) (R : List Int) (ln : Bool) (bus : Value) (i : Is.Ins) (t : Tk) : Prop where
  bel : Below W.heap.size W v
  db : DB v b R ln bus i t
  box : Bl v q 35 (Is.insL i)
theorem OX.step {W v v' : World} {q b : Nat} {R : List Int} {ln : Bool} {bus : Value} {i : Is.Ins} {t : Tk} (h : OX W v q b R ln bus i t) (hb : Below v.heap.size v v') : OX W v' q b R ln bus i t :=
  ⟨Below.step h.bel hb, RB.below h.db hb, h.box.below hb⟩
theorem OX.drewN {W v : World} {q b : Nat} {R : List Int} {ln : Bool} {bus : Value} {i : Is.Ins} {t : Tk} (h : OX W v q b R ln bus i t) (n : Nat) : OX W (v.drewN n) q b R ln bus i t := ⟨below_drewN h.bel n, ⟨h.db.ok, h.db.bl⟩, h.box⟩
theorem OX.drew {W v : World} {q b : Nat} {R : List Int} {ln : Bool} {bus : Value} {i : Is.Ins} {t : Tk} (h : OX W v q b R ln bus i t) : OX W v.drew q b R ln bus i t := ⟨below_drew h.bel, ⟨h.db.ok, h.db.bl⟩, h.box⟩
/-- A box filled with the instruction. -/
theorem OX.fill {W v : World} {b : Nat} {R : List Int} {ln : Bool} {bus : Value} {i : Is.Ins} {t : Tk} (hb : Below W.heap.size W v) (h : DB v b R ln bus i t) (A : Array Value) (hA : A.size = 20) : OX W ((v.alloc (.cells A 35)).setCells v.heap.size 0 (Is.insL i)) v.heap.size b R ln bus i t := by
  have := fill_new v 35 A (Is.insL i) (by rw [hA]; rfl)
  exact ⟨Below.step hb this.1, RB.below h this.1, this.2⟩
theorem OX.put {W v : World} {q b : Nat} {R : List Int} {ln : Bool} {bus : Value} {i : Is.Ins} {t : Tk} (hb : Below W.heap.size W v) (h : DB v b R ln bus i t) (L : List Value) (hq : Bl v q 35 L) (hL : L.length = 20) (hW : W.heap.size ≤ q) (hqb : b < W.heap.size) : OX W (v.setCells q 0 (Is.insL i)) q b R ln bus i t := by
  have hT : TA q v (v.setCells q 0 (Is.insL i)) := set_turn _ 0 v v (Turn.refl _ _)
  refine ⟨Turn.to ((TA.of hb : TA q W v).then hT) (fun x e => ?_) (Nat.le_refl _), RB.turn h hT (fun e => ?_), set_all hq (by rw [hL]; rfl)⟩
  · have e : x = q := e
    omega
  · have e : b = q := e
    omega
end Go.Proofs.YtilhceajhlaojaaGreatDoor

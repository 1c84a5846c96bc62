import Derived.Test.YtliiblaodhcjhabTwo
namespace Go.Proofs.Ytliiblaodhcjhab
open Go.RowKit
set_option linter.unusedVariables false

section plain
variable {α : Type}
theorem next_hit {L : List (Sp α)} {k : Int} {i : Nat} {s : Sp α} (hs : L[i]? = some s) (hk : k ≤ s.hi) (hb : ∀ j t, j < i → L[j]? = some t → t.hi < k) : next L k = some s := by
  induction L generalizing i with
  | nil => simp at hs
  | cons t r ih =>
    cases i with
    | zero =>
      simp at hs
      subst hs
      rw [next, if_pos hk]
    | succ i =>
      have := hb 0 t (by omega) rfl
      rw [next, if_neg (by omega)]
      exact ih (by simpa using hs) (fun j u hj hu => hb (j + 1) u (by omega) (by simpa using hu))
theorem next_no {L : List (Sp α)} {k : Int} (hb : ∀ t ∈ L, t.hi < k) : next L k = none := by
  induction L with
  | nil => rfl
  | cons t r ih =>
    have := hb t (by simp)
    rw [next, if_neg (by omega)]
    exact ih (fun u hu => hb u (by simp [hu]))
theorem next_mem {L : List (Sp α)} {k : Int} {s : Sp α} (h : next L k = some s) : s ∈ L ∧ k ≤ s.hi := by
  induction L with
  | nil => cases h
  | cons t r ih =>
    rw [next] at h
    split at h
    · cases h
      exact ⟨by simp, by assumption⟩
    · have := ih h
      exact ⟨by simp [this.1], this.2⟩
theorem run_hit {L : List (Sp α)} (h : Good 0 none L) {k : Int} {i : Nat} {s : Sp α} (hs : L[i]? = some s) (h1 : s.lo ≤ k) (hk : k ≤ s.hi) : run L k = some s := by
  rw [run, next_hit hs hk (fun j t hj ht => by have := good_lt h ht hs hj; omega)]
  simp [Option.filter, h1]
theorem run_no {L : List (Sp α)} {k : Int} (hb : ∀ t ∈ L, ¬ (t.lo ≤ k ∧ k ≤ t.hi)) : run L k = none := by
  rw [run]
  cases hn : next L k with
  | none => rfl
  | some s =>
    have := next_mem hn
    have := hb s this.1
    simp [Option.filter]
    omega
end plain

theorem rsp_is (W : World) (lo p : Nat) (v : Value) (D : List Dn) (h : RefAt W lo p v D) (hs : D.length ≤ 1048576) (L : List (Sp Int)) (hL : Good 0 none L) (hBo : Both L D) :
    Calls Try.prog 26 #[.pointer (some ⟨p, 0, none⟩)] W fun e W' => ∃ v', e = .returned v' ∧ (Lr W' W.heap.size v' L ∧ L.length ≤ 3000000) ∧ Below W.heap.size W W' := by
  refine (rspans_any W lo p v D h hs).mono ?_
  rintro e w1 ⟨v1, rfl, ⟨R, hR1, hR2, hR3, hR4⟩, hb1⟩
  obtain rfl : R = L := hR2.uniq hL (fun k h0 h1 => (hR3 k h0 h1).trans (hBo k h0 h1).symm)
  exact ⟨v1, rfl, ⟨hR1, by omega⟩, hb1⟩

set_option maxHeartbeats 4000000 in
set_option maxRecDepth 100000 in
theorem rrun_any (W : World) (lo0 p : Nat) (v : Value) (D : List Dn) (k : Int) (h : RefAt W lo0 p v D) (hs : D.length ≤ 1048576) (L : List (Sp Int)) (hL : Good 0 none L) (hBo : Both L D) :
    Calls Try.prog 36 #[.pointer (some ⟨p, 0, none⟩), .int .u64 k] W fun e W' => e = .returned (optV (run L k)) ∧ Below W.heap.size W W' := by
  have hB0 : ∀ o, Below W.heap.size W (W.alloc o) := fun o => (Below.refl _ W).alloc (Nat.le_refl _) _
  have hS := rsp_is (W.alloc (.cells #[.int .u64 0, .int .u64 0, .int .i64 0] 47)) lo0 p v D (h.keep (hB0 _)) hs L hL hBo
  have hset : ∀ (B : Nat) (a : Addr) (u : Value) (w2 : World), B ≤ a.block → Below B W w2 → Below B W (w2.setCell a u) := fun B a u w2 ha h2 => h2.setCell ha u
  have HG : Hid (Good 0 none L) := hL
  clear h hL hBo
  generalize hx : run L k = x at *
  have HX : Hid (run L k = x) := hx
  clear hx
  go_enter Try.func36, Try.ntmps36
  go_wp2_with (fail)
  refine hS.mono ?_
  rintro e w1 ⟨v1, rfl, ⟨hR1, hl⟩, hb1⟩
  obtain ⟨va, vc, hv, hvc⟩ := Lr.view hR1
  subst hv
  have hb' := hb1
  rw [World.size_alloc] at hb'
  obtain ⟨hc, hf⟩ := bcell hb'
  have hz : W.heap.size < w1.heap.size := by have := hb1.size; rw [World.size_alloc] at this; omega
  have hb2 : Below W.heap.size W w1 := (hB0 _).trans (hb1.mono (by simp))
  have HC : Hid (∀ i s, L[i]? = some s → ∃ g, va = some ⟨g, 0, none⟩ ∧ W.heap.size + 1 ≤ g ∧ g < w1.heap.size ∧ w1.cell? ⟨g, i * 3, none⟩ = some (.int .u64 s.lo) ∧ w1.cell? ⟨g, i * 3 + 1, none⟩ = some (.int .u64 s.hi) ∧ w1.cell? ⟨g, i * 3 + 2, none⟩ = some (.int .i64 s.val) ∧ w1.frozen? ⟨g, i * 3 + 1, none⟩ = false) := by rw [World.size_alloc] at hvc; exact hvc
  clear hS hR1 hvc hb1 hb'
  generalize hm : L.length = m at *
  have HML : Hid (L.length = m) := hm
  clear hm
  go_wp2_with (fail)
  go_loopw [7] (fun si wr => ∃ (i : Nat), si = .int .i64 i ∧ i ≤ m ∧ Hid (∀ j s, j < i → L[j]? = some s → ¬ (s.lo ≤ k ∧ k ≤ s.hi)) ∧ w1 = wr) (fun si _ => m - (intOf si).toNat)
  case atStart => exact ⟨0, rfl, Nat.zero_le _, (fun j s hj => by omega), rfl⟩
  case round =>
    obtain ⟨i, rfl, hi', HI, rfl⟩ := hrel
    by_cases hlt : i < m
    · obtain ⟨s, hs⟩ : ∃ s, L[i]? = some s := ⟨_, List.getElem?_eq_getElem (by rw [HML.out]; exact hlt)⟩
      obtain ⟨gg, rfl, hg0, hgl, z0, z1, z2, z3⟩ := HC.out i s hs
      have hiz : (i : Int) < (m : Int) := by omega
      have hi0 : (0 : Int) ≤ (i : Int) := by omega
      have hge : gg ≠ W.heap.size := by omega
      by_cases hin : s.lo ≤ k ∧ k ≤ s.hi
      · have HF : Hid (x = some s) := HX.out.symm.trans (run_hit HG.out hs hin.1 hin.2)
        obtain ⟨hin1, hin2⟩ := hin
        obtain rfl := HF.out
        clear hs HF HX HI
        go_wp2
        refine bodyPost_ret (v := .tuple #[.agg #[.int .u64 s.lo, .int .u64 s.hi, .int .i64 s.val], .bool true]) (by simp [results, Try.results36, go_sem, hc]) rfl ⟨rfl, ?_⟩
        repeat (first | exact hb2 | refine hset _ _ _ _ (by first | exact Nat.le_refl _ | (simp; done) | (simp; omega)) ?_ | refine Below.alloc ?_ (by first | exact Nat.le_refl _ | (simp; done) | (simp; omega)) _)
      · have HI2 : Hid (∀ j s, j < i + 1 → L[j]? = some s → ¬ (s.lo ≤ k ∧ k ≤ s.hi)) := fun j t hj ht => by
          by_cases e : j = i
          · subst e
            rw [hs] at ht
            cases ht
            omega
          · exact HI.out j t (by omega) ht
        clear hs
        by_cases h1 : s.lo ≤ k
        · have h2 : ¬ (k ≤ s.hi) := fun h => hin ⟨h1, h⟩
          clear hin
          go_wp2
          go_roundw
          case rel => exact ⟨i + 1, by go_num, by omega, HI2, trivial⟩
          case measure => simp [intOf]; omega
        · clear hin
          go_wp2
          go_roundw
          case rel => exact ⟨i + 1, by go_num, by omega, HI2, trivial⟩
          case measure => simp [intOf]; omega
    · have HF : Hid (x = none) := HX.out.symm.trans (run_no (fun t ht => by
        obtain ⟨j, hj⟩ := List.mem_iff_getElem?.1 ht
        exact HI.out j t (by have := (List.getElem?_eq_some_iff.1 hj).1; rw [HML.out] at this; omega) hj))
      obtain rfl := HF.out
      clear HF HX HI HC
      go_wp2
      refine bodyPost_ret (v := .tuple #[.agg #[.int .u64 0, .int .u64 0, .int .i64 0], .bool false]) (by simp [results, Try.results36, go_sem, hc]) rfl ⟨rfl, ?_⟩
      repeat (first | exact hb2 | refine hset _ _ _ _ (by first | exact Nat.le_refl _ | (simp; done) | (simp; omega)) ?_ | refine Below.alloc ?_ (by first | exact Nat.le_refl _ | (simp; done) | (simp; omega)) _)
set_option maxHeartbeats 4000000 in
set_option maxRecDepth 100000 in
theorem rnext_any (W : World) (lo0 p : Nat) (v : Value) (D : List Dn) (k : Int) (h : RefAt W lo0 p v D) (hs : D.length ≤ 1048576) (L : List (Sp Int)) (hL : Good 0 none L) (hBo : Both L D) :
    Calls Try.prog 37 #[.pointer (some ⟨p, 0, none⟩), .int .u64 k] W fun e W' => e = .returned (optV (next L k)) ∧ Below W.heap.size W W' := by
  have hB0 : ∀ o, Below W.heap.size W (W.alloc o) := fun o => (Below.refl _ W).alloc (Nat.le_refl _) _
  have hS := rsp_is (W.alloc (.cells #[.int .u64 0, .int .u64 0, .int .i64 0] 47)) lo0 p v D (h.keep (hB0 _)) hs L hL hBo
  have hset : ∀ (B : Nat) (a : Addr) (u : Value) (w2 : World), B ≤ a.block → Below B W w2 → Below B W (w2.setCell a u) := fun B a u w2 ha h2 => h2.setCell ha u
  have HG : Hid (Good 0 none L) := hL
  clear h hL hBo
  generalize hx : next L k = x at *
  have HX : Hid (next L k = x) := hx
  clear hx
  go_enter Try.func37, Try.ntmps37
  go_wp2_with (fail)
  refine hS.mono ?_
  rintro e w1 ⟨v1, rfl, ⟨hR1, hl⟩, hb1⟩
  obtain ⟨va, vc, hv, hvc⟩ := Lr.view hR1
  subst hv
  have hb' := hb1
  rw [World.size_alloc] at hb'
  obtain ⟨hc, hf⟩ := bcell hb'
  have hz : W.heap.size < w1.heap.size := by have := hb1.size; rw [World.size_alloc] at this; omega
  have hb2 : Below W.heap.size W w1 := (hB0 _).trans (hb1.mono (by simp))
  have HC : Hid (∀ i s, L[i]? = some s → ∃ g, va = some ⟨g, 0, none⟩ ∧ W.heap.size + 1 ≤ g ∧ g < w1.heap.size ∧ w1.cell? ⟨g, i * 3, none⟩ = some (.int .u64 s.lo) ∧ w1.cell? ⟨g, i * 3 + 1, none⟩ = some (.int .u64 s.hi) ∧ w1.cell? ⟨g, i * 3 + 2, none⟩ = some (.int .i64 s.val) ∧ w1.frozen? ⟨g, i * 3 + 1, none⟩ = false) := by rw [World.size_alloc] at hvc; exact hvc
  clear hS hR1 hvc hb1 hb'
  generalize hm : L.length = m at *
  have HML : Hid (L.length = m) := hm
  clear hm
  go_wp2_with (fail)
  go_loopw [7] (fun si wr => ∃ (i : Nat), si = .int .i64 i ∧ i ≤ m ∧ Hid (∀ j s, j < i → L[j]? = some s → s.hi < k) ∧ w1 = wr) (fun si _ => m - (intOf si).toNat)
  case atStart => exact ⟨0, rfl, Nat.zero_le _, (fun j s hj => by omega), rfl⟩
  case round =>
    obtain ⟨i, rfl, hi', HI, rfl⟩ := hrel
    by_cases hlt : i < m
    · obtain ⟨s, hs⟩ : ∃ s, L[i]? = some s := ⟨_, List.getElem?_eq_getElem (by rw [HML.out]; exact hlt)⟩
      obtain ⟨gg, rfl, hg0, hgl, z0, z1, z2, z3⟩ := HC.out i s hs
      have hiz : (i : Int) < (m : Int) := by omega
      have hi0 : (0 : Int) ≤ (i : Int) := by omega
      have hge : gg ≠ W.heap.size := by omega
      by_cases hin : k ≤ s.hi
      · have HF : Hid (x = some s) := HX.out.symm.trans (next_hit hs hin HI.out)
        obtain rfl := HF.out
        clear hs HF HX HI
        go_wp2
        refine bodyPost_ret (v := .tuple #[.agg #[.int .u64 s.lo, .int .u64 s.hi, .int .i64 s.val], .bool true]) (by simp [results, Try.results37, go_sem, hc]) rfl ⟨rfl, ?_⟩
        repeat (first | exact hb2 | refine hset _ _ _ _ (by first | exact Nat.le_refl _ | (simp; done) | (simp; omega)) ?_ | refine Below.alloc ?_ (by first | exact Nat.le_refl _ | (simp; done) | (simp; omega)) _)
      · have HI2 : Hid (∀ j s, j < i + 1 → L[j]? = some s → s.hi < k) := fun j t hj ht => by
          by_cases e : j = i
          · subst e
            rw [hs] at ht
            cases ht
            omega
          · exact HI.out j t (by omega) ht
        clear hs
        go_wp2
        go_roundw
        case rel => exact ⟨i + 1, by go_num, by omega, HI2, trivial⟩
        case measure => simp [intOf]; omega
    · have HF : Hid (x = none) := HX.out.symm.trans (next_no (fun t ht => by
        obtain ⟨j, hj⟩ := List.mem_iff_getElem?.1 ht
        exact HI.out j t (by have := (List.getElem?_eq_some_iff.1 hj).1; rw [HML.out] at this; omega) hj))
      obtain rfl := HF.out
      clear HF HX HI HC
      go_wp2
      refine bodyPost_ret (v := .tuple #[.agg #[.int .u64 0, .int .u64 0, .int .i64 0], .bool false]) (by simp [results, Try.results37, go_sem, hc]) rfl ⟨rfl, ?_⟩
      repeat (first | exact hb2 | refine hset _ _ _ _ (by first | exact Nat.le_refl _ | (simp; done) | (simp; omega)) ?_ | refine Below.alloc ?_ (by first | exact Nat.le_refl _ | (simp; done) | (simp; omega)) _)
end Go.Proofs.Ytliiblaodhcjhab

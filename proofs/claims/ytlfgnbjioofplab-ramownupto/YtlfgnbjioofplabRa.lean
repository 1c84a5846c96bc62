import Derived.Test.YtlfgnbjioofplabPe
namespace Go.Proofs.Ytlfgnbjioofplab
open Go.RowKit
set_option linter.unusedVariables false

theorem rend_any (W : World) (r N : Nat) (h0 : W.cell? ⟨r, 0, none⟩ = some (.int .i64 N)) (hN : N ≤ 65536) :
    Calls Try.prog 29 #[.pointer (some ⟨r, 0, none⟩)] W fun e W' => e = .returned (.int .u64 ((N : Int) * 4096)) ∧ W = W' := by
  go_enter Try.func29, Try.ntmps29
  go_wp2
  go_ret
  exact ⟨rfl, rfl⟩
theorem rframes_any (W : World) (r N : Nat) (h0 : W.cell? ⟨r, 0, none⟩ = some (.int .i64 N)) :
    Calls Try.prog 17 #[.pointer (some ⟨r, 0, none⟩)] W fun e W' => e = .returned (.int .i64 N) ∧ W = W' := by
  go_enter Try.func17, Try.ntmps17
  go_wp2
  go_ret
  exact ⟨rfl, rfl⟩
theorem rnew_bad (W : World) (f : Int) (h : f < 1 ∨ 65536 < f) :
    Calls Try.prog 15 #[.int .i64 f] W fun e W' => e = .returned (.tuple #[.pointer none, .int .i64 1]) ∧ W = W' := by
  rcases h with h | h
  · go_enter Try.func15, Try.ntmps15
    go_wp2
    go_ret2
    exact ⟨rfl, rfl⟩
  · have h1 : 1 ≤ f := by omega
    go_enter Try.func15, Try.ntmps15
    go_wp2
    go_ret2
    exact ⟨rfl, rfl⟩
set_option maxHeartbeats 4000000 in
theorem rnew_any (W : World) (N : Nat) (h1 : 1 ≤ N) (h2 : N ≤ 65536) :
    Calls Try.prog 15 #[.int .i64 N] W fun e W' => e = .returned (.tuple #[.pointer (some ⟨W.heap.size, 0, none⟩), .int .i64 0]) ∧ RM W' (gr (fun _ => False) W W') W.heap.size N (fun _ => 0) ∧ Turn (fun _ => False) W W' := by
  have a1 : 1 ≤ (N : Int) := by omega
  have a2 : (N : Int) ≤ 65536 := by omega
  go_enter Try.func15, Try.ntmps15
  go_wp2
  go_ret2
  refine ⟨rfl, ?_, (Turn.refl _ _).alloc _⟩
  refine ⟨.slice none 0 0, [], ⟨(MapKept.heap_alloc W _).1, World.ownsRow_nil _ _ _ _, ?_, ?_, List.nodup_nil, List.nodup_nil, fun n _ _ => cnt_none n, .inr ⟨Nat.le_refl _, by simp⟩, ?_, h1, h2, gr_low (fun _ h => h.elim) (by simp)⟩⟩
  · intro b hb
    cases hb
  · intro x hx
    cases hx
  · intro x
    exact ⟨Int.le_refl 0, (by decide : (0 : Int) < 256)⟩

set_option maxHeartbeats 4000000 in
set_option maxRecDepth 100000 in
theorem at_some (W : World) (S : Nat → Prop) (r N : Nat) (m : Nat → Int) (v : Value) (fs : List (Nat × Nat)) (h : RMx W S r N m v fs) (no i : Nat) (x : Nat × Nat) (hx : fs[i]? = some x) (hn : x.1 = no) :
    Calls Try.prog 46 #[.pointer (some ⟨r, 0, none⟩), .int .i64 no] W fun e W' => e = .returned (.int .i64 i) ∧ W = W' := by
  obtain ⟨a, cap, rfl, hcells⟩ := h.view
  have hc1 := h.cell1
  have hlen := h.len
  have hN := h.n2
  have hin : i < fs.length := (List.getElem?_eq_some_iff.1 hx).1
  have HU : Hid (∀ j y, fs[j]? = some y → y.1 = no → j = i) := fun j y hy hyn => by
    have hp := h.nod1
    have h1 : (fs.map (·.1))[j]? = some no := by rw [List.getElem?_map, hy, ← hyn]; rfl
    have h2 : (fs.map (·.1))[i]? = some no := by rw [List.getElem?_map, hx, ← hn]; rfl
    exact (List.getElem?_inj (by simpa using (List.getElem?_eq_some_iff.1 hy).1) hp).1 (h1.trans h2.symm)
  have HC : Hid (∀ i x, fs[i]? = some x → ∃ gb, a = some ⟨gb, 0, none⟩ ∧ S gb ∧ W.cell? ⟨gb, i * 2, none⟩ = some (.int .i64 (x.1 : Int)) ∧ W.cell? ⟨gb, i * 2 + 1, none⟩ = some (.slice (some ⟨x.2, 0, none⟩) 4096 4096)) := hcells
  have HX : Hid (fs[i]? = some x ∧ x.1 = no) := ⟨hx, hn⟩
  clear hcells hx hn h
  generalize hq : fs.length = q at *
  have HQ : Hid (fs.length = q) := hq
  clear hq
  go_enter Try.func46, Try.ntmps46
  go_wp2
  go_loop [5] (fun c => ∃ k : Nat, k ≤ i ∧ c = .int .i64 k) (fun c => i + 1 - (intOf c).toNat)
  case atStart => exact ⟨0, Nat.zero_le _, rfl⟩
  case round =>
    obtain ⟨k, hk, rfl⟩ := hrel
    have hkq : (k : Int) < (q : Int) := by omega
    by_cases hki : k = i
    · subst hki
      obtain ⟨gb, rfl, _, e0, _⟩ := HC.out k x HX.out.1
      have hxn := HX.out.2
      rw [hxn] at e0
      clear hxn
      go_wp2
      go_ret
      exact ⟨rfl, rfl⟩
    · obtain ⟨y, hy⟩ : ∃ y, fs[k]? = some y := ⟨_, List.getElem?_eq_getElem (by rw [HQ.out]; omega)⟩
      obtain ⟨gb, rfl, _, e0, _⟩ := HC.out k y hy
      have hyn : ¬ (y.1 : Int) = (no : Int) := fun e => hki (HU.out k y hy (by omega))
      clear hy
      go_wp2
      go_round
      case rel => exact ⟨k + 1, by omega, by go_num⟩
      case measure => simp [intOf]; omega
set_option maxHeartbeats 4000000 in
set_option maxRecDepth 100000 in
theorem at_none (W : World) (S : Nat → Prop) (r N : Nat) (m : Nat → Int) (v : Value) (fs : List (Nat × Nat)) (h : RMx W S r N m v fs) (no : Nat) (hn : ∀ x ∈ fs, x.1 ≠ no) :
    Calls Try.prog 46 #[.pointer (some ⟨r, 0, none⟩), .int .i64 no] W fun e W' => e = .returned (.int .i64 (-1)) ∧ W = W' := by
  obtain ⟨a, cap, rfl, hcells⟩ := h.view
  have hc1 := h.cell1
  have hlen := h.len
  have hN := h.n2
  have HC : Hid (∀ i x, fs[i]? = some x → ∃ gb, a = some ⟨gb, 0, none⟩ ∧ S gb ∧ W.cell? ⟨gb, i * 2, none⟩ = some (.int .i64 (x.1 : Int)) ∧ W.cell? ⟨gb, i * 2 + 1, none⟩ = some (.slice (some ⟨x.2, 0, none⟩) 4096 4096)) := hcells
  have HX : Hid (∀ x ∈ fs, x.1 ≠ no) := hn
  clear hcells hn h
  generalize hq : fs.length = q at *
  have HQ : Hid (fs.length = q) := hq
  clear hq
  go_enter Try.func46, Try.ntmps46
  go_wp2
  go_loop [5] (fun c => ∃ k : Nat, k ≤ q ∧ c = .int .i64 k) (fun c => q - (intOf c).toNat)
  case atStart => exact ⟨0, Nat.zero_le _, rfl⟩
  case round =>
    obtain ⟨k, hk, rfl⟩ := hrel
    by_cases hkq : k < q
    · have hkz : (k : Int) < (q : Int) := by omega
      obtain ⟨y, hy⟩ : ∃ y, fs[k]? = some y := ⟨_, List.getElem?_eq_getElem (by rw [HQ.out]; omega)⟩
      obtain ⟨gb, rfl, _, e0, _⟩ := HC.out k y hy
      have hyn : ¬ (y.1 : Int) = (no : Int) := fun e => HX.out y (List.mem_of_getElem? hy) (by omega)
      clear hy
      go_wp2
      go_round
      case rel => exact ⟨k + 1, by omega, by go_num⟩
      case measure => simp [intOf]; omega
    · go_wp2
      go_ret
      exact ⟨rfl, rfl⟩

theorem RMx.parted {W : World} {S : Nat → Prop} {r N : Nat} {m : Nat → Int} {v : Value} {fs : List (Nat × Nat)} (h : RMx W S r N m v fs) (n : Nat) : (∃ (i : Nat) (x : Nat × Nat), fs[i]? = some x ∧ x.1 = n) ∨ ∀ x ∈ fs, x.1 ≠ n := by
  by_cases hx : ∃ x ∈ fs, x.1 = n
  · obtain ⟨x, hx, e⟩ := hx
    obtain ⟨i, hi⟩ := List.getElem?_of_mem hx
    exact .inl ⟨i, x, hi, e⟩
  · exact .inr fun x hm e => hx ⟨x, hm, e⟩

set_option maxHeartbeats 4000000 in
set_option maxRecDepth 100000 in
theorem rget_any (W : World) (S : Nat → Prop) (r N : Nat) (m : Nat → Int) (pa : Nat) (h : RM W S r N m) (hp : pa < N * 4096) :
    Calls Try.prog 30 #[.pointer (some ⟨r, 0, none⟩), .int .u64 pa] W fun e W' => e = .returned (.int .u8 (m pa)) ∧ W = W' := by
  obtain ⟨v, fs, h⟩ := h
  have hN := h.n2
  have hq : (pa : Int) / 4096 = ((pa / 4096 : Nat) : Int) := by omega
  have hr : (pa : Int) % 4096 = ((pa % 4096 : Nat) : Int) := by omega
  have hqr : pa / 4096 * 4096 + pa % 4096 = pa := by omega
  have hr4 : pa % 4096 < 4096 := by omega
  have hqN : pa / 4096 < N := by omega
  rcases h.parted (pa / 4096) with ⟨i, x, hx, hxn⟩ | hno
  · have hat := at_some W S r N m v fs h (pa / 4096) i x hx hxn
    obtain ⟨a, cap, rfl, hcells⟩ := h.view
    obtain ⟨gb, rfl, _, e0, e1⟩ := hcells i x hx
    have hc1 := h.cell1
    have hlen := h.len
    obtain ⟨f1, f2, f3⟩ := h.frm x (List.mem_of_getElem? hx)
    have hcell : W.cell? ⟨x.2, pa % 4096, none⟩ = some (.int .u8 (m pa)) := by
      rw [f2.cell, List.getElem?_map, fr_at _ _ hr4, hxn, hqr]; rfl
    have hin : (i : Int) < (fs.length : Int) := by have := (List.getElem?_eq_some_iff.1 hx).1; omega
    clear hcells hx hxn h f1 f2 f3 hqr
    generalize pa / 4096 = q at *
    generalize pa % 4096 = o at *
    go_enter Try.func30, Try.ntmps30
    go_wp2_with (first
      | (go_at_call 46; refine hat.mono ?_; rintro e w1 ⟨rfl, rfl⟩)
      | go_in)
    go_ret
    exact ⟨rfl, rfl⟩
  · have hat := at_none W S r N m v fs h (pa / 4096) hno
    have hz := cnt_fr_zero.1 (h.out (pa / 4096) hqN hno) (pa % 4096) hr4
    rw [hqr] at hz
    rw [hz]
    clear hz hno h hqr
    generalize pa / 4096 = q at *
    generalize pa % 4096 = o at *
    go_enter Try.func30, Try.ntmps30
    go_wp2_with (first
      | (go_at_call 46; refine hat.mono ?_; rintro e w1 ⟨rfl, rfl⟩)
      | go_in)
    go_ret
    exact ⟨rfl, rfl⟩
end Go.Proofs.Ytlfgnbjioofplab

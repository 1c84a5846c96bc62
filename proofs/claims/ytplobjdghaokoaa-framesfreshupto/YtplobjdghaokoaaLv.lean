import Derived.Test.YtplobjdghaokoaaSe
namespace Go.Proofs.Ytplobjdghaokoaa
open Go.RowKit
set_option linter.unusedVariables false

theorem no_any (W : World) (e : Int) : Calls Try.prog 15 #[.int .i64 e] W fun x W' => x = .returned (.int .i64 e) ∧ W = W' := by
  go_enter Try.func15, Try.ntmps15
  go_wp2
  go_ret
  exact ⟨rfl, rfl⟩
theorem newSlab_nil (W : World) : Calls Try.prog 23 #[.pointer none] W fun e W' => e = .returned (.tuple #[.pointer none, .int .i64 3]) ∧ W = W' := by
  go_enter Try.func23, Try.ntmps23
  go_wp2
  go_ret2
  exact ⟨rfl, rfl⟩
theorem newSlab_any (W : World) (p : Nat) : Calls Try.prog 23 #[.pointer (some ⟨p, 0, none⟩)] W fun e W' => e = .returned (.tuple #[.pointer (some ⟨W.heap.size, 0, none⟩), .int .i64 0]) ∧ PS W' (· = W.heap.size) W.heap.size p [] ∧ Turn (fun _ => False) W W' ∧ W'.heap.size = W.heap.size + 1 := by
  have hr := row_new W [.pointer (some ⟨p, 0, none⟩), .slice none 0 0, .int .i64 0] 81
  have HP : Hid (PS (W.alloc (.cells #[.pointer (some ⟨p, 0, none⟩), .slice none 0 0, .int .i64 0] 81)) (· = W.heap.size) W.heap.size p []) :=
    ⟨⟨0, .slice none 0 0, ⟨hr, World.ownsRow_nil _ _ _ _, fun b hb => (by cases hb), rfl, fun b hb => (by rw [hb]; exact hr.lt), ⟨Nat.zero_le _, fun i c hi => (by omega)⟩, List.Pairwise.nil, fun c hc => (by cases hc)⟩⟩, fun c hc => (by cases hc)⟩
  clear hr
  go_enter Try.func23, Try.ntmps23
  go_wp2
  go_ret2
  exact ⟨rfl, HP.out, (Turn.refl _ _).alloc _, by simp⟩

/-! ### live -/
def lu0 : List Nat := List.replicate 40 0
def lu1 : List Nat := 1 :: List.replicate 39 0
def lu2 : List Nat := [1, 0, 0, 0, 1, 1, 1, 1] ++ List.replicate 32 0
def lu3 : List Nat := [1, 1, 0, 0, 1, 1, 1, 1] ++ List.replicate 32 0
theorem lv1 : takeR 16 lu0 1 1 = (16, 0, lu1) := by kernel_rfl
theorem lv2 : takeR 16 lu1 4 4 = (20, 0, lu2) := by kernel_rfl
theorem lv3 : zeros lu2 = 35 := by kernel_rfl
theorem lv4 : tk 16 lu2 1 1 = some 1 := by kernel_rfl
theorem lv5 : mdr (fun _ => 1) lu2 1 1 = lu3 := by kernel_rfl
theorem lv6 : usesR 16 lu3 17 = 1 := by kernel_rfl
def lc1 : Cut := (⟨17, fun _ => false⟩ : Cut).put 0 true
theorem lvT0 {u2 u3 : List Nat} (h4 : tk 16 u2 1 1 = some 1) (h5 : mdr (fun _ => 1) u2 1 1 = u3) {r e : Int} {u' : List Nat} {cs' : List Cut} (h : SlT 16 u2 [] r e u' cs') : r = 68 ∧ e = 0 ∧ u' = u3 ∧ cs' = [lc1] := by
  rcases h with ⟨k, c, i, h, _⟩ | ⟨_, h, _⟩ | ⟨t, k, _, h, hp, h1, h2, h3, h6⟩
  · simp at h
  · rw [h4] at h; cases h
  · rw [h4] at h
    cases h
    refine ⟨h1, h2, by rw [h3, h5], ?_⟩
    rw [h6]
    simp [lc1]
theorem lvT1 {r e : Int} {u' : List Nat} {cs' : List Cut} (h : SlT 16 lu2 [] r e u' cs') : r = 68 ∧ e = 0 ∧ u' = lu3 ∧ cs' = [lc1] := lvT0 lv4 lv5 h
theorem lvT2 {r e : Int} {u' : List Nat} {cs' : List Cut} (h : SlT 16 lu3 [lc1] r e u' cs') : r = 69 ∧ e = 0 ∧ u' = lu3 := by
  rcases h with ⟨k, c, i, h, _, h2, rfl, rfl, rfl, rfl⟩ | ⟨h, _⟩ | ⟨t, k, h, _⟩
  · have hk : k = 0 := by
      have := (List.getElem?_eq_some_iff.1 h).1
      simp at this
      exact this
    subst hk
    simp at h
    subst h
    have : lc1.left = 1 := by decide
    rw [this] at h2
    obtain rfl : i = 1 := by omega
    exact ⟨rfl, rfl, rfl⟩
  · have := h lc1 (by simp)
    exact absurd this (by decide)
  · have := h lc1 (by simp)
    exact absurd this (by decide)
theorem lused : Used 16 lu3 [lc1] := by
  intro c hc
  simp at hc
  subst hc
  exact ⟨by decide, 1, by kernel_rfl, by decide⟩

set_option maxHeartbeats 16000000 in
set_option maxRecDepth 100000 in
theorem live_any (W : World) : Calls Try.prog 10 #[] W fun e W' => e = .returned (.bool true) ∧ Turn (fun _ => False) W W' := by
  have h1 := new_ok W 16 40 (by omega) (by omega)
  go_enter Try.func10, Try.ntmps10
  go_wp2_with (first
    | (go_at_call 15; refine (no_any _ _).mono ?_; rintro e w' ⟨rfl, rfl⟩)
    | (go_at_call 33; refine h1.mono ?_; clear h1; rintro e w1 ⟨rfl, hp1, ht1, hz1⟩;
       have h2 := take_any w1 _ _ _ _ 1 1 hp1 (by omega); rw [show List.replicate 40 0 = lu0 from rfl, lv1] at h2; have HT1 : Hid (Turn (fun _ => False) W w1) := ht1; clear ht1 hp1)
    | (go_at_call 14; refine h2.mono ?_; clear h2; rintro e w2 ⟨rfl, hp2, ht2⟩;
       have HT2 : Hid (Turn (fun _ => False) W w2) := HT1.out.trans ht2 (fun x hx => .inr (by rcases hx with rfl | rfl <;> omega));
       have h3 := take_any w2 _ _ _ _ 4 4 hp2 (by omega); rw [lv2] at h3; clear ht2 hp2)
    | (go_at_call 14; refine h3.mono ?_; clear h3; rintro e w3 ⟨rfl, hp3, ht3⟩;
       have HT3 : Hid (Turn (fun _ => False) W w3) := HT2.out.trans ht3 (fun x hx => .inr (by rcases hx with rfl | rfl <;> omega));
       have h4 := newSlab_any w3 (W.heap.size + 1); have HP3 : Hid (PP w3 (W.heap.size + 1) W.heap.size 16 lu2) := hp3; clear ht3 hp3)
    | (go_at_call 23; refine h4.mono ?_; clear h4; rintro e w4 ⟨rfl, hs4, ht4, hz4⟩;
       have hp4 := HP3.out.keep ht4 (fun h => h) (fun h => h);
       have hlt := HP3.out.lt;
       have hf4 := free_any w4 _ _ _ _ hp4;
       rw [lv3] at hf4;
       have h5 := stake_any w4 _ _ _ _ _ _ _ hs4 hp4 (by show ¬ _ = _; omega) (by show ¬ _ = _; omega) (fun c hc => by cases hc);
       have HT4 : Hid (Turn (fun _ => False) W w4) := HT3.out.trans ht4 (fun x hx => hx.elim);
       clear ht4 hp4 hs4)
    | (go_at_call 18; refine hf4.mono ?_; clear hf4; rintro e w' ⟨rfl, rfl⟩)
    | (go_at_call 28; refine h5.mono ?_; clear h5; rintro e w5 ⟨r, e0, u5, cs5, rfl, hT5, hs5, hp5, ht5⟩;
       obtain ⟨rfl, rfl, rfl, rfl⟩ := lvT1 hT5;
       have h6 := stake_any w5 _ _ _ _ _ _ _ hs5 hp5 (by rintro (h | h); exact absurd h (by omega); omega) (by rintro (h | h); exact absurd h (by omega); omega) lused;
       have HT5 : Hid (Turn (fun _ => False) W w5) := HT4.out.trans ht5 (fun x hx => .inr (by rcases hx with rfl | rfl | rfl <;> omega));
       have HS5 : w4.heap.size ≤ w5.heap.size := ht5.size;
       clear hT5 hs5 hp5 ht5)
    | (go_at_call 28; refine h6.mono ?_; clear h6; rintro e w6 ⟨r, e0, u6, cs6, rfl, hT6, hs6, hp6, ht6⟩;
       obtain ⟨rfl, rfl, rfl⟩ := lvT2 hT6;
       have h7 := uses_any w6 _ _ _ _ 17 hp6 (by omega) (by omega);
       rw [lv6] at h7;
       have HT6 : Hid (Turn (fun _ => False) W w6) := HT5.out.trans ht6 (fun x hx => .inr (by rcases hx with (rfl | hx) | rfl | rfl <;> omega));
       clear hT6 hs6 hp6 ht6)
    | (go_at_call 25; refine h7.mono ?_; clear h7; rintro e w7 ⟨rfl, q7, rfl⟩)
    | go_in)
  go_ret
  exact ⟨rfl, HT6.out.drewN _⟩
end Go.Proofs.Ytplobjdghaokoaa

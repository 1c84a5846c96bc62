import Derived.Test.YtlfgnbjioofplabWh
namespace Go.Proofs.Ytlfgnbjioofplab
open Go.RowKit
set_option linter.unusedVariables false

def s0 (N : Nat) (p r : Nat → Nat) : St := ⟨p, r, fun k => if k = 0 then 1 else if k = 1 then 2 else N, fun k => if k = 0 then 1 else if k = 1 then 2 else N, fun _ _ => 0, fun _ _ => 0⟩
/-- What begin has made of so many memories. -/
structure Bg (W wr : World) (f : Int) (N k : Nat) (p r : Nat → Nat) (S : Nat → Nat → Prop) (l : List Value) : Prop where
  box : RowAt wr W.heap.size 42 l
  len : l.length = 6
  ptr : ∀ i, i < k → l[i]? = some (.pointer (some ⟨p i, 0, none⟩)) ∧ l[3 + i]? = some (.pointer (some ⟨r i, 0, none⟩))
  pm : ∀ i, i < k → PM wr (S i) (p i) ((s0 N p r).np i) (fun _ => 0)
  rm : ∀ i, i < k → RM wr (S (3 + i)) (r i) ((s0 N p r).nr i) (fun _ => 0)
  emp : ∀ j b, S j b → j < k ∨ (3 ≤ j ∧ j < 3 + k)
  lo : ∀ j b, S j b → W.heap.size + 2 ≤ b ∧ b < wr.heap.size
  dis : ∀ a j b, a ≠ j → S a b → ¬ S j b
  num : RowAt wr (W.heap.size + 1) 53 [.int .i64 1, .int .i64 2, .int .i64 f]
  trn : Turn (fun _ => False) W wr
theorem Bg.next {W wr w1 w2 : World} {f : Int} {N k : Nat} {p r : Nat → Nat} {S : Nat → Nat → Prop} {l : List Value} (h : Bg W wr f N k p r S l) (hk : k < 3) {q q' : Nat} (h1 : PM w1 (gr (fun _ => False) wr w1) q ((s0 N p r).np k) (fun _ => 0)) (t1 : Turn (fun _ => False) wr w1)
    (h2 : RM w2 (gr (fun _ => False) w1 w2) q' ((s0 N p r).nr k) (fun _ => 0)) (t2 : Turn (fun _ => False) w1 w2) :
    Bg W ((w2.setCell ⟨W.heap.size, k, none⟩ (.pointer (some ⟨q, 0, none⟩))).setCell ⟨W.heap.size, 3 + k, none⟩ (.pointer (some ⟨q', 0, none⟩))) f N (k + 1) (up p k q) (up r k q') (up (up S k (gr (fun _ => False) wr w1)) (3 + k) (gr (fun _ => False) w1 w2)) ((l.set k (.pointer (some ⟨q, 0, none⟩))).set (3 + k) (.pointer (some ⟨q', 0, none⟩))) := by
  have t12 : Turn (fun _ => False) wr w2 := t1.trans t2 (fun _ h => h.elim)
  have hb2 := h.box.turn t12 (fun h => h)
  have T3 : Turn (fun b => b = W.heap.size) w2 (w2.setCell ⟨W.heap.size, k, none⟩ (.pointer (some ⟨q, 0, none⟩))) := (Turn.refl (fun b => b = W.heap.size) w2).setCell (p := ⟨W.heap.size, k, none⟩) (.inl rfl) _
  have T4 : Turn (fun b => b = W.heap.size) w2 ((w2.setCell ⟨W.heap.size, k, none⟩ (.pointer (some ⟨q, 0, none⟩))).setCell ⟨W.heap.size, 3 + k, none⟩ (.pointer (some ⟨q', 0, none⟩))) := T3.setCell (p := ⟨W.heap.size, 3 + k, none⟩) (.inl rfl) _
  have hs := t12.size
  have hs1 := t1.size
  have hs2 := t2.size
  have hs4 := T4.size
  have hbl := h.box.lt
  have hnl := h.num.lt
  have g1 : ∀ b, gr (fun _ => False) wr w1 b → wr.heap.size ≤ b ∧ b < w1.heap.size := fun b hb => by
    rcases hb with hb | hb
    · exact hb.elim
    · exact hb
  have g2 : ∀ b, gr (fun _ => False) w1 w2 b → w1.heap.size ≤ b ∧ b < w2.heap.size := fun b hb => by
    rcases hb with hb | hb
    · exact hb.elim
    · exact hb
  have hll := h.len
  have Sv : ∀ j b, up (up S k (gr (fun _ => False) wr w1)) (3 + k) (gr (fun _ => False) w1 w2) j b → (j = 3 + k ∧ gr (fun _ => False) w1 w2 b) ∨ (j = k ∧ gr (fun _ => False) wr w1 b) ∨ (j ≠ k ∧ j ≠ 3 + k ∧ S j b) := fun j b hb => by
    by_cases e1 : j = 3 + k
    · subst e1; rw [up_same] at hb; exact .inl ⟨rfl, hb⟩
    · rw [up_other _ _ e1] at hb
      by_cases e2 : j = k
      · subst e2; rw [up_same] at hb; exact .inr (.inl ⟨rfl, hb⟩)
      · rw [up_other _ _ e2] at hb; exact .inr (.inr ⟨e2, e1, hb⟩)
  refine ⟨(hb2.set k _).set (3 + k) _, by simp [hll], fun i hi => ?_, fun i hi => ?_, fun i hi => ?_, fun j b hb => ?_, fun j b hb => ?_, fun a j b hne ha hj => ?_, ?_, (h.trn.trans t12 (fun _ h => h.elim)).trans T4 (fun x hx => .inr (by rw [hx]; exact Nat.le_refl _))⟩
  · by_cases e : i = k
    · subst e
      rw [up_same, up_same]
      refine ⟨?_, ?_⟩
      · rw [List.getElem?_set_ne (by omega), List.getElem?_set_self (by omega)]
      · rw [List.getElem?_set_self (by simp; omega)]
    · rw [up_other _ _ e, up_other _ _ e]
      obtain ⟨r1, r2⟩ := h.ptr i (by omega)
      refine ⟨?_, ?_⟩
      · rw [List.getElem?_set_ne (by omega), List.getElem?_set_ne (by omega)]; exact r1
      · rw [List.getElem?_set_ne (by omega), List.getElem?_set_ne (by omega)]; exact r2
  · by_cases e : i = k
    · subst e
      rw [up_other _ _ (by omega), up_same, up_same]
      exact (h1.keep t2 (fun _ _ h => h)).keep T4 (fun b hb e => by have := g1 b hb; omega)
    · rw [up_other _ _ (by omega), up_other _ _ e, up_other _ _ e]
      exact ((h.pm i (by omega)).keep t12 (fun _ _ h => h)).keep T4 (fun b hb e => by have := (h.lo _ b hb).1; omega)
  · by_cases e : i = k
    · subst e
      rw [up_same, up_same]
      exact h2.keep T4 (fun b hb e => by have := g2 b hb; omega)
    · rw [up_other _ _ (by omega), up_other _ _ (by omega), up_other _ _ e]
      exact ((h.rm i (by omega)).keep t12 (fun _ _ h => h)).keep T4 (fun b hb e => by have := (h.lo _ b hb).1; omega)
  · rcases Sv j b hb with ⟨rfl, _⟩ | ⟨rfl, _⟩ | ⟨_, _, hb⟩
    · omega
    · omega
    · have := h.emp j b hb; omega
  · rcases Sv j b hb with ⟨_, hc⟩ | ⟨_, hc⟩ | ⟨_, _, hc⟩
    · have := g2 b hc; omega
    · have := g1 b hc; omega
    · have := h.lo j b hc; omega
  · rcases Sv a b ha with ⟨ea, ha⟩ | ⟨ea, ha⟩ | ⟨na, nb, ha⟩ <;> rcases Sv j b hj with ⟨ej, hj⟩ | ⟨ej, hj⟩ | ⟨nj, nj', hj⟩
    · omega
    · have := g2 b ha; have := g1 b hj; omega
    · have := g2 b ha; have := h.lo _ b hj; omega
    · have := g1 b ha; have := g2 b hj; omega
    · omega
    · have := g1 b ha; have := h.lo _ b hj; omega
    · have := h.lo _ b ha; have := g2 b hj; omega
    · have := h.lo _ b ha; have := g1 b hj; omega
    · exact h.dis a j b hne ha hj
  · exact (h.num.turn t12 (fun h => h)).turn T4 (by show ¬ W.heap.size + 1 = W.heap.size; omega)
theorem Bg.done {W wr : World} {f : Int} {N : Nat} {p r : Nat → Nat} {S : Nat → Nat → Prop} {l : List Value} (h : Bg W wr f N 3 p r S l) : KS W wr W.heap.size W.heap.size (s0 N p r) [] ∧ (s0 N p r).good := by
  refine ⟨⟨S, ⟨?_, fun i hi => h.pm i hi, fun i hi => h.rm i hi, fun k j b _ _ hne hb => h.dis k j b hne hb, fun k hk hb => by have := (h.lo k _ hb).1; omega, fun k b hk hb => by have := (h.lo k b hb).1; omega, Nat.le_refl _, fun x hx => (by cases hx), h.trn.mono (fun _ _ h => h.elim)⟩⟩, ⟨fun i hi => rfl, fun i hi => rfl⟩⟩
  have e : l = boxL (s0 N p r) := by
    apply List.ext_getElem?
    intro j
    by_cases hj : j < 6
    · rcases (show j = 0 ∨ j = 1 ∨ j = 2 ∨ j = 3 ∨ j = 4 ∨ j = 5 by omega) with rfl | rfl | rfl | rfl | rfl | rfl
      · exact (h.ptr 0 (by omega)).1
      · exact (h.ptr 1 (by omega)).1
      · exact (h.ptr 2 (by omega)).1
      · exact (h.ptr 0 (by omega)).2
      · exact (h.ptr 1 (by omega)).2
      · exact (h.ptr 2 (by omega)).2
    · rw [List.getElem?_eq_none (by rw [h.len]; omega), List.getElem?_eq_none (by show 6 ≤ j; omega)]
  rw [← e]
  exact h.box

theorem Bg.start (W : World) (f : Int) (N : Nat) :
    Bg W ((W.alloc (.cells #[.pointer none, .pointer none, .pointer none, .pointer none, .pointer none, .pointer none] 42)).alloc (.cells #[.int .i64 1, .int .i64 2, .int .i64 f] 53)) f N 0 (fun _ => 0) (fun _ => 0) (fun _ _ => False) [.pointer none, .pointer none, .pointer none, .pointer none, .pointer none, .pointer none] := by
  have hb := row_new W [.pointer none, .pointer none, .pointer none, .pointer none, .pointer none, .pointer none] 42
  have hn := row_new (W.alloc (.cells #[.pointer none, .pointer none, .pointer none, .pointer none, .pointer none, .pointer none] 42)) [.int .i64 1, .int .i64 2, .int .i64 f] 53
  have e1 : (W.alloc (.cells #[.pointer none, .pointer none, .pointer none, .pointer none, .pointer none, .pointer none] 42)).heap.size = W.heap.size + 1 := by simp
  rw [e1] at hn
  exact ⟨hb.turn ((Turn.refl (fun _ => False) _).alloc _) (fun h => h), rfl, fun i hi => by omega, fun i hi => by omega, fun i hi => by omega, fun j b h => h.elim, fun j b h => h.elim, fun a j b _ h => h.elim, hn, ((Turn.refl _ W).alloc _).alloc _⟩

set_option maxHeartbeats 8000000 in
set_option maxRecDepth 100000 in
theorem begin_ok (W : World) (N : Nat) (h1 : 1 ≤ N) (h2 : N ≤ 65536) :
    Calls Try.prog 4 #[.int .i64 N] W fun e w' => e = .returned (.tuple #[.pointer (some ⟨W.heap.size, 0, none⟩), .bool true]) ∧ ∃ s, KS W w' W.heap.size W.heap.size s [] ∧ s.good ∧ W.heap.size ≤ w'.heap.size := by
  have HZ : ∀ W : World, (zeroValue 53).run Try.prog W = .ok (.agg #[.int .i64 0, .int .i64 0, .int .i64 0]) W := fun W => by kernel_rfl
  have HZ2 : ∀ W : World, (zeroValue 42).run Try.prog W = .ok (.agg #[.pointer none, .pointer none, .pointer none, .pointer none, .pointer none, .pointer none]) W := fun W => by kernel_rfl
  have hst := Bg.start W N N
  have HST : Hid _ := hst
  clear hst
  go_enter Try.func4, Try.ntmps4
  go_wp2
  go_loopw [6] (fun c wr => ∃ (k : Nat) (p r : Nat → Nat) (S : Nat → Nat → Prop) (l : List Value), k ≤ 3 ∧ c = .int .i64 k ∧ Hid (Bg W wr N N k p r S l)) (fun c _ => 3 - (intOf c).toNat)
  case atStart => exact ⟨0, _, _, _, _, Nat.zero_le _, rfl, HST⟩
  case round =>
    obtain ⟨k, p, r, S, l, hk, rfl, HX⟩ := hrel
    clear HST
    by_cases hk3 : k < 3
    · have hkz : (k : Int) < 3 := by omega
      obtain ⟨nk, hnk, hn1, hn2⟩ : ∃ nk : Nat, [1, 2, N][k]? = some nk ∧ 1 ≤ nk ∧ nk ≤ 65536 := by
        rcases (show k = 0 ∨ k = 1 ∨ k = 2 by omega) with rfl | rfl | rfl
        · exact ⟨1, rfl, by omega, by omega⟩
        · exact ⟨2, rfl, by omega, by omega⟩
        · exact ⟨N, rfl, h1, h2⟩
      have hs0 : (s0 N p r).np k = nk ∧ (s0 N p r).nr k = nk := by
        rcases (show k = 0 ∨ k = 1 ∨ k = 2 by omega) with rfl | rfl | rfl <;> (simp at hnk; subst hnk; exact ⟨rfl, rfl⟩)
      have c0 : wr.cell? ⟨W.heap.size + 1, k, none⟩ = some (.int .i64 nk) := by
        rw [HX.out.num.cell]
        rcases (show k = 0 ∨ k = 1 ∨ k = 2 by omega) with rfl | rfl | rfl <;> (simp at hnk; subst hnk; rfl)
      have hp := pnew_any wr nk hn1 hn2
      have hnl := HX.out.num.lt
      have hbl := HX.out.box.lt
      clear hnk
      go_wp2_with (first
        | (go_at_call 14; refine hp.mono ?_; clear hp; rintro e w1 ⟨rfl, hm1, ht1⟩; have hr := rnew_any w1 nk hn1 hn2;
           have c1 : w1.cell? ⟨W.heap.size + 1, k, none⟩ = some (.int .i64 nk) := (by rw [ht1.cell hnl (fun h => h)]; exact c0))
        | (go_at_call 15; refine hr.mono ?_; clear hr; rintro e w2 ⟨rfl, hm2, ht2⟩;
           have hnx := HX.out.next hk3 (by rw [hs0.1]; exact hm1) ht1 (by rw [hs0.2]; exact hm2) ht2;
           have hbw := (HX.out.box.turn ht1 (fun h => h)).turn ht2 (fun h => h);
           obtain ⟨u1, hu1⟩ : ∃ u, l[k]? = some u := ⟨_, List.getElem?_eq_getElem (by rw [HX.out.len]; omega)⟩;
           obtain ⟨u2, hu2⟩ : ∃ u, l[3 + k]? = some u := ⟨_, List.getElem?_eq_getElem (by rw [HX.out.len]; omega)⟩;
           have d1 : w2.cell? ⟨W.heap.size, k, none⟩ = some u1 := (by rw [hbw.cell]; exact hu1);
           have d2 : w2.cell? ⟨W.heap.size, 3 + k, none⟩ = some u2 := (by rw [hbw.cell]; exact hu2);
           have d3 := hbw.frozen;
           have HNX : Hid _ := hnx;
           clear hnx hbw hu1 hu2 hm1 hm2 ht1 ht2)
        | go_in)
      go_roundw
      case rel => exact ⟨k + 1, _, _, _, _, by omega, by go_num, HNX⟩
      case measure => simp [intOf]; omega
    · have hkk : k = 3 := by omega
      subst hkk
      have HF : Hid _ := HX.out.done
      have HT : Hid _ := HX.out.trn
      go_wp2
      go_ret2
      exact ⟨rfl, _, HF.out.1, HF.out.2, HT.out.size⟩

set_option maxHeartbeats 8000000 in
set_option maxRecDepth 100000 in
theorem begin_bad (W : World) (f : Int) (hf : f < 1 ∨ 65536 < f) :
    Calls Try.prog 4 #[.int .i64 f] W fun e w' => e = .returned (.tuple #[.pointer none, .bool true]) ∧ Turn (fun _ => False) W w' := by
  have HZ : ∀ W : World, (zeroValue 53).run Try.prog W = .ok (.agg #[.int .i64 0, .int .i64 0, .int .i64 0]) W := fun W => by kernel_rfl
  have HZ2 : ∀ W : World, (zeroValue 42).run Try.prog W = .ok (.agg #[.pointer none, .pointer none, .pointer none, .pointer none, .pointer none, .pointer none]) W := fun W => by kernel_rfl
  have hst := Bg.start W f 0
  have HST : Hid _ := hst
  have HF : Hid (f < 1 ∨ 65536 < f) := hf
  clear hst hf
  go_enter Try.func4, Try.ntmps4
  go_wp2
  go_loopw [6] (fun c wr => ∃ (k : Nat) (p r : Nat → Nat) (S : Nat → Nat → Prop) (l : List Value), k ≤ 2 ∧ c = .int .i64 k ∧ Hid (Bg W wr f 0 k p r S l)) (fun c _ => 3 - (intOf c).toNat)
  case atStart => exact ⟨0, _, _, _, _, Nat.zero_le _, rfl, HST⟩
  case round =>
    obtain ⟨k, p, r, S, l, hk, rfl, HX⟩ := hrel
    clear HST
    have hkz : (k : Int) < 3 := by omega
    by_cases hk3 : k < 2
    · obtain ⟨nk, hnk, hn1, hn2⟩ : ∃ nk : Nat, [1, 2][k]? = some nk ∧ 1 ≤ nk ∧ nk ≤ 65536 := by
        rcases (show k = 0 ∨ k = 1 by omega) with rfl | rfl
        · exact ⟨1, rfl, by omega, by omega⟩
        · exact ⟨2, rfl, by omega, by omega⟩
      have hs0 : (s0 0 p r).np k = nk ∧ (s0 0 p r).nr k = nk := by
        rcases (show k = 0 ∨ k = 1 by omega) with rfl | rfl <;> (simp at hnk; subst hnk; exact ⟨rfl, rfl⟩)
      have c0 : wr.cell? ⟨W.heap.size + 1, k, none⟩ = some (.int .i64 nk) := by
        rw [HX.out.num.cell]
        rcases (show k = 0 ∨ k = 1 by omega) with rfl | rfl <;> (simp at hnk; subst hnk; rfl)
      have hp := pnew_any wr nk hn1 hn2
      have hnl := HX.out.num.lt
      have hbl := HX.out.box.lt
      clear hnk
      go_wp2_with (first
        | (go_at_call 14; refine hp.mono ?_; clear hp; rintro e w1 ⟨rfl, hm1, ht1⟩; have hr := rnew_any w1 nk hn1 hn2;
           have c1 : w1.cell? ⟨W.heap.size + 1, k, none⟩ = some (.int .i64 nk) := (by rw [ht1.cell hnl (fun h => h)]; exact c0))
        | (go_at_call 15; refine hr.mono ?_; clear hr; rintro e w2 ⟨rfl, hm2, ht2⟩;
           have hnx := HX.out.next (by omega) (by rw [hs0.1]; exact hm1) ht1 (by rw [hs0.2]; exact hm2) ht2;
           have hbw := (HX.out.box.turn ht1 (fun h => h)).turn ht2 (fun h => h);
           obtain ⟨u1, hu1⟩ : ∃ u, l[k]? = some u := ⟨_, List.getElem?_eq_getElem (by rw [HX.out.len]; omega)⟩;
           obtain ⟨u2, hu2⟩ : ∃ u, l[3 + k]? = some u := ⟨_, List.getElem?_eq_getElem (by rw [HX.out.len]; omega)⟩;
           have d1 : w2.cell? ⟨W.heap.size, k, none⟩ = some u1 := (by rw [hbw.cell]; exact hu1);
           have d2 : w2.cell? ⟨W.heap.size, 3 + k, none⟩ = some u2 := (by rw [hbw.cell]; exact hu2);
           have d3 := hbw.frozen;
           have HNX : Hid _ := hnx;
           clear hnx hbw hu1 hu2 hm1 hm2 ht1 ht2)
        | go_in)
      go_roundw
      case rel => exact ⟨k + 1, _, _, _, _, by omega, by go_num, HNX⟩
      case measure => simp [intOf]; omega
    · have hkk : k = 2 := by omega
      subst hkk
      have c0 : wr.cell? ⟨W.heap.size + 1, 2, none⟩ = some (.int .i64 f) := by rw [HX.out.num.cell]; rfl
      have hp := pnew_bad wr f HF.out
      have hr := rnew_bad wr f HF.out
      have HT : Hid _ := HX.out.trn
      go_wp2_with (first
        | (go_at_call 14; refine hp.mono ?_; rintro e w1 ⟨rfl, rfl⟩)
        | (go_at_call 15; refine hr.mono ?_; rintro e w1 ⟨rfl, rfl⟩)
        | go_in)
      go_ret2
      exact ⟨rfl, HT.out⟩
end Go.Proofs.Ytlfgnbjioofplab

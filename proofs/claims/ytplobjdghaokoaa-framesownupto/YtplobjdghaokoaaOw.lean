import Derived.Test.YtplobjdghaokoaaLo
import Derived.Test.YtplobjdghaokoaaRu
import Derived.Deep.CutRange
namespace Go.Proofs.Ytplobjdghaokoaa
open Go.RowKit
set_option linter.unusedVariables false

/-! ### what a call that is not refused has done -/
theorem mdr_congr {f g : Nat → Nat} {u : List Nat} {a n : Nat} (h : ∀ i x, i < n → u[a + i]? = some x → f x = g x) : mdr f u a n = mdr g u a n := by
  apply List.ext_getElem?
  intro i
  rw [mdr_at, mdr_at]
  cases hu : u[i]? with
  | none => rfl
  | some x =>
    simp only [Option.map_some, Option.some.injEq]
    split
    · rename_i c
      exact h (i - a) x (by omega) (by rw [show a + (i - a) = i by omega]; exact hu)
    · rfl
/-- A call by kind: at which place, how many, what each use becomes, how many are free behind it. -/
def Done (f0 : Nat) (u : List Nat) (o : Op4) (r e : Int) (u' : List Nat) : Prop :=
  (e ≠ 0 ∧ u' = u) ∨ ((o.kind < 1 ∨ 3 < o.kind) ∧ u' = u) ∨
  ∃ a k : Nat, e = 0 ∧ o.n = k ∧ 1 ≤ k ∧ a + k ≤ u.length ∧
    ((o.kind = 1 ∧ r = (f0 : Int) + a ∧ (∀ i, i < k → u[a + i]? = some 0) ∧ u' = mdr (· + 1) u a k) ∨
     (o.kind = 2 ∧ o.first = (f0 : Int) + a ∧ (∀ i, i < k → ∃ x, u[a + i]? = some x ∧ x ≠ 0) ∧ u' = mdr (· + 1) u a k) ∨
     (o.kind = 3 ∧ o.first = (f0 : Int) + a ∧ (∀ i, i < k → ∃ x, u[a + i]? = some x ∧ x ≠ 0) ∧ u' = mdr (· - 1) u a k ∧ r = (frd u a k : Int)))
theorem done_of (f0 : Nat) (u : List Nat) (o : Op4) : Done f0 u o (poolR f0 u o).1 (poolR f0 u o).2.1 (poolR f0 u o).2.2 := by
  unfold poolR
  by_cases k1 : o.kind = 1
  · rw [if_pos k1]
    unfold takeR
    by_cases h : o.n < 1 ∨ isAl o.align = false
    · rw [if_pos h]
      exact .inl ⟨by simp, rfl⟩
    · rw [if_neg h]
      rcases tk_cases f0 u o.n.toNat o.align.toNat with ⟨t, ht, hfit, _⟩ | ⟨ht, _⟩
      · rw [ht]
        refine .inr (.inr ⟨t, o.n.toNat, rfl, by omega, by omega, hfit.2.1, .inl ⟨k1, by simp, hfit.2.2, mdr_congr (fun i x hi hx => ?_)⟩⟩)
        rw [hfit.2.2 i hi] at hx
        cases hx
        rfl
      · rw [ht]
        exact .inl ⟨by simp, rfl⟩
  · rw [if_neg k1]
    by_cases k2 : o.kind = 2
    · rw [if_pos k2]
      unfold shareR
      by_cases h : nameE f0 u o.first o.n ≠ 0
      · rw [if_pos h]
        exact .inl ⟨h, rfl⟩
      · rw [if_neg h]
        obtain ⟨a, k, h1, h2, h3, h4, h5, h6, h7⟩ := nameE_ok (Classical.not_not.1 h)
        rw [h5, h6]
        by_cases hm : anyM u a k = true
        · rw [if_pos hm]
          exact .inl ⟨by simp, rfl⟩
        · rw [if_neg hm]
          exact .inr (.inr ⟨a, k, rfl, h2, h3, h4, .inr (.inl ⟨k2, h1, h7, rfl⟩)⟩)
    · rw [if_neg k2]
      by_cases k3 : o.kind = 3
      · rw [if_pos k3]
        unfold dropR
        by_cases h : nameE f0 u o.first o.n ≠ 0
        · rw [if_pos h]
          exact .inl ⟨h, rfl⟩
        · rw [if_neg h]
          obtain ⟨a, k, h1, h2, h3, h4, h5, h6, h7⟩ := nameE_ok (Classical.not_not.1 h)
          rw [h5, h6]
          exact .inr (.inr ⟨a, k, rfl, h2, h3, h4, .inr (.inr ⟨k3, h1, h7, rfl, rfl⟩)⟩)
      · rw [if_neg k3]
        exact .inr (.inl ⟨by omega, rfl⟩)

/-- The book beside the pool. -/
def Bk (W w : World) (p ub f0 c bk : Nat) (u : List Nat) (bl : List Nat) : Prop := Pl W w p ub f0 c u ∧ RowAt w bk 3 (encI (intsOf bl)) ∧ W.heap.size ≤ bk
theorem encI_set (l : List Nat) (i x : Nat) : (encI (intsOf l)).set i (.int .i64 (x : Int)) = encI (intsOf (l.set i x)) := by simp [encI, intsOf, List.map_set]
theorem Bk.cell {W w : World} {p ub f0 c bk : Nat} {u bl : List Nat} (h : Bk W w p ub f0 c bk u bl) {i x : Nat} (hi : bl[i]? = some x) : w.cell? ⟨bk, i, none⟩ = some (.int .i64 (x : Int)) := by
  rw [h.2.1.cell]; exact encI_at (intsOf_at hi)
theorem Bk.ne {W w : World} {p ub f0 c bk : Nat} {u bl : List Nat} (h : Bk W w p ub f0 c bk u bl) : bk ≠ p ∧ bk ≠ ub := by
  obtain ⟨low, hp⟩ := h.1.1
  exact ⟨h.2.1.ne hp.box (by decide), h.2.1.ne hp.row (by decide)⟩
theorem Bk.set {W w : World} {p ub f0 c bk : Nat} {u bl : List Nat} (h : Bk W w p ub f0 c bk u bl) (i x : Nat) (v : Int) (hv : v = (x : Int)) : Bk W (w.setCell ⟨bk, i, none⟩ (.int .i64 v)) p ub f0 c bk u (bl.set i x) := by
  subst hv
  have hne := h.ne
  have T : Turn (· = bk) w (w.setCell ⟨bk, i, none⟩ (.int .i64 (x : Int))) := (Turn.refl (· = bk) w).setCell (p := ⟨bk, i, none⟩) (.inl rfl) _
  refine ⟨⟨h.1.1.keep T (fun e => hne.1 e.symm) (fun e => hne.2 e.symm), h.1.2.1, h.1.2.2.1.trans T (fun x hx => .inr (by rw [hx]; exact h.2.2)), h.1.2.2.2⟩, ?_, h.2.2⟩
  rw [← encI_set]
  exact h.2.1.set _ _
theorem Bk.keep {W w w' : World} {p ub f0 c bk : Nat} {u bl : List Nat} (h : Bk W w p ub f0 c bk u bl) (T : Turn (fun _ => False) w w') : Bk W w' p ub f0 c bk u bl := ⟨h.1.keep T, h.2.1.turn T (fun h => h), h.2.2⟩
theorem Bk.drewN {W w : World} {p ub f0 c bk : Nat} {u bl : List Nat} (h : Bk W w p ub f0 c bk u bl) (q : Nat) : Bk W (w.drewN q) p ub f0 c bk u bl := h.keep ((Turn.refl _ _).drewN q)
theorem Bk.iat {W w : World} {p ub f0 c bk : Nat} {u bl : List Nat} (h : Bk W w p ub f0 c bk u bl) : IAt w (some ⟨bk, 0, none⟩) (intsOf bl) := by
  intro i x hx
  refine ⟨bk, rfl, h.2.1.lt, ?_⟩
  rw [h.2.1.cell]
  exact encI_at hx
theorem set_of_ones {u : List Nat} {i x : Nat} (h : u[i]? = some x) : mdr (· - 1) u i 1 = u.set i (x - 1) := by
  have := mdr_succ (· - 1) u i 0 (x := x) (by simpa using h)
  rw [mdr_zero] at this
  simpa using this
theorem drop_one {f0 : Nat} {u : List Nat} {k x : Nat} (h : u[k]? = some x) (h0 : x ≠ 0) : dropR f0 u ((f0 : Int) + k) 1 = ((if x = 1 then 1 else 0), 0, u.set k (x - 1)) := by
  have hl : k < u.length := (List.getElem?_eq_some_iff.1 h).1
  have e1 : ((f0 : Int) + k - f0).toNat = k := by omega
  have hz : anyZ u k 1 = false := (anyZ_false (by omega)).2 (fun i hi => ⟨x, by rw [show k + i = k by omega]; exact h, h0⟩)
  have hb : hasB f0 u ((f0 : Int) + k) 1 = true := decide_eq_true ⟨by omega, by omega⟩
  have hn : nameE f0 u ((f0 : Int) + k) 1 = 0 := by
    unfold nameE
    rw [if_neg (by omega), if_neg (by rw [hb]; simp), e1, show (1 : Int).toNat = 1 from rfl, hz]
    simp
  unfold dropR
  rw [if_neg (by simp [hn]), e1, show (1 : Int).toNat = 1 from rfl, set_of_ones h]
  have hf := frd_succ u k 0 (x := x) (by simpa using h)
  rw [frd_zero, Nat.zero_add] at hf
  rw [show frd u k 1 = frd u k (0 + 1) from rfl, hf]
  split <;> rfl
theorem all_zero {u : List Nat} {c : Nat} (hl : u.length = c) (h : ∀ i, i < c → u[i]? = some 0) : u = List.replicate c 0 := by
  apply List.ext_getElem?
  intro i
  by_cases hi : i < c
  · rw [h i hi, List.getElem?_replicate, if_pos hi]
  · rw [List.getElem?_eq_none (by omega), List.getElem?_eq_none (by simp; omega)]
set_option maxHeartbeats 64000000 in
set_option maxRecDepth 100000 in
theorem law_own (W : World) (first count : Int) (a : Option Addr) (cap : Nat) (ops : List Op4) (hs : Scr W a ops) (hl : ops.length ≤ 140737488355328) :
    Calls Try.prog 5 #[.int .i64 first, .int .i64 count, .slice a ops.length cap] W fun e W' => e = .returned (.bool true) ∧ Below W.heap.size W W' := by
  have hpr := pressed_any W first count
  obtain ⟨f1, f2⟩ := pf_lt first
  obtain ⟨c1, c2, c3⟩ := pc_lt count
  have HS : Hid (Scr W a ops) := hs
  clear hs f2 c3
  generalize pf first = f0 at *
  generalize pc count = c at *
  generalize hn : ops.length = m at *
  have HN : Hid (ops.length = m) := hn
  clear hn
  go_enter Try.func5, Try.ntmps5
  go_wp2_with (first
    | (go_at_call 9; refine hpr.mono ?_; clear hpr; rintro e w1 ⟨rfl, hp1, ht1, hz1⟩;
       have hlv := live_any w1;
       have HP1 : Hid (Pl W w1 (W.heap.size + 1) W.heap.size f0 c (List.replicate c 0)) := ⟨hp1, List.length_replicate, ht1, by omega, by omega⟩; clear hp1 ht1 hz1)
    | (go_at_call 10; refine hlv.mono ?_; clear hlv; rintro e w2 ⟨rfl, ht2⟩; have HP2 : Hid (Pl W w2 (W.heap.size + 1) W.heap.size f0 c (List.replicate c 0)) := HP1.out.keep ht2; have hmk := makeI w2 c (by omega); clear ht2)
    | go_in)
  clear HP1
  have HB : Hid (Bk W (w2.alloc (.cells (zr c (Value.int .i64 0)) 3)) (W.heap.size + 1) W.heap.size f0 c w2.heap.size (List.replicate c 0) (List.replicate c 0)) := by
    refine ⟨HP2.out.keep ((Turn.refl _ _).alloc _), ?_, HP2.out.2.2.1.size⟩
    have := zr_row w2 c (.int .i64 0) 3
    rw [show encI (intsOf (List.replicate c 0)) = List.replicate c (Value.int .i64 0) by simp [encI, intsOf]]
    exact this
  generalize W.heap.size + 1 = p at *
  generalize w2.heap.size = bk at *
  generalize w2.alloc (.cells (zr c (Value.int .i64 0)) 3) = w3 at *
  clear HP2 hmk
  generalize hub : W.heap.size = ub at *
  have HUB : Hid (W.heap.size = ub) := hub
  clear hub
  go_loopw [11] (fun s11 wr => ∃ (k : Nat) (u : List Nat), k ≤ m ∧ s11 = .int .i64 k ∧ Hid (Bk W wr p ub f0 c bk u u)) (fun s11 _ => m - (intOf s11).toNat)
  case atStart => exact ⟨0, _, Nat.zero_le _, rfl, HB⟩
  case round =>
    obtain ⟨k, u, hk, rfl, HX⟩ := hrel
    clear HB
    have hul : Hid (u.length = c) := HX.out.1.2.1
    by_cases hlt : k < m
    · obtain ⟨o, ho⟩ : ∃ o, ops[k]? = some o := ⟨_, List.getElem?_eq_getElem (by rw [HN.out]; omega)⟩
      obtain ⟨b, off, rfl, hbl, e0, e1, e2, e3, e4⟩ := HS.out.lies k o ho
      have T := HX.out.1.2.2.1
      rw [← T.cell hbl (fun h => h)] at e0 e1 e2 e3 e4
      have hX0 := HX.out.keep ((Turn.refl (fun _ => False) wr).alloc (.cells #[.int .i64 o.kind, .int .i64 o.first, .int .i64 o.n, .int .i64 o.align, .int .i64 o.which] 31))
      have hst0 := pl_pooled hX0.1 o (HS.out.oks o (List.mem_of_getElem? ho))
      have hr0 : RowAt (wr.alloc (.cells #[.int .i64 o.kind, .int .i64 o.first, .int .i64 o.n, .int .i64 o.align, .int .i64 o.which] 31)) wr.heap.size 31 [.int .i64 o.kind, .int .i64 o.first, .int .i64 o.n, .int .i64 o.align, .int .i64 o.which] := row_new wr _ _
      have hst : Calls Try.prog 11 #[.pointer (some ⟨p, 0, none⟩), o.val] (wr.alloc (.cells #[.int .i64 o.kind, .int .i64 o.first, .int .i64 o.n, .int .i64 o.align, .int .i64 o.which] 31)) fun e w' => e = .returned (.tuple #[.int .i64 (poolR f0 u o).1, .int .i64 (poolR f0 u o).2.1]) ∧ Hid (Bk W w' p ub f0 c bk (poolR f0 u o).2.2 u ∧ RowAt w' wr.heap.size 31 [.int .i64 o.kind, .int .i64 o.first, .int .i64 o.n, .int .i64 o.align, .int .i64 o.which]) := by
        refine hst0.mono ?_
        rintro e w' ⟨rfl, h1, h2⟩
        have hne := hX0.ne
        have hlt := HX.out.1.1.lt
        exact ⟨rfl, ⟨h1, hX0.2.1.turn h2 (fun h => by rcases h with h | h; exact hne.1 h; exact hne.2 h), hX0.2.2⟩, hr0.turn h2 (fun h => by rcases h with h | h <;> omega)⟩
      unfold Op4.val at hst
      have hD := done_of f0 u o
      have HL255 : Hid (∀ x ∈ u, x ≤ 255) := HX.out.1.1.le
      clear T ho hst0 hX0 hr0
      generalize poolR f0 u o = RR at *
      obtain ⟨rr, er, u'⟩ := RR
      simp only at hst hD
      go_wp2_with (first
        | (go_at_call 11; refine hst.mono ?_; clear hst; rintro e w4 ⟨rfl, HB4⟩)
        | (go_at_call 15; refine Hid.out ?_)
        | go_in)
      refine (no_any _ _).mono ?_
      rintro e w' ⟨rfl, rfl⟩
      clear HX
      generalize wr.heap.size = bx at *
      have q0 : w4.cell? ⟨bx, 0, none⟩ = some (.int .i64 o.kind) := by rw [HB4.out.2.cell]; rfl
      have q1 : w4.cell? ⟨bx, 1, none⟩ = some (.int .i64 o.first) := by rw [HB4.out.2.cell]; rfl
      have q2 : w4.cell? ⟨bx, 2, none⟩ = some (.int .i64 o.n) := by rw [HB4.out.2.cell]; rfl
      clear e0 e1 e2 e3 e4
      rcases hD with ⟨hen, rfl⟩ | ⟨hkn, rfl⟩ | ⟨a, kn, rfl, hon, hk1n, hak, hcase⟩
      · have hez : ¬ (er = 0) := hen
        have hus := pl_uses HB4.out.1.1
        have HT : Hid (Bk W w4 p ub f0 c bk u' u') := HB4.out.1
        go_wp2_with (first
          | (go_at_call 15; refine (no_any _ _).mono ?_; rintro e w' ⟨rfl, rfl⟩)
          | (go_at_call 12; refine hus.mono ?_; clear hus; rintro e w6 ⟨a6, c6, rfl, hi6, hj6, ht6⟩;
             have hB6 := HT.out.keep ht6;
             have hsm := sameInts_any w6 a6 (some ⟨bk, 0, none⟩) c6 c (intsOf u') (intsOf u') hi6 hB6.iat (by rw [intsOf_len, hB6.1.2.1]; omega) (by rw [intsOf_len, hB6.1.2.1]; omega);
             rw [intsOf_len, hB6.1.2.1, decide_eq_true rfl] at hsm;
             have HB6 : Hid (Bk W w6 p ub f0 c bk u' u') := hB6; clear hi6 hj6 ht6 hB6)
          | (go_at_call 16; refine hsm.mono ?_; clear hsm; rintro e w7 ⟨rfl, q7, rfl⟩)
          | go_in)
        go_roundw
        case rel => exact ⟨k + 1, u', by omega, by go_num, HB6.out.drewN q7⟩
        case measure => simp [intOf]; omega
      · by_cases hez : er = 0
        · subst hez
          by_cases hk1 : o.kind < 1
          · have hkz : ¬ (1 ≤ o.kind) := by omega
            have hus := pl_uses HB4.out.1.1
            have HT : Hid (Bk W w4 p ub f0 c bk u' u') := HB4.out.1
            go_wp2_with (first
              | (go_at_call 15; refine (no_any _ _).mono ?_; rintro e w' ⟨rfl, rfl⟩)
              | (go_at_call 12; refine hus.mono ?_; clear hus; rintro e w6 ⟨a6, c6, rfl, hi6, hj6, ht6⟩;
                 have hB6 := HT.out.keep ht6;
                 have hsm := sameInts_any w6 a6 (some ⟨bk, 0, none⟩) c6 c (intsOf u') (intsOf u') hi6 hB6.iat (by rw [intsOf_len, hB6.1.2.1]; omega) (by rw [intsOf_len, hB6.1.2.1]; omega);
                 rw [intsOf_len, hB6.1.2.1, decide_eq_true rfl] at hsm;
                 have HB6 : Hid (Bk W w6 p ub f0 c bk u' u') := hB6; clear hi6 hj6 ht6 hB6)
              | (go_at_call 16; refine hsm.mono ?_; clear hsm; rintro e w7 ⟨rfl, q7, rfl⟩)
              | go_in)
            go_roundw
            case rel => exact ⟨k + 1, u', by omega, by go_num, HB6.out.drewN q7⟩
            case measure => simp [intOf]; omega
          · have hkz : ¬ (o.kind ≤ 3) := by omega
            have hus := pl_uses HB4.out.1.1
            have HT : Hid (Bk W w4 p ub f0 c bk u' u') := HB4.out.1
            go_wp2_with (first
              | (go_at_call 15; refine (no_any _ _).mono ?_; rintro e w' ⟨rfl, rfl⟩)
              | (go_at_call 12; refine hus.mono ?_; clear hus; rintro e w6 ⟨a6, c6, rfl, hi6, hj6, ht6⟩;
                 have hB6 := HT.out.keep ht6;
                 have hsm := sameInts_any w6 a6 (some ⟨bk, 0, none⟩) c6 c (intsOf u') (intsOf u') hi6 hB6.iat (by rw [intsOf_len, hB6.1.2.1]; omega) (by rw [intsOf_len, hB6.1.2.1]; omega);
                 rw [intsOf_len, hB6.1.2.1, decide_eq_true rfl] at hsm;
                 have HB6 : Hid (Bk W w6 p ub f0 c bk u' u') := hB6; clear hi6 hj6 ht6 hB6)
              | (go_at_call 16; refine hsm.mono ?_; clear hsm; rintro e w7 ⟨rfl, q7, rfl⟩)
              | go_in)
            go_roundw
            case rel => exact ⟨k + 1, u', by omega, by go_num, HB6.out.drewN q7⟩
            case measure => simp [intOf]; omega
        · have hus := pl_uses HB4.out.1.1
          have HT : Hid (Bk W w4 p ub f0 c bk u' u') := HB4.out.1
          go_wp2_with (first
            | (go_at_call 15; refine (no_any _ _).mono ?_; rintro e w' ⟨rfl, rfl⟩)
            | (go_at_call 12; refine hus.mono ?_; clear hus; rintro e w6 ⟨a6, c6, rfl, hi6, hj6, ht6⟩;
               have hB6 := HT.out.keep ht6;
               have hsm := sameInts_any w6 a6 (some ⟨bk, 0, none⟩) c6 c (intsOf u') (intsOf u') hi6 hB6.iat (by rw [intsOf_len, hB6.1.2.1]; omega) (by rw [intsOf_len, hB6.1.2.1]; omega);
               rw [intsOf_len, hB6.1.2.1, decide_eq_true rfl] at hsm;
               have HB6 : Hid (Bk W w6 p ub f0 c bk u' u') := hB6; clear hi6 hj6 ht6 hB6)
            | (go_at_call 16; refine hsm.mono ?_; clear hsm; rintro e w7 ⟨rfl, q7, rfl⟩)
            | go_in)
          go_roundw
          case rel => exact ⟨k + 1, u', by omega, by go_num, HB6.out.drewN q7⟩
          case measure => simp [intOf]; omega
      · rcases hcase with ⟨hk1, hfirst, hu1, rfl⟩ | ⟨hk1, hfirst, hu1, rfl⟩ | ⟨hk1, hfirst, hu1, rfl, hfrr⟩
        · subst hfirst
          have hkz : o.kind = 1 := hk1
          have q0' : w4.cell? ⟨bx, 0, none⟩ = some (.int .i64 1) := by rw [q0, hkz]
          have q2' : w4.cell? ⟨bx, 2, none⟩ = some (.int .i64 (kn : Int)) := by rw [q2, hon]
          have HOO : Hid (o.kind = 1 ∧ o.n = kn) := ⟨hkz, hon⟩
          have HU : Hid (∀ i, i < kn → u[a + i]? = some 0) := hu1
          have hak' : a + kn ≤ c := by rw [← hul.out]; exact hak
          clear q0 q2 hkz hon hk1 hu1 hak
          have z1 : decide ((kn : Int) < 1) = false := decide_eq_false (by omega)
          have z2 : decide ((f0 : Int) + (a : Int) < (f0 : Int)) = false := decide_eq_false (by omega)
          have z3 : decide (c ≤ a) = false := decide_eq_false (by omega)
          have z4 : decide ((f0 : Int) + (c : Int) - ((f0 : Int) + (a : Int)) < (kn : Int)) = false := decide_eq_false (by omega)
          go_wp2_with (first
            | (go_at_call 15; refine (no_any _ _).mono ?_; rintro e w' ⟨rfl, rfl⟩)
            | go_in)
          generalize wr = wy at *
          go_loopw [16, 17] (fun s16 s17 wr => ∃ j : Nat, j ≤ kn ∧ s17 = .int .i64 ((a + j : Nat) : Int) ∧ s16 = .int .i64 0 ∧ Hid (Bk W wr p ub f0 c bk (mdr (· + 1) u a kn) (mdr (· + 1) u a j) ∧ RowAt wr bx 31 [.int .i64 o.kind, .int .i64 o.first, .int .i64 o.n, .int .i64 o.align, .int .i64 o.which])) (fun _ s17 _ => a + kn - (intOf s17).toNat)
          case atStart => exact ⟨0, Nat.zero_le _, by go_num, rfl, by rw [mdr_zero]; exact HB4⟩
          case round =>
            obtain ⟨j, hj, rfl, rfl, HJ⟩ := hrel
            have r0 : wr.cell? ⟨bx, 0, none⟩ = some (.int .i64 1) := by rw [HJ.out.2.cell, ← HOO.out.1]; rfl
            have r2 : wr.cell? ⟨bx, 2, none⟩ = some (.int .i64 (kn : Int)) := by rw [HJ.out.2.cell, ← HOO.out.2]; rfl
            have hfz := HJ.out.1.2.1.frozen
            have hbxb : ¬ bx = bk := HJ.out.2.ne HJ.out.1.2.1 (by decide)
            have hbxb' : ¬ bk = bx := fun e => hbxb e.symm
            by_cases hjk : j < kn
            · have hfl : ∀ (x v : Nat), u[a + j]? = some x → v = x + 1 → ∀ q, Bk W ((wr.drewN q).setCell ⟨bk, a + j, none⟩ (.int .i64 (v : Int))) p ub f0 c bk (mdr (· + 1) u a kn) (mdr (· + 1) u a (j + 1)) ∧ RowAt ((wr.drewN q).setCell ⟨bk, a + j, none⟩ (.int .i64 (v : Int))) bx 31 [.int .i64 o.kind, .int .i64 o.first, .int .i64 o.n, .int .i64 o.align, .int .i64 o.which] := fun x v hx hv q => by
                rw [mdr_succ (· + 1) u a j hx, ← hv]
                exact ⟨(HJ.out.1.drewN q).set _ v _ rfl, (HJ.out.2.drewN q).setO hbxb _ _⟩
              have HFL : Hid _ := hfl
              clear hfl
              have hx := HU.out j hjk
              have hcx : wr.cell? ⟨bk, a + j, none⟩ = some (.int .i64 0) := HJ.out.1.cell (by rw [mdr_out _ _ _ _ _ (by omega)]; exact hx)
              have HN2 : Hid _ := HFL.out 0 1 hx rfl
              clear HFL hx
              go_wp2
              go_quiet (fail)
              go_wp2
              go_roundw
              case rel => exact ⟨j + 1, by omega, by go_num, rfl, HN2.out _⟩
              case measure => simp [intOf]; omega
            · obtain rfl : j = kn := by omega
              have hul2 : (mdr (· + 1) u a j).length = c := by rw [mdr_len]; exact hul.out
              have hus := pl_uses HJ.out.1.1
              have HT : Hid (Bk W wr p ub f0 c bk (mdr (· + 1) u a j) (mdr (· + 1) u a j)) := HJ.out.1
              go_wp2_with (first
                | (go_at_call 15; refine (no_any _ _).mono ?_; rintro e w' ⟨rfl, rfl⟩)
                | (go_at_call 12; refine hus.mono ?_; clear hus; rintro e w6 ⟨a6, c6, rfl, hi6, hj6, ht6⟩;
                   have hB6 := HT.out.keep ht6;
                   have hsm := sameInts_any w6 a6 (some ⟨bk, 0, none⟩) c6 c (intsOf (mdr (· + 1) u a j)) (intsOf (mdr (· + 1) u a j)) hi6 hB6.iat (by rw [intsOf_len, hB6.1.2.1]; omega) (by rw [intsOf_len, hB6.1.2.1]; omega);
                   rw [intsOf_len, hB6.1.2.1, decide_eq_true rfl] at hsm;
                   have HB6 : Hid (Bk W w6 p ub f0 c bk (mdr (· + 1) u a j) (mdr (· + 1) u a j)) := hB6; clear hi6 hj6 ht6 hB6)
                | (go_at_call 16; refine hsm.mono ?_; clear hsm; rintro e w7 ⟨rfl, q7, rfl⟩)
                | go_in)
              go_roundw
              case rel => exact ⟨k + 1, (mdr (· + 1) u a j), by omega, by go_num, HB6.out.drewN q7⟩
              case measure => simp [intOf]; omega
        · skip
          have hkz : o.kind = 2 := hk1
          have q0' : w4.cell? ⟨bx, 0, none⟩ = some (.int .i64 2) := by rw [q0, hkz]
          have q2' : w4.cell? ⟨bx, 2, none⟩ = some (.int .i64 (kn : Int)) := by rw [q2, hon]
          have q1' : w4.cell? ⟨bx, 1, none⟩ = some (.int .i64 ((f0 : Int) + a)) := by rw [q1, hfirst]
          clear q1 hfirst
          have HOO : Hid (o.kind = 2 ∧ o.n = kn) := ⟨hkz, hon⟩
          have HU : Hid (∀ i, i < kn → ∃ x, u[a + i]? = some x ∧ x ≠ 0) := hu1
          have hak' : a + kn ≤ c := by rw [← hul.out]; exact hak
          clear q0 q2 hkz hon hk1 hu1 hak
          have z1 : decide ((kn : Int) < 1) = false := decide_eq_false (by omega)
          have z2 : decide ((f0 : Int) + (a : Int) < (f0 : Int)) = false := decide_eq_false (by omega)
          have z3 : decide (c ≤ a) = false := decide_eq_false (by omega)
          have z4 : decide ((f0 : Int) + (c : Int) - ((f0 : Int) + (a : Int)) < (kn : Int)) = false := decide_eq_false (by omega)
          go_wp2_with (first
            | (go_at_call 15; refine (no_any _ _).mono ?_; rintro e w' ⟨rfl, rfl⟩)
            | go_in)
          generalize wr = wy at *
          go_loopw [16, 17] (fun s16 s17 wr => ∃ j : Nat, j ≤ kn ∧ s17 = .int .i64 ((a + j : Nat) : Int) ∧ s16 = .int .i64 0 ∧ Hid (Bk W wr p ub f0 c bk (mdr (· + 1) u a kn) (mdr (· + 1) u a j) ∧ RowAt wr bx 31 [.int .i64 o.kind, .int .i64 o.first, .int .i64 o.n, .int .i64 o.align, .int .i64 o.which])) (fun _ s17 _ => a + kn - (intOf s17).toNat)
          case atStart => exact ⟨0, Nat.zero_le _, by go_num, rfl, by rw [mdr_zero]; exact HB4⟩
          case round =>
            obtain ⟨j, hj, rfl, rfl, HJ⟩ := hrel
            have r0 : wr.cell? ⟨bx, 0, none⟩ = some (.int .i64 2) := by rw [HJ.out.2.cell, ← HOO.out.1]; rfl
            have r2 : wr.cell? ⟨bx, 2, none⟩ = some (.int .i64 (kn : Int)) := by rw [HJ.out.2.cell, ← HOO.out.2]; rfl
            have hfz := HJ.out.1.2.1.frozen
            have hbxb : ¬ bx = bk := HJ.out.2.ne HJ.out.1.2.1 (by decide)
            have hbxb' : ¬ bk = bx := fun e => hbxb e.symm
            by_cases hjk : j < kn
            · have hfl : ∀ (x v : Nat), u[a + j]? = some x → v = x + 1 → ∀ q, Bk W ((wr.drewN q).setCell ⟨bk, a + j, none⟩ (.int .i64 (v : Int))) p ub f0 c bk (mdr (· + 1) u a kn) (mdr (· + 1) u a (j + 1)) ∧ RowAt ((wr.drewN q).setCell ⟨bk, a + j, none⟩ (.int .i64 (v : Int))) bx 31 [.int .i64 o.kind, .int .i64 o.first, .int .i64 o.n, .int .i64 o.align, .int .i64 o.which] := fun x v hx hv q => by
                rw [mdr_succ (· + 1) u a j hx, ← hv]
                exact ⟨(HJ.out.1.drewN q).set _ v _ rfl, (HJ.out.2.drewN q).setO hbxb _ _⟩
              have HFL : Hid _ := hfl
              clear hfl
              obtain ⟨x, hx, hx0⟩ := HU.out j hjk
              have hxl := HL255.out x (List.mem_of_getElem? hx)
              have hcx : wr.cell? ⟨bk, a + j, none⟩ = some (.int .i64 (x : Int)) := HJ.out.1.cell (by rw [mdr_out _ _ _ _ _ (by omega)]; exact hx)
              have HN2 : Hid _ := HFL.out x (x + 1) hx rfl
              have hxz : ¬ ((x : Int) = 0) := by omega
              have hxb : ((x : Int) == 0) = false := by simp [hx0]
              have hx1 : ¬ ((x : Int) + 1 = 0) := by omega
              clear HFL hx
              go_wp2
              go_quiet (fail)
              go_wp2
              go_roundw
              case rel => exact ⟨j + 1, by omega, by go_num, rfl, by have := HN2.out nq; rw [show ((x + 1 : Nat) : Int) = (x : Int) + 1 by omega] at this; exact this⟩
              case measure => simp [intOf]; omega
            · obtain rfl : j = kn := by omega
              have hul2 : (mdr (· + 1) u a j).length = c := by rw [mdr_len]; exact hul.out
              have hus := pl_uses HJ.out.1.1
              have HT : Hid (Bk W wr p ub f0 c bk (mdr (· + 1) u a j) (mdr (· + 1) u a j)) := HJ.out.1
              go_wp2_with (first
                | (go_at_call 15; refine (no_any _ _).mono ?_; rintro e w' ⟨rfl, rfl⟩)
                | (go_at_call 12; refine hus.mono ?_; clear hus; rintro e w6 ⟨a6, c6, rfl, hi6, hj6, ht6⟩;
                   have hB6 := HT.out.keep ht6;
                   have hsm := sameInts_any w6 a6 (some ⟨bk, 0, none⟩) c6 c (intsOf (mdr (· + 1) u a j)) (intsOf (mdr (· + 1) u a j)) hi6 hB6.iat (by rw [intsOf_len, hB6.1.2.1]; omega) (by rw [intsOf_len, hB6.1.2.1]; omega);
                   rw [intsOf_len, hB6.1.2.1, decide_eq_true rfl] at hsm;
                   have HB6 : Hid (Bk W w6 p ub f0 c bk (mdr (· + 1) u a j) (mdr (· + 1) u a j)) := hB6; clear hi6 hj6 ht6 hB6)
                | (go_at_call 16; refine hsm.mono ?_; clear hsm; rintro e w7 ⟨rfl, q7, rfl⟩)
                | go_in)
              go_roundw
              case rel => exact ⟨k + 1, (mdr (· + 1) u a j), by omega, by go_num, HB6.out.drewN q7⟩
              case measure => simp [intOf]; omega
        · subst hfrr
          have hkz : o.kind = 3 := hk1
          have q0' : w4.cell? ⟨bx, 0, none⟩ = some (.int .i64 3) := by rw [q0, hkz]
          have q2' : w4.cell? ⟨bx, 2, none⟩ = some (.int .i64 (kn : Int)) := by rw [q2, hon]
          have q1' : w4.cell? ⟨bx, 1, none⟩ = some (.int .i64 ((f0 : Int) + a)) := by rw [q1, hfirst]
          clear q1 hfirst
          have HOO : Hid (o.kind = 3 ∧ o.n = kn) := ⟨hkz, hon⟩
          have HU : Hid (∀ i, i < kn → ∃ x, u[a + i]? = some x ∧ x ≠ 0) := hu1
          have hak' : a + kn ≤ c := by rw [← hul.out]; exact hak
          clear q0 q2 hkz hon hk1 hu1 hak
          have z1 : decide ((kn : Int) < 1) = false := decide_eq_false (by omega)
          have z2 : decide ((f0 : Int) + (a : Int) < (f0 : Int)) = false := decide_eq_false (by omega)
          have z3 : decide (c ≤ a) = false := decide_eq_false (by omega)
          have z4 : decide ((f0 : Int) + (c : Int) - ((f0 : Int) + (a : Int)) < (kn : Int)) = false := decide_eq_false (by omega)
          go_wp2_with (first
            | (go_at_call 15; refine (no_any _ _).mono ?_; rintro e w' ⟨rfl, rfl⟩)
            | go_in)
          generalize wr = wy at *
          go_loopw [16, 17] (fun s16 s17 wr => ∃ j : Nat, j ≤ kn ∧ s17 = .int .i64 ((a + j : Nat) : Int) ∧ s16 = .int .i64 (frd u a j : Int) ∧ Hid (Bk W wr p ub f0 c bk (mdr (· - 1) u a kn) (mdr (· - 1) u a j) ∧ RowAt wr bx 31 [.int .i64 o.kind, .int .i64 o.first, .int .i64 o.n, .int .i64 o.align, .int .i64 o.which])) (fun _ s17 _ => a + kn - (intOf s17).toNat)
          case atStart => exact ⟨0, Nat.zero_le _, by go_num, by rw [frd_zero]; rfl, by rw [mdr_zero]; exact HB4⟩
          case round =>
            obtain ⟨j, hj, rfl, rfl, HJ⟩ := hrel
            have r0 : wr.cell? ⟨bx, 0, none⟩ = some (.int .i64 3) := by rw [HJ.out.2.cell, ← HOO.out.1]; rfl
            have r2 : wr.cell? ⟨bx, 2, none⟩ = some (.int .i64 (kn : Int)) := by rw [HJ.out.2.cell, ← HOO.out.2]; rfl
            have hfz := HJ.out.1.2.1.frozen
            have hbxb : ¬ bx = bk := HJ.out.2.ne HJ.out.1.2.1 (by decide)
            have hbxb' : ¬ bk = bx := fun e => hbxb e.symm
            by_cases hjk : j < kn
            · have hfl : ∀ (x v : Nat), u[a + j]? = some x → v = x - 1 → ∀ q, Bk W ((wr.drewN q).setCell ⟨bk, a + j, none⟩ (.int .i64 (v : Int))) p ub f0 c bk (mdr (· - 1) u a kn) (mdr (· - 1) u a (j + 1)) ∧ RowAt ((wr.drewN q).setCell ⟨bk, a + j, none⟩ (.int .i64 (v : Int))) bx 31 [.int .i64 o.kind, .int .i64 o.first, .int .i64 o.n, .int .i64 o.align, .int .i64 o.which] := fun x v hx hv q => by
                rw [mdr_succ (· - 1) u a j hx, ← hv]
                exact ⟨(HJ.out.1.drewN q).set _ v _ rfl, (HJ.out.2.drewN q).setO hbxb _ _⟩
              have HFL : Hid _ := hfl
              clear hfl
              obtain ⟨x, hx, hx0⟩ := HU.out j hjk
              have hxl := HL255.out x (List.mem_of_getElem? hx)
              have hcx : wr.cell? ⟨bk, a + j, none⟩ = some (.int .i64 (x : Int)) := HJ.out.1.cell (by rw [mdr_out _ _ _ _ _ (by omega)]; exact hx)
              have HN2 : Hid _ := HFL.out x (x - 1) hx rfl
              have hxz : ¬ ((x : Int) = 0) := by omega
              have hxb : ((x : Int) == 0) = false := by simp [hx0]
              have hfr := frd_succ u a j hx
              have hfl2 := frd_le u a j
              by_cases hx1 : x = 1
              · subst hx1
                rw [if_pos rfl] at hfr
                have HFR : Hid _ := hfr
                clear HFL hx hfr
                go_wp2
                go_quiet (fail)
                go_wp2
                go_roundw
                case rel => exact ⟨j + 1, by omega, by go_num, by rw [HFR.out]; go_num, HN2.out nq⟩
                case measure => simp [intOf]; omega
              · rw [if_neg hx1] at hfr
                have HFR : Hid _ := hfr
                have hx2 : ¬ ((x : Int) - 1 = 0) := by omega
                clear HFL hx hfr
                go_wp2
                go_quiet (fail)
                go_wp2
                go_roundw
                case rel => exact ⟨j + 1, by omega, by go_num, by rw [HFR.out]; rfl, by have := HN2.out nq; rw [show ((x - 1 : Nat) : Int) = (x : Int) - 1 by omega] at this; exact this⟩
                case measure => simp [intOf]; omega
            · obtain rfl : j = kn := by omega
              have hul2 : (mdr (· - 1) u a j).length = c := by rw [mdr_len]; exact hul.out
              have hus := pl_uses HJ.out.1.1
              have HT : Hid (Bk W wr p ub f0 c bk (mdr (· - 1) u a j) (mdr (· - 1) u a j)) := HJ.out.1
              go_wp2_with (first
                | (go_at_call 15; refine (no_any _ _).mono ?_; rintro e w' ⟨rfl, rfl⟩)
                | (go_at_call 12; refine hus.mono ?_; clear hus; rintro e w6 ⟨a6, c6, rfl, hi6, hj6, ht6⟩;
                   have hB6 := HT.out.keep ht6;
                   have hsm := sameInts_any w6 a6 (some ⟨bk, 0, none⟩) c6 c (intsOf (mdr (· - 1) u a j)) (intsOf (mdr (· - 1) u a j)) hi6 hB6.iat (by rw [intsOf_len, hB6.1.2.1]; omega) (by rw [intsOf_len, hB6.1.2.1]; omega);
                   rw [intsOf_len, hB6.1.2.1, decide_eq_true rfl] at hsm;
                   have HB6 : Hid (Bk W w6 p ub f0 c bk (mdr (· - 1) u a j) (mdr (· - 1) u a j)) := hB6; clear hi6 hj6 ht6 hB6)
                | (go_at_call 16; refine hsm.mono ?_; clear hsm; rintro e w7 ⟨rfl, q7, rfl⟩)
                | go_in)
              go_roundw
              case rel => exact ⟨k + 1, (mdr (· - 1) u a j), by omega, by go_num, HB6.out.drewN q7⟩
              case measure => simp [intOf]; omega
    · skip
      go_wp2
      generalize wr = wz at *
      go_loopw [18] (fun s18 wr => ∃ (i : Nat) (u : List Nat), i ≤ c ∧ s18 = .int .i64 i ∧ Hid (Bk W wr p ub f0 c bk u u ∧ ∀ t, t < i → u[t]? = some 0)) (fun s18 _ => c - (intOf s18).toNat)
      case atStart => exact ⟨0, u, Nat.zero_le _, rfl, HX.out, fun t ht => by omega⟩
      case round =>
        obtain ⟨i, u, hi, rfl, HI⟩ := hrel
        clear HX hul
        by_cases hic : i < c
        · have hiz : (i : Int) < (c : Int) := by omega
          go_wp2
          generalize wr = wy at *
          go_loopw [164] (fun _ wr => ∃ (u : List Nat) (x : Nat), Hid (Bk W wr p ub f0 c bk u u ∧ (∀ t, t < i → u[t]? = some 0) ∧ u[i]? = some x)) (fun _ wr => (match wr.cell? ⟨bk, i, none⟩ with | some (.int _ x) => x.toNat | _ => 0))
          case atStart =>
            obtain ⟨x, hx⟩ : ∃ x, u[i]? = some x := ⟨_, List.getElem?_eq_getElem (by rw [HI.out.1.1.2.1]; exact hic)⟩
            exact ⟨u, x, HI.out.1, HI.out.2, hx⟩
          case round =>
            obtain ⟨u, x, HJ⟩ := hrel
            clear HI
            have hcx := HJ.out.1.cell HJ.out.2.2
            have hxl := HJ.out.1.1.1.le x (List.mem_of_getElem? HJ.out.2.2)
            have HCX : Hid (wr.cell? ⟨bk, i, none⟩ = some (.int .i64 (x : Int))) := hcx
            by_cases hx0 : x = 0
            · subst hx0
              go_wp2
              go_roundw
              case rel => exact ⟨i + 1, u, by omega, by go_num, HJ.out.1, fun t ht => by
                by_cases e : t = i
                · rw [e]; exact HJ.out.2.2
                · exact HJ.out.2.1 t (by omega)⟩
              case measure => simp [intOf]; omega
            · have hxz : (0 : Int) < (x : Int) := by omega
              have hdr0 := drop_any wr p ub f0 u ((f0 : Int) + i) 1 HJ.out.1.1.1 (by omega) (by omega)
              rw [drop_one HJ.out.2.2 hx0] at hdr0
              have hdr : Calls Try.prog 20 #[.pointer (some ⟨p, 0, none⟩), .int .i64 ((f0 : Int) + (i : Int)), .int .i64 1] wr fun e w' => e = .returned (.tuple #[.int .i64 (if x = 1 then 1 else 0), .int .i64 0]) ∧ Hid (Bk W w' p ub f0 c bk (u.set i (x - 1)) u) := by
                refine hdr0.mono ?_
                rintro e w' ⟨rfl, h1, h2⟩
                have hne := HJ.out.1.ne
                exact ⟨rfl, HJ.out.1.1.step h1 (by simp) h2, HJ.out.1.2.1.turn h2 (fun h => by rcases h with h | h; exact hne.1 h; exact hne.2 h), HJ.out.1.2.2⟩
              have HFIN : Hid (∀ (w' : World), Bk W w' p ub f0 c bk (u.set i (x - 1)) u → Bk W (w'.setCell ⟨bk, i, none⟩ (.int .i64 ((x : Int) - 1))) p ub f0 c bk (u.set i (x - 1)) (u.set i (x - 1)) ∧ (∀ t, t < i → (u.set i (x - 1))[t]? = some 0) ∧ (u.set i (x - 1))[i]? = some (x - 1)) := fun w' h => by
                refine ⟨h.set i (x - 1) _ (by omega), fun t ht => ?_, ?_⟩
                · rw [List.getElem?_set_ne (by omega)]; exact HJ.out.2.1 t ht
                · rw [List.getElem?_set_self (List.getElem?_eq_some_iff.1 HJ.out.2.2).1]
              clear hdr0
              by_cases hx1 : x = 1
              · subst hx1
                rw [if_pos rfl] at hdr
                go_wp2_with (first
                  | (go_at_call 15; refine (no_any _ _).mono ?_; rintro e w' ⟨rfl, rfl⟩)
                  | (go_at_call 20; refine hdr.mono ?_; clear hdr; rintro e w5 ⟨rfl, HB5⟩; have k5 := HB5.out.cell HJ.out.2.2; have k6 := HB5.out.2.1.frozen)
                  | go_in)
                go_roundw
                case rel => exact ⟨_, _, HFIN.out _ HB5.out⟩
                case measure =>
                  rw [HCX.out]
                  have := (HFIN.out _ HB5.out).1.cell (HFIN.out _ HB5.out).2.2
                  simp at this ⊢
                  simp [this]
              · rw [if_neg hx1] at hdr
                have hx2 : ¬ ((x : Int) - 1 = 0) := by omega
                go_wp2_with (first
                  | (go_at_call 15; refine (no_any _ _).mono ?_; rintro e w' ⟨rfl, rfl⟩)
                  | (go_at_call 20; refine hdr.mono ?_; clear hdr; rintro e w5 ⟨rfl, HB5⟩; have k5 := HB5.out.cell HJ.out.2.2; have k6 := HB5.out.2.1.frozen)
                  | go_in)
                go_roundw
                case rel => exact ⟨_, _, HFIN.out _ HB5.out⟩
                case measure =>
                  rw [HCX.out]
                  have := (HFIN.out _ HB5.out).1.cell (HFIN.out _ HB5.out).2.2
                  rw [this]
                  simp
                  omega
        · obtain rfl : i = c := by omega
          have hue : u = List.replicate i 0 := all_zero HI.out.1.1.2.1 HI.out.2
          subst hue
          have hfr := free_any wr p ub f0 _ HI.out.1.1.1
          have hru := runs_any wr p ub f0 _ HI.out.1.1.1
          rw [zeros_rep] at hfr
          rw [runs_all f0 i (by omega)] at hru
          have HTI : Hid (Turn (fun _ => False) W wr) := HI.out.1.1.2.2.1
          have hiz : ¬ ((i : Int) < (i : Int)) := by omega
          clear HI
          go_wp2_with (first
            | (go_at_call 18; refine hfr.mono ?_; clear hfr; rintro e w5 ⟨rfl, rfl⟩)
            | (go_at_call 17; refine hru.mono ?_; clear hru; rintro e w5 ⟨v5, rfl, ho5, ht5⟩;
               obtain ⟨a5, c5, rfl, hr5, _⟩ := own_rat (A := [(f0, i)]) ho5;
               have T5 : Turn (fun _ => False) w5 (w5.alloc (.cells #[.int .i64 (f0 : Int), .int .i64 (i : Int)] 42)) := (Turn.refl _ _).alloc _;
               have hsm := sameRuns_any (w5.alloc (.cells #[.int .i64 (f0 : Int), .int .i64 (i : Int)] 42)) a5 (some ⟨w5.heap.size, 0, none⟩) c5 1 [(f0, i)] [(f0, i)] (hr5.turn T5 (fun _ _ h => h)) (fun t y hy => (by
                 have hrow := row_new w5 [.int .i64 (f0 : Int), .int .i64 (i : Int)] 42
                 have ht0 : t = 0 := by have := (List.getElem?_eq_some_iff.1 hy).1; simpa using this
                 subst ht0
                 cases hy
                 exact ⟨_, rfl, hrow.lt, hrow.cell 0, hrow.cell 1⟩)) (by simp) (by simp);
               rw [decide_eq_true rfl] at hsm;
               have HT5 : Hid (Turn (fun _ => False) W (w5.alloc (.cells #[.int .i64 (f0 : Int), .int .i64 (i : Int)] 42))) := (HTI.out.trans ht5 (fun _ h => h.elim)).trans T5 (fun _ h => h.elim);
               clear ho5 ht5 hr5 T5)
            | (go_at_call 21; refine hsm.mono ?_; clear hsm; rintro e w7 ⟨rfl, q7, rfl⟩)
            | go_in)
          go_ret
          exact ⟨rfl, (HT5.out.drewN _).to (fun _ h => h.elim) (Nat.le_refl _)⟩
end Go.Proofs.Ytplobjdghaokoaa

import Derived.Test.YtliiblaodhcjhaaLast
namespace Go.Proofs.Ytliiblaodhcjhaa
open Go.RowKit
set_option linter.unusedVariables false

theorem MapAt.weak {W : World} {lo lo' p : Nat} {v : Value} {L : List (Sp Int)} (h : MapAt W lo p v L) (hl : lo' ≤ lo) : MapAt W lo' p v L := ⟨h.box, own_mono h.own hl, Nat.le_trans hl h.low, h.good⟩

/-- append of six that are laid anew. -/
theorem six_append (w : World) (B : Nat) (v : Value) (xs : List Int) (y1 y2 y3 y4 y5 y6 : Int) (h : Ks w B v xs) (hB : B ≤ w.heap.size) (hby : xs.length ≤ 10000000) :
    ∃ v' w', (∀ ty, (Builtin.append_ #[38, 38] ty #[v, .slice (some ⟨w.heap.size, 0, none⟩) 6 6]).run Try.prog (w.alloc (.cells #[.int .u64 y1, .int .u64 y2, .int .u64 y3, .int .u64 y4, .int .u64 y5, .int .u64 y6] 26)) = .ok v' w') ∧ Ks w' B v' (xs ++ [y1, y2, y3, y4, y5, y6]) ∧ w.grownBy w' v.ownBlock := by
  have h1 : Below w.heap.size w (w.alloc (.cells #[.int .u64 y1, .int .u64 y2, .int .u64 y3, .int .u64 y4, .int .u64 y5, .int .u64 y6] 26)) := (below_alloc (Below.refl _ w) _)
  obtain ⟨v', w', hr, ho, hg⟩ := ks_append (w.alloc (.cells #[.int .u64 y1, .int .u64 y2, .int .u64 y3, .int .u64 y4, .int .u64 y5, .int .u64 y6] 26)) B v (.slice (some ⟨w.heap.size, 0, none⟩) 6 6) xs [y1, y2, y3, y4, y5, y6] (h.keep h1) (ks_src (ks_new w [y1, y2, y3, y4, y5, y6] 0 (Nat.zero_le _) (by simp))) (by simp; omega) (by simp; omega)
  exact ⟨v', w', hr, ho, grownBy_trans (grownBy_none _ (below_grown h1)) hg⟩

theorem wrap_rng (x : Int) : 0 ≤ IntKind.u64.wrap x ∧ IntKind.u64.wrap x ≤ 18446744073709551615 := by rw [IntKind.wrap_u64]; omega

set_option maxHeartbeats 4000000 in
set_option maxRecDepth 100000 in
theorem law_last (W : World) (a ka : Option Addr) (cap kcap : Nat) (ops : List Op4) (keys : List Int) (S : Script W a ops) (hs : ops.length ≤ 1048576) (K : U64s W ka keys) (hks : keys.length ≤ 1048576) (hkn : ka = none → kcap = 0) :
    Calls Try.prog 4 #[.slice a ops.length cap, .slice ka keys.length kcap] W fun e W' => e = .returned (.bool true) ∧ Below W.heap.size W W' := by
  have hB := Below.refl W.heap.size W
  have hC1 := laid_any W a cap ops S (by omega)
  have HS : Hid (Script W a ops) := S
  have HK : Hid (U64s W ka keys) := K
  have HKN : Hid (ka = none → kcap = 0) := hkn
  have HSL : Hid (ops.length ≤ 1048576) := hs
  clear S K hkn
  generalize hn : ops.length = n at *
  have HN : Hid (ops.length = n) := hn
  clear hn
  generalize hkl : keys.length = nk at *
  have HKL : Hid (keys.length = nk) := hkl
  clear hkl
  generalize hL : layL ops = L at *
  have HL : Hid (layL ops = L) := hL
  clear hL
  go_enter Try.func4, Try.ntmps4
  go_wp2_with (fail)
  refine hC1.mono ?_
  rintro e w1 ⟨rfl, ⟨v, hM1, hl1⟩, hB1⟩
  go_wp2_with (fail)
  refine (live_any _).mono ?_
  rintro e w2 ⟨rfl, hb2⟩
  have hM2 := hM1.keep hb2
  have hB2 := below_go hB1 hb2
  have HLn : Hid (L.length ≤ 2 * n) := hl1
  clear hM1 hB1 hb2 hC1 hl1
  obtain ⟨av, w3, hr3, hk3, hg3⟩ := ks_append (w2.alloc (.cells #[.int .u64 0, .int .u64 18446744073709551615] 26)) w2.heap.size (.slice (some ⟨w2.heap.size, 0, none⟩) 2 2) (.slice ka nk kcap) [0, 18446744073709551615] keys
    (ks_new w2 [0, 18446744073709551615] w2.heap.size (Nat.le_refl _) (by simp)) (by rw [← HKL.out]; exact src_u64s HK.out (below_alloc hB2 _) kcap HKN.out) (by simp) (by rw [HKL.out]; simp; omega)
  have hB3 : Below w2.heap.size w2 w3 := grown_below (grownBy_new (below_grown (below_alloc (Below.refl _ w2) _)) hg3 (Nat.le_refl _))
  have hR3 : ∀ x ∈ [0, 18446744073709551615] ++ keys, 0 ≤ x ∧ x ≤ 18446744073709551615 := by
    intro x hx
    rcases List.mem_append.1 hx with hx | hx
    · simp at hx; omega
    · exact HK.out.rng x hx
  have hLn3 : ([0, 18446744073709551615] ++ keys).length ≤ 2 + nk + 6 * 0 := by rw [List.length_append, HKL.out]; simp
  generalize [0, 18446744073709551615] ++ keys = xs3 at *
  clear hg3
  obtain ⟨va3, vc3, rfl⟩ := slice_form hk3
  go_wp2_with (at_builtin; refine Lib.wpList_append_run _ rfl _ _ 38 38 rfl _ _ (by rfl) (by rfl) _ _ (hr3 _) ?_)
  go_loopw [6, 7] (fun sv i wr => ∃ (k : Nat) (xs : List Int) (va : Option Addr) (vc : Nat), k ≤ n ∧ sv = .slice va xs.length vc ∧ i = .int .i64 k ∧ Hid (Ks wr w2.heap.size (.slice va xs.length vc) xs ∧ (∀ x ∈ xs, 0 ≤ x ∧ x ≤ 18446744073709551615) ∧ xs.length ≤ 2 + nk + 6 * k) ∧ Hid (Below w2.heap.size w2 wr)) (fun _ i _ => n - (intOf i).toNat)
  case atStart => exact ⟨0, xs3, va3, vc3, Nat.zero_le _, rfl, rfl, ⟨hk3, hR3, hLn3⟩, hB3⟩
  case round =>
    obtain ⟨k, xs, va, vc, hk, rfl, rfl, HX, HB⟩ := hrel
    clear hk3 hR3 hLn3 hB3 hr3
    by_cases hlt : k < n
    · obtain ⟨o, ho⟩ : ∃ o, ops[k]? = some o := ⟨_, List.getElem?_eq_getElem (by rw [HN.out]; exact hlt)⟩
      obtain ⟨b, off, rfl, hbl, e0, e1, e2, e3⟩ := HS.out.lies k o ho
      obtain ⟨⟨r1, r2⟩, ⟨r3, r4⟩, ⟨r5, r6⟩, ⟨r7, r8⟩⟩ := HS.out.rng o (List.mem_of_getElem? ho)
      obtain ⟨hcc, _⟩ := bcell (below_go hB2 HB.out)
      rw [← hcc b _ hbl] at e0 e1 e2 e3
      clear hcc ho
      have hltz : (k : Int) < (n : Int) := by omega
      have hk0 : (0 : Int) ≤ (k : Int) := by omega
      obtain ⟨X1, X2, X3⟩ := HX.out
      have hX3 : xs.length ≤ 10000000 := by omega
      have hB4 := below_alloc HB.out (.cells #[.int .i64 o.kind, .int .u64 o.lo, .int .u64 o.hi, .int .i64 o.val] 28)
      have hXs := hB4.size
      obtain ⟨av', w5, hr5, hk5, hg5⟩ := six_append (wr.alloc (.cells #[.int .i64 o.kind, .int .u64 o.lo, .int .u64 o.hi, .int .i64 o.val] 28)) w2.heap.size (.slice va xs.length vc) xs (IntKind.u64.wrap (o.lo - 1)) o.lo (IntKind.u64.wrap (o.lo + 1)) (IntKind.u64.wrap (o.hi - 1)) o.hi (IntKind.u64.wrap (o.hi + 1)) (X1.keep ((Below.refl _ _).alloc (Nat.le_refl _) _)) hXs hX3
      have hB5 : Below w2.heap.size w2 w5 := hB4.grown hg5 hXs (fun g hg => (World.ownsRow.lt X1 g hg).1)
      have hR5 : ∀ x ∈ xs ++ [IntKind.u64.wrap (o.lo - 1), o.lo, IntKind.u64.wrap (o.lo + 1), IntKind.u64.wrap (o.hi - 1), o.hi, IntKind.u64.wrap (o.hi + 1)], 0 ≤ x ∧ x ≤ 18446744073709551615 := by
        intro x hx
        rcases List.mem_append.1 hx with hx | hx
        · exact X2 x hx
        · simp only [List.mem_cons, List.not_mem_nil, or_false] at hx
          rcases hx with rfl | rfl | rfl | rfl | rfl | rfl
          · exact wrap_rng _
          · exact ⟨r1, r2⟩
          · exact wrap_rng _
          · exact wrap_rng _
          · exact ⟨r3, r4⟩
          · exact wrap_rng _
      have hLn5 : (xs ++ [IntKind.u64.wrap (o.lo - 1), o.lo, IntKind.u64.wrap (o.lo + 1), IntKind.u64.wrap (o.hi - 1), o.hi, IntKind.u64.wrap (o.hi + 1)]).length ≤ 2 + nk + 6 * (k + 1) := by rw [List.length_append]; simp only [List.length_cons, List.length_nil]; omega
      obtain ⟨xs', HF⟩ : ∃ xs', Hid (Ks w5 w2.heap.size av' xs' ∧ (∀ x ∈ xs', 0 ≤ x ∧ x ≤ 18446744073709551615) ∧ xs'.length ≤ 2 + nk + 6 * (k + 1)) := ⟨_, hk5, hR5, hLn5⟩
      clear hk5 hR5 hLn5 hg5 X1 X2 X3 HX hB4
      go_wp2_with (at_builtin; refine Hid.out ?_)
      simp only [World.size_alloc] at hr5
      obtain ⟨va', vc', rfl⟩ := slice_form HF.out.1
      refine Lib.wpList_append_run _ rfl _ _ 38 38 rfl _ _ (by rfl) (by rfl) _ _ (hr5 _) ?_
      go_wp2
      go_roundw
      case rel => exact ⟨k + 1, xs', va', vc', by omega, rfl, by go_num, HF, hB5⟩
      case measure => simp [intOf]; omega
    · obtain ⟨w6, hw6⟩ : ∃ w6, w6 = wr := ⟨_, rfl⟩
      subst hw6
      obtain ⟨X1, X2, X3⟩ := HX.out
      have HB6 : Hid (Below w2.heap.size w2 w6) := HB
      have HM : Hid (MapAt w6 W.heap.size W.heap.size v L) := hM2.keep HB.out
      have HBW : Hid (Below W.heap.size W w6) := below_go hB2 HB.out
      have HX2 : Hid (∀ x ∈ xs, 0 ≤ x ∧ x ≤ 18446744073709551615) := X2
      have HV := X1.view
      have hXl : xs.length ≤ 8000000 := by omega
      have hszL : L.length < 4611686018427387904 := by have := HLn.out; omega
      obtain ⟨va', vc', hveq, hcells⟩ := HV
      cases hveq
      have HC : Hid (∀ i x, xs[i]? = some x → ∃ g, va = some ⟨g, 0, none⟩ ∧ g < w6.heap.size ∧ w6.cell? ⟨g, i, none⟩ = some (.int .u64 x)) := hcells
      clear hcells X1 X2 X3 HX HB hM2 hB2
      generalize hxl : xs.length = m at *
      have HXL : Hid (xs.length = m) := hxl
      clear hxl
      go_wp2
      go_loopw [9] (fun i wq => ∃ (k : Nat), k ≤ m ∧ i = .int .i64 k ∧ Hid (Below w6.heap.size w6 wq)) (fun i _ => m - (intOf i).toNat)
      case atStart => exact ⟨0, Nat.zero_le _, rfl, Below.refl _ _⟩
      case round =>
        obtain ⟨q, hq, rfl, HQ⟩ := hrel
        by_cases hlt2 : q < m
        · obtain ⟨x, hx⟩ : ∃ x, xs[q]? = some x := ⟨_, List.getElem?_eq_getElem (by rw [HXL.out]; exact hlt2)⟩
          obtain ⟨g, rfl, hgl, hgc⟩ := HC.out q x hx
          obtain ⟨hx1, hx2⟩ := HX2.out x (List.mem_of_getElem? hx)
          clear hx
          have hqz : (q : Int) < (m : Int) := by omega
          have hq0 : (0 : Int) ≤ (q : Int) := by omega
          have y0 : wr.cell? ⟨g, q, none⟩ = some (.int .u64 x) := by rw [(bcell HQ.out).1 g q hgl]; exact hgc
          have hS := said_any W wr (below_go HBW.out HQ.out) a cap ops HS.out (by rw [HN.out]; exact HSL.out) x
          rw [HN.out, HL.out] at hS
          have hgood := HM.out.good
          cases hrun : run L x with
          | some s =>
            obtain ⟨s1, s2, s3, s4, s5, s6, s7⟩ := run_some hgood hrun
            have hget : get L x = some s.val := s5 x s2 s3
            have hnext : next L x = some s := (Option.filter_eq_some_iff.1 hrun).1
            rw [hget] at hS
            simp only [getV] at hS
            clear s5 s6 s7 hgood
            have hNQ : ∀ w, (binOp .neq 44 (.agg #[.int .u64 s.lo, .int .u64 s.hi, .int .i64 s.val]) (.agg #[.int .u64 s.lo, .int .u64 s.hi, .int .i64 s.val])).run Try.prog w = .ok (.bool false) w := fun w => by rw [neq_span]; simp
            have hE : Try.prog.eqGuardType Try.prog.depth 44 = false := by kernel_rfl
            have l1 : decide (x < s.lo) = false := by simp; omega
            have l2 : decide (s.hi < x) = false := by simp; omega
            have HG : Hid (get L x = some s.val) := hget
            have HR : Hid (run L x = some s) := hrun
            have HNx : Hid (next L x = some s) := hnext
            clear hget hrun hnext
            go_wp2_with (fail)
            refine hS.mono ?_
            rintro e w7 ⟨rfl, _, hb7⟩
            have hB7 : Below w6.heap.size w6 w7 := below_go HQ.out hb7
            have y7 : w7.cell? ⟨g, q, none⟩ = some (.int .u64 x) := by rw [(bcell hB7).1 g q hgl]; exact hgc
            clear hb7
            go_wp2_with (fail)
            refine (get_at w6 w7 hB7 _ _ v L x (HM.out.keep hB7) hszL _ HG.out).mono ?_
            simp only [getV]
            rintro e w8 ⟨rfl, hM8, hB8, hb8⟩
            have y8 : w8.cell? ⟨g, q, none⟩ = some (.int .u64 x) := by rw [(bcell hB8).1 g q hgl]; exact hgc
            clear hb8 hM8
            go_wp2_with (fail)
            refine (run_at w6 w8 hB8 _ _ v L x HM.out hszL _ HR.out).mono ?_
            simp only [optV]
            rintro e w9 ⟨rfl, hB9, hz9, hb9⟩
            have y9 : w9.cell? ⟨g, q, none⟩ = some (.int .u64 x) := by rw [(bcell hB9).1 g q hgl]; exact hgc
            have hgl9 : g < w9.heap.size := Nat.lt_of_lt_of_le hgl hB9.size
            clear hb9 hz9
            go_wp2_with (fail)
            refine (next_at w6 _ (below_alloc hB9 _) _ _ v L x (HM.out.keep (below_alloc hB9 _)) hszL _ HNx.out).mono ?_
            simp only [optV]
            rintro e w10 ⟨rfl, hM10, hB10, hb10⟩
            rw [World.size_alloc] at hb10
            have y10 : w10.cell? ⟨g, q, none⟩ = some (.int .u64 x) := by rw [(bcell hB10).1 g q hgl]; exact hgc
            have hsz10 := hb10.size
            rw [World.size_alloc] at hsz10
            have u0 : w10.cell? ⟨w9.heap.size, 0, none⟩ = some (.int .u64 s.lo) := by rw [(bcell hb10).1 _ _ (Nat.lt_succ_self _)]; simp [go_sem]
            have u1 : w10.cell? ⟨w9.heap.size, 1, none⟩ = some (.int .u64 s.hi) := by rw [(bcell hb10).1 _ _ (Nat.lt_succ_self _)]; simp [go_sem]
            have u2 : w10.cell? ⟨w9.heap.size, 2, none⟩ = some (.int .i64 s.val) := by rw [(bcell hb10).1 _ _ (Nat.lt_succ_self _)]; simp [go_sem]
            clear hb10 hM10
            have hB11 := below_alloc hB10 (.cells #[.int .u64 s.lo, .int .u64 s.hi, .int .i64 s.val] 44)
            obtain ⟨w11, hw11⟩ : ∃ w11, w11 = w10.alloc (.cells #[.int .u64 s.lo, .int .u64 s.hi, .int .i64 s.val] 44) := ⟨_, rfl⟩
            rw [← hw11] at hB11
            have y11 : w11.cell? ⟨g, q, none⟩ = some (.int .u64 x) := by rw [(bcell hB11).1 g q hgl]; exact hgc
            have p0 : w11.cell? ⟨w9.heap.size, 0, none⟩ = some (.int .u64 s.lo) := by rw [hw11, ((Below.refl w10.heap.size w10).alloc (Nat.le_refl _) _).cell (p := ⟨w9.heap.size, 0, none⟩) hsz10]; exact u0
            have p1 : w11.cell? ⟨w9.heap.size, 1, none⟩ = some (.int .u64 s.hi) := by rw [hw11, ((Below.refl w10.heap.size w10).alloc (Nat.le_refl _) _).cell (p := ⟨w9.heap.size, 1, none⟩) hsz10]; exact u1
            have p2 : w11.cell? ⟨w9.heap.size, 2, none⟩ = some (.int .i64 s.val) := by rw [hw11, ((Below.refl w10.heap.size w10).alloc (Nat.le_refl _) _).cell (p := ⟨w9.heap.size, 2, none⟩) hsz10]; exact u2
            have t0 : w11.cell? ⟨w10.heap.size, 0, none⟩ = some (.int .u64 s.lo) := by rw [hw11]; simp [go_sem]
            have t1 : w11.cell? ⟨w10.heap.size, 1, none⟩ = some (.int .u64 s.hi) := by rw [hw11]; simp [go_sem]
            have t2 : w11.cell? ⟨w10.heap.size, 2, none⟩ = some (.int .i64 s.val) := by rw [hw11]; simp [go_sem]
            have HW11 : Hid (w11 = w10.alloc (.cells #[.int .u64 s.lo, .int .u64 s.hi, .int .i64 s.val] 44)) := hw11
            clear hw11 u0 u1 u2 y10 hsz10
            go_wp2
            rw [← HW11.out]
            go_quiet (fail)
            go_wp2
            go_quiet (fail)
            go_wp2
            go_roundw
            case rel => exact ⟨q + 1, by omega, by go_num, below_go hB11 (grown_below (grownBy_drewN w11 none _))⟩
            case measure => simp [intOf]; omega
          | none =>
            have hget := run_none hgood hrun
            rw [hget] at hS
            simp only [getV] at hS
            have HG : Hid (get L x = none) := hget
            have HR : Hid (run L x = none) := hrun
            cases hnext : next L x with
            | none =>
              have HNx : Hid (next L x = none) := hnext
              clear hget hrun hnext hgood
              go_wp2_with (fail)
              refine hS.mono ?_
              rintro e w7 ⟨rfl, _, hb7⟩
              have hB7 : Below w6.heap.size w6 w7 := below_go HQ.out hb7
              have y7 : w7.cell? ⟨g, q, none⟩ = some (.int .u64 x) := by rw [(bcell hB7).1 g q hgl]; exact hgc
              clear hb7
              go_wp2_with (fail)
              refine (get_at w6 w7 hB7 _ _ v L x (HM.out.keep hB7) hszL _ HG.out).mono ?_
              simp only [getV]
              rintro e w8 ⟨rfl, hM8, hB8, hb8⟩
              have y8 : w8.cell? ⟨g, q, none⟩ = some (.int .u64 x) := by rw [(bcell hB8).1 g q hgl]; exact hgc
              clear hb8 hM8
              go_wp2_with (fail)
              refine (run_at w6 w8 hB8 _ _ v L x HM.out hszL _ HR.out).mono ?_
              simp only [optV]
              rintro e w9 ⟨rfl, hB9, hz9, hb9⟩
              have y9 : w9.cell? ⟨g, q, none⟩ = some (.int .u64 x) := by rw [(bcell hB9).1 g q hgl]; exact hgc
              have hgl9 : g < w9.heap.size := Nat.lt_of_lt_of_le hgl hB9.size
              clear hb9 hz9
              go_wp2_with (fail)
              refine (next_at w6 _ (below_alloc hB9 _) _ _ v L x (HM.out.keep (below_alloc hB9 _)) hszL _ HNx.out).mono ?_
              simp only [optV]
              rintro e w10 ⟨rfl, hM10, hB10, hb10⟩
              rw [World.size_alloc] at hb10
              have y10 : w10.cell? ⟨g, q, none⟩ = some (.int .u64 x) := by rw [(bcell hB10).1 g q hgl]; exact hgc
              have hsz10 := hb10.size
              rw [World.size_alloc] at hsz10
              have u0 : w10.cell? ⟨w9.heap.size, 0, none⟩ = some (.int .u64 0) := by rw [(bcell hb10).1 _ _ (Nat.lt_succ_self _)]; simp [go_sem]
              have u1 : w10.cell? ⟨w9.heap.size, 1, none⟩ = some (.int .u64 0) := by rw [(bcell hb10).1 _ _ (Nat.lt_succ_self _)]; simp [go_sem]
              have u2 : w10.cell? ⟨w9.heap.size, 2, none⟩ = some (.int .i64 0) := by rw [(bcell hb10).1 _ _ (Nat.lt_succ_self _)]; simp [go_sem]
              clear hb10 hM10
              have hB11 := below_alloc hB10 (.cells #[.int .u64 0, .int .u64 0, .int .i64 0] 44)
              obtain ⟨w11, hw11⟩ : ∃ w11, w11 = w10.alloc (.cells #[.int .u64 0, .int .u64 0, .int .i64 0] 44) := ⟨_, rfl⟩
              rw [← hw11] at hB11
              have y11 : w11.cell? ⟨g, q, none⟩ = some (.int .u64 x) := by rw [(bcell hB11).1 g q hgl]; exact hgc
              have p0 : w11.cell? ⟨w9.heap.size, 0, none⟩ = some (.int .u64 0) := by rw [hw11, ((Below.refl w10.heap.size w10).alloc (Nat.le_refl _) _).cell (p := ⟨w9.heap.size, 0, none⟩) hsz10]; exact u0
              have p1 : w11.cell? ⟨w9.heap.size, 1, none⟩ = some (.int .u64 0) := by rw [hw11, ((Below.refl w10.heap.size w10).alloc (Nat.le_refl _) _).cell (p := ⟨w9.heap.size, 1, none⟩) hsz10]; exact u1
              have p2 : w11.cell? ⟨w9.heap.size, 2, none⟩ = some (.int .i64 0) := by rw [hw11, ((Below.refl w10.heap.size w10).alloc (Nat.le_refl _) _).cell (p := ⟨w9.heap.size, 2, none⟩) hsz10]; exact u2
              have t0 : w11.cell? ⟨w10.heap.size, 0, none⟩ = some (.int .u64 0) := by rw [hw11]; simp [go_sem]
              have t1 : w11.cell? ⟨w10.heap.size, 1, none⟩ = some (.int .u64 0) := by rw [hw11]; simp [go_sem]
              have t2 : w11.cell? ⟨w10.heap.size, 2, none⟩ = some (.int .i64 0) := by rw [hw11]; simp [go_sem]
              have HW11 : Hid (w11 = w10.alloc (.cells #[.int .u64 0, .int .u64 0, .int .i64 0] 44)) := hw11
              clear hw11 u0 u1 u2 y10 hsz10
              go_wp2
              rw [← HW11.out]
              go_quiet (fail)
              go_wp2
              go_quiet (fail)
              go_wp2
              go_roundw
              case rel => exact ⟨q + 1, by omega, by go_num, below_go hB11 (grown_below (grownBy_drewN w11 none _))⟩
              case measure => simp [intOf]; omega
            | some t =>
              have htl : ¬ t.lo ≤ x := by
                intro hle
                rw [run, hnext] at hrun
                simp [Option.filter, hle] at hrun
              have l1 : decide (t.lo ≤ x) = false := by simpa using htl
              have HNx : Hid (next L x = some t) := hnext
              clear hget hrun hnext hgood htl
              go_wp2_with (fail)
              refine hS.mono ?_
              rintro e w7 ⟨rfl, _, hb7⟩
              have hB7 : Below w6.heap.size w6 w7 := below_go HQ.out hb7
              have y7 : w7.cell? ⟨g, q, none⟩ = some (.int .u64 x) := by rw [(bcell hB7).1 g q hgl]; exact hgc
              clear hb7
              go_wp2_with (fail)
              refine (get_at w6 w7 hB7 _ _ v L x (HM.out.keep hB7) hszL _ HG.out).mono ?_
              simp only [getV]
              rintro e w8 ⟨rfl, hM8, hB8, hb8⟩
              have y8 : w8.cell? ⟨g, q, none⟩ = some (.int .u64 x) := by rw [(bcell hB8).1 g q hgl]; exact hgc
              clear hb8 hM8
              go_wp2_with (fail)
              refine (run_at w6 w8 hB8 _ _ v L x HM.out hszL _ HR.out).mono ?_
              simp only [optV]
              rintro e w9 ⟨rfl, hB9, hz9, hb9⟩
              have y9 : w9.cell? ⟨g, q, none⟩ = some (.int .u64 x) := by rw [(bcell hB9).1 g q hgl]; exact hgc
              have hgl9 : g < w9.heap.size := Nat.lt_of_lt_of_le hgl hB9.size
              clear hb9 hz9
              go_wp2_with (fail)
              refine (next_at w6 _ (below_alloc hB9 _) _ _ v L x (HM.out.keep (below_alloc hB9 _)) hszL _ HNx.out).mono ?_
              simp only [optV]
              rintro e w10 ⟨rfl, hM10, hB10, hb10⟩
              rw [World.size_alloc] at hb10
              have y10 : w10.cell? ⟨g, q, none⟩ = some (.int .u64 x) := by rw [(bcell hB10).1 g q hgl]; exact hgc
              have hsz10 := hb10.size
              rw [World.size_alloc] at hsz10
              have u0 : w10.cell? ⟨w9.heap.size, 0, none⟩ = some (.int .u64 0) := by rw [(bcell hb10).1 _ _ (Nat.lt_succ_self _)]; simp [go_sem]
              have u1 : w10.cell? ⟨w9.heap.size, 1, none⟩ = some (.int .u64 0) := by rw [(bcell hb10).1 _ _ (Nat.lt_succ_self _)]; simp [go_sem]
              have u2 : w10.cell? ⟨w9.heap.size, 2, none⟩ = some (.int .i64 0) := by rw [(bcell hb10).1 _ _ (Nat.lt_succ_self _)]; simp [go_sem]
              clear hb10 hM10
              have hB11 := below_alloc hB10 (.cells #[.int .u64 t.lo, .int .u64 t.hi, .int .i64 t.val] 44)
              obtain ⟨w11, hw11⟩ : ∃ w11, w11 = w10.alloc (.cells #[.int .u64 t.lo, .int .u64 t.hi, .int .i64 t.val] 44) := ⟨_, rfl⟩
              rw [← hw11] at hB11
              have y11 : w11.cell? ⟨g, q, none⟩ = some (.int .u64 x) := by rw [(bcell hB11).1 g q hgl]; exact hgc
              have p0 : w11.cell? ⟨w9.heap.size, 0, none⟩ = some (.int .u64 0) := by rw [hw11, ((Below.refl w10.heap.size w10).alloc (Nat.le_refl _) _).cell (p := ⟨w9.heap.size, 0, none⟩) hsz10]; exact u0
              have p1 : w11.cell? ⟨w9.heap.size, 1, none⟩ = some (.int .u64 0) := by rw [hw11, ((Below.refl w10.heap.size w10).alloc (Nat.le_refl _) _).cell (p := ⟨w9.heap.size, 1, none⟩) hsz10]; exact u1
              have p2 : w11.cell? ⟨w9.heap.size, 2, none⟩ = some (.int .i64 0) := by rw [hw11, ((Below.refl w10.heap.size w10).alloc (Nat.le_refl _) _).cell (p := ⟨w9.heap.size, 2, none⟩) hsz10]; exact u2
              have t0 : w11.cell? ⟨w10.heap.size, 0, none⟩ = some (.int .u64 t.lo) := by rw [hw11]; simp [go_sem]
              have t1 : w11.cell? ⟨w10.heap.size, 1, none⟩ = some (.int .u64 t.hi) := by rw [hw11]; simp [go_sem]
              have t2 : w11.cell? ⟨w10.heap.size, 2, none⟩ = some (.int .i64 t.val) := by rw [hw11]; simp [go_sem]
              have HW11 : Hid (w11 = w10.alloc (.cells #[.int .u64 t.lo, .int .u64 t.hi, .int .i64 t.val] 44)) := hw11
              clear hw11 u0 u1 u2 y10 hsz10
              go_wp2
              rw [← HW11.out]
              go_quiet (fail)
              go_wp2
              go_quiet (fail)
              go_wp2
              go_roundw
              case rel => exact ⟨q + 1, by omega, by go_num, below_go hB11 (grown_below (grownBy_drewN w11 none _))⟩
              case measure => simp [intOf]; omega
        · go_wp2
          go_ret
          exact ⟨rfl, below_go HBW.out HQ.out⟩
end Go.Proofs.Ytliiblaodhcjhaa

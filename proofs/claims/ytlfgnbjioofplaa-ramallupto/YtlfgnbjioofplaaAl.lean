import Derived.Test.YtlfgnbjioofplaaPy
namespace Go.Proofs.Ytlfgnbjioofplaa
open Go.RowKit
set_option linter.unusedVariables false

/-- A list of ints of the law's own, carried along. -/
theorem carryI {W0 w w2 : World} {B tb : Nat} {s : St} {v : Value} {L : List Int} (hK : KS W0 w B tb s []) (T : Turn (fun _ => False) w w2) (hB : B ≤ w.heap.size) (hown : w2.ownsRow w.heap.size 3 1 v L.length (encI L)) :
    ∃ (xs : List (Nat × TypeId × List Value)) (a : Option Addr) (cap : Nat), v = .slice a L.length cap ∧ KS W0 w2 B tb s xs ∧ ∀ w3 s3 ys, KS W0 w3 B tb s3 (ys ++ xs) → ∀ k x, L[k]? = some x → ∃ g, a = some ⟨g, 0, none⟩ ∧ g < w3.heap.size ∧ w3.cell? ⟨g, k, none⟩ = some (.int .i64 x) := by
  rcases row_of_own hown with ⟨h1, h2, h3⟩ | ⟨g, cap, cur, h1, h2, h3, h4, h5, h6, h7⟩
  · refine ⟨[], none, 0, by rw [h1, h2], hK.keep T, fun w3 s3 ys _ k x hk => ?_⟩
    rw [List.eq_nil_of_length_eq_zero h2] at hk
    simp at hk
  · refine ⟨[(g, 3, cur)], _, cap, h1, hK.add T h2 h3 hB, fun w3 s3 ys hk3 k x hk => ?_⟩
    have hr := hk3.row (g := g) (e := 3) (l := cur) (by simp)
    refine ⟨g, rfl, hr.lt, ?_⟩
    rw [hr.cell]
    have := congrArg (fun l => l[k]?) h7
    rw [Nat.mul_one] at this
    simp only [List.getElem?_take_of_lt (List.getElem?_eq_some_iff.1 hk).1] at this
    rw [this]
    exact encI_at hk

set_option maxHeartbeats 8000000 in
set_option maxRecDepth 100000 in
theorem all_bad (W : World) (f : Int) (a : Option Addr) (n cap : Nat) (hf : f < 1 ∨ 65536 < f) :
    Calls Try.prog 5 #[.int .i64 f, .slice a n cap] W fun e W' => e = .returned (.bool true) ∧ Below W.heap.size W W' := by
  have hb := begin_bad W f hf
  clear hf
  go_enter Try.func5, Try.ntmps5
  go_wp2_with (first
    | (go_at_call 18; refine hb.mono ?_; rintro e w1 ⟨rfl, ht⟩)
    | go_in)
  go_ret
  exact ⟨rfl, ht.to (fun _ h => h.elim) (Nat.le_refl _)⟩

set_option maxHeartbeats 16000000 in
set_option maxRecDepth 100000 in
theorem all_ok (W : World) (N : Nat) (a : Option Addr) (cap : Nat) (ops : List Op3) (h1 : 1 ≤ N) (h2 : N ≤ 65536) (hs : Scr W a ops) (hl : ops.length ≤ 140737488355328) :
    Calls Try.prog 5 #[.int .i64 N, .slice a ops.length cap] W fun e W' => e = .returned (.bool true) ∧ Below W.heap.size W W' := by
  have hb := begin_ok W N h1 h2
  have HS : Hid (Scr W a ops) := hs
  clear hs
  generalize hn : ops.length = n at *
  have HN : Hid (ops.length = n) := hn
  clear hn
  go_enter Try.func5, Try.ntmps5
  go_wp2_with (first
    | (go_at_call 18; refine hb.mono ?_; rintro e w1 ⟨rfl, s1, hK1, hg1, hz1⟩; have HK1 : Hid (KS W w1 W.heap.size W.heap.size s1 [] ∧ s1.good ∧ W.heap.size ≤ w1.heap.size) := ⟨hK1, hg1, hz1⟩; clear hK1 hg1 hz1)
    | go_in)
  clear hb
  go_loopw [7] (fun c wr => ∃ (k : Nat) (s : St), k ≤ n ∧ c = .int .i64 k ∧ Hid (KS W wr W.heap.size W.heap.size s [] ∧ s.good ∧ W.heap.size ≤ wr.heap.size)) (fun c _ => n - (intOf c).toNat)
  case atStart => exact ⟨0, s1, Nat.zero_le _, rfl, HK1⟩
  case round =>
    obtain ⟨k, s, hk, rfl, HX⟩ := hrel
    clear HK1
    by_cases hlt : k < n
    · have hkz : (k : Int) < (n : Int) := by omega
      obtain ⟨o, ho⟩ : ∃ o, ops[k]? = some o := ⟨_, List.getElem?_eq_getElem (by rw [HN.out]; omega)⟩
      obtain ⟨b, off, rfl, hbl, e0, e1, e2, e3, e4, e5⟩ := HS.out.lies k o ho
      have hok := HS.out.oks o (List.mem_of_getElem? ho)
      have T := HX.out.1.trn
      rw [← T.cell hbl (by omega)] at e0 e1 e2 e3 e4 e5
      have hst := step_any W wr W.heap.size W.heap.size s o HX.out.1 HX.out.2.2 HX.out.2.1 hok
      clear T hok ho
      go_wp2_with (first
        | (go_at_call 19; refine hst.mono ?_; clear hst; rintro e w2 ⟨rfl, s', hK2, hg2, hz2⟩;
           have HK2 : Hid (KS W w2 W.heap.size W.heap.size s' [] ∧ s'.good ∧ W.heap.size ≤ w2.heap.size) := ⟨hK2, hg2, Nat.le_trans HX.out.2.2 hz2⟩;
           clear hK2 hg2 hz2)
        | go_in)
      go_roundw
      case rel => exact ⟨k + 1, s', by omega, by go_num, HK2⟩
      case measure => simp [intOf]; omega
    · skip
      go_wp2
      generalize wr = wz at *
      go_loopw [8] (fun c wr => ∃ (i : Nat), i ≤ 3 ∧ c = .int .i64 i ∧ Hid (KS W wr W.heap.size W.heap.size s [] ∧ W.heap.size ≤ wr.heap.size)) (fun c _ => 3 - (intOf c).toNat)
      case atStart => exact ⟨0, Nat.zero_le _, rfl, HX.out.1, HX.out.2.2⟩
      case round =>
        obtain ⟨i, hi, rfl, HY⟩ := hrel
        by_cases hi3 : i < 3
        · have hiz : (i : Int) < 3 := by omega
          have hn := HX.out.2.1.1 i hi3
          have hm := HX.out.2.1.2 i hi3
          have HNM : Hid (s.np i = s.nr i ∧ s.mp i = s.mr i) := ⟨hn, hm⟩
          obtain ⟨S2, hR⟩ := HY.out.1.rm hi3
          have hcR := rtouched_any wr S2 (s.rr i) (s.nr i) (s.mr i) hR
          rw [← hn, ← hm] at hcR
          have cR := HY.out.1.cellR hi3
          clear hn hm hR
          go_wp2_with (first
            | (go_at_call 20; refine hcR.mono ?_; clear hcR; rintro e w2 ⟨v2, L, rfl, hL, hown2, ht2⟩;
               obtain ⟨xs, la, lc, hv2, hK2, hCar⟩ := carryI HY.out.1 ht2 HY.out.2 hown2; subst hv2;
               have HCar : Hid _ := hCar;
               obtain ⟨S3, hP⟩ := hK2.pm hi3;
               have hcP := touched_any w2 S3 (s.pp i) (s.np i) (s.mp i) hP;
               have cP := hK2.cellP hi3;
               have HK2 : Hid (KS W w2 W.heap.size W.heap.size s xs ∧ W.heap.size ≤ w2.heap.size) := ⟨hK2, Nat.le_trans HY.out.2 ht2.size⟩;
               have HL : Hid (Touch (s.np i) (s.mp i) L) := hL;
               clear hCar hP hK2 hown2 ht2 hL)
            | (go_at_call 13; refine hcP.mono ?_; clear hcP; rintro e w3 ⟨v3, L3, rfl, hL3, ⟨cap3, cur3, rfl, hr1, hr2, hr3, hr4, hr5⟩, ht3⟩;
               have hLL := hL3.uniq HL.out; subst hLL;
               have hK3 := HK2.out.1.add ht3 (Nat.le_refl _) hr1 HK2.out.2;
               have hci := ints_any w3 (some ⟨w2.heap.size, 0, none⟩) la cap3 lc L3 (fun j x hj => ⟨w2.heap.size, 0, rfl, (by
                   rw [hr1.cell, Nat.zero_add]
                   have := congrArg (fun l => l[j]?) hr5
                   simp only [List.getElem?_take_of_lt (List.getElem?_eq_some_iff.1 hj).1] at this
                   rw [this, List.getElem?_map, hj]; rfl)⟩) (fun j x hj => (by
                   obtain ⟨g, q1, q2, q3⟩ := HCar.out w3 s [_] hK3 j x hj
                   exact ⟨g, 0, q1, by rw [Nat.zero_add]; exact q3⟩)) (by omega);
               have HK3 : Hid (KS W w3 W.heap.size W.heap.size s xs ∧ W.heap.size ≤ w3.heap.size) := ⟨hK3.drop (by intro y hy; simp [hy]), Nat.le_trans HK2.out.2 ht3.size⟩;
               have hLl : L3.length ≤ 65536 := (by omega);
               clear hK3 hr1 hr5 ht3 hL3)
            | (go_at_call 21; refine hci.mono ?_; clear hci; rintro e w4 ⟨rfl, qq, rfl⟩;
               have HK4 : Hid (KS W (w3.drewN qq) W.heap.size W.heap.size s xs ∧ W.heap.size ≤ (w3.drewN qq).heap.size) := ⟨HK3.out.1.drewN qq, HK3.out.2⟩)
            | go_in)
          generalize w3.drewN qq = w4 at *
          generalize hq : L3.length = q at *
          have HQ : Hid (L3.length = q) := hq
          clear hq
          generalize wr = wy at *
          go_loopw [10] (fun c wr => ∃ (k : Nat), k ≤ q ∧ c = .int .i64 k ∧ Hid (KS W wr W.heap.size W.heap.size s xs ∧ W.heap.size ≤ wr.heap.size)) (fun c _ => q - (intOf c).toNat)
          case atStart => exact ⟨0, Nat.zero_le _, rfl, HK4⟩
          case round =>
            obtain ⟨k, hk, rfl, HZ⟩ := hrel
            by_cases hkq : k < q
            · have hkz : (k : Int) < (q : Int) := by omega
              obtain ⟨x, hx⟩ : ∃ x, L3[k]? = some x := ⟨_, List.getElem?_eq_getElem (by rw [HQ.out]; omega)⟩
              obtain ⟨nn, rfl, hnN, _⟩ := (HL.out.2 x).1 (List.mem_of_getElem? hx)
              obtain ⟨lg, rfl, hlgl, c1⟩ := HCar.out wr s [] HZ.out.1 k _ hx
              have cP := HZ.out.1.cellP hi3
              obtain ⟨S5, hP5⟩ := HZ.out.1.pm hi3
              have hN2 := hP5.n2
              have hcP : Calls Try.prog 22 #[.pointer (some ⟨s.pp i, 0, none⟩), .int .u64 ((nn : Int) * 4096), .int .i64 4096] wr.drew fun e W' => e = .returned (.tuple #[.slice (some ⟨wr.heap.size, 0, none⟩) 4096 4096, .int .i64 0]) ∧ RowAt W' wr.heap.size 5 (encB (rd (s.mp i) (nn * 4096) 4096)) ∧ Turn (fun _ => False) wr.drew W' := by
                have := read_ok wr.drew S5 (s.pp i) (s.np i) (s.mp i) (nn * 4096) 4096 (hP5.keep (S' := fun _ => False) ⟨rfl, rfl, rfl, Nat.le_refl _, fun _ _ _ => rfl⟩ (fun _ _ h => h)) (by omega)
                rw [show ((nn * 4096 : Nat) : Int) = (nn : Int) * 4096 by omega] at this
                exact this
              have hw1 : IntKind.u64.wrap (nn : Int) = (nn : Int) := by rw [IntKind.wrap_u64]; omega
              have hw2 : IntKind.u64.wrap ((nn : Int) * 4096) = (nn : Int) * 4096 := by rw [IntKind.wrap_u64]; omega
              have HX5 : Hid (L3[k]? = some (nn : Int)) := hx
              clear hx hP5
              go_wp2
              go_region_held3 (fun w' => w'.cell? ⟨W.heap.size, i, none⟩ = some (.pointer (some ⟨s.pp i, 0, none⟩)) ∧ w'.cell? ⟨lg, k, none⟩ = some (.int .i64 (nn : Int))) (first | go_keep | exact ⟨hcp5, hcl5⟩)
                ((first
                  | (go_at_call 22; refine hcP.mono ?_; clear hcP; rintro e w5 ⟨rfl, hr5, ht5⟩;
                     have hK5 := (HZ.out.1.keep (w' := wr.drew) ⟨rfl, rfl, rfl, Nat.le_refl _, fun _ _ _ => rfl⟩).add ht5 (Nat.le_refl _) hr5 HZ.out.2;
                     have hcl5 : w5.cell? ⟨lg, k, none⟩ = some (.int .i64 (nn : Int)) := (by obtain ⟨lg5, hlg5, hlgl5, hcl5⟩ := HCar.out w5 s [_] hK5 k _ HX5.out; cases hlg5; exact hcl5); have hcp5 := hK5.cellP hi3)))
              have HK5 : Hid (KS W w5 W.heap.size W.heap.size s ((wr.heap.size, 5, encB (rd (s.mp i) (nn * 4096) 4096)) :: xs) ∧ W.heap.size ≤ w5.heap.size) := ⟨hK5, Nat.le_trans HZ.out.2 ht5.size⟩
              obtain ⟨S6, hR6⟩ := hK5.rm hi3
              have cR6 := hK5.cellR hi3
              have hcR : Calls Try.prog 23 #[.pointer (some ⟨s.rr i, 0, none⟩), .int .u64 ((nn : Int) * 4096), .int .i64 4096] w5.drew fun e W' => ∃ v, e = .returned (.tuple #[v, .int .i64 0]) ∧ W'.ownsRow w5.heap.size 5 1 v 4096 (encB (rd (s.mp i) (nn * 4096) 4096)) ∧ Turn (fun _ => False) w5.drew W' := by
                have := rread_ok w5.drew S6 (s.rr i) (s.nr i) (s.mr i) (nn * 4096) 4096 (hR6.keep (S' := fun _ => False) ⟨rfl, rfl, rfl, Nat.le_refl _, fun _ _ _ => rfl⟩ (fun _ _ h => h)) (by rw [← HNM.out.1]; omega)
                rw [show ((nn * 4096 : Nat) : Int) = (nn : Int) * 4096 by omega, ← HNM.out.2] at this
                exact this
              clear hR6 hr5 hK5 ht5
              go_wp2
              go_region_held3 (fun w' => w'.cell? ⟨W.heap.size, 3 + i, none⟩ = some (.pointer (some ⟨s.rr i, 0, none⟩)) ∧ w'.cell? ⟨lg, k, none⟩ = some (.int .i64 (nn : Int))) (first | go_keep | exact ⟨hcr6, hcl6⟩)
                ((first
                  | (go_at_call 23; refine hcR.mono ?_; clear hcR; rintro e w6 ⟨v6, rfl, hown6, ht6⟩;
                     have hK6 := (HK5.out.1.keep (w' := w5.drew) ⟨rfl, rfl, rfl, Nat.le_refl _, fun _ _ _ => rfl⟩).keep ht6;
                     have hcl6 : w6.cell? ⟨lg, k, none⟩ = some (.int .i64 (nn : Int)) := (by obtain ⟨lg6, hlg6, hlgl6, hcl6⟩ := HCar.out w6 s [_] hK6 k _ HX5.out; cases hlg6; exact hcl6); have hcr6 := hK6.cellR hi3;
                     obtain ⟨a6, cp6, hv6⟩ := slice_form hown6; subst hv6)))
              have hrowP := hK6.row (List.mem_cons_self ..)
              have hcB := bytes_any w6 (some ⟨wr.heap.size, 0, none⟩) a6 4096 cp6 (rd (s.mp i) (nn * 4096) 4096) (fun j y hj => ⟨wr.heap.size, 0, rfl, (by rw [hrowP.cell, Nat.zero_add]; exact encB_at hj)⟩) (fun j y hj => (by
                have hjn : j < 4096 := (by have := (List.getElem?_eq_some_iff.1 hj).1; rwa [rd_len] at this)
                rcases row_of_own hown6 with ⟨q1, q2, _⟩ | ⟨g, cp, cr, q1, q2, q3, q4, q5, q6, q7⟩
                · omega
                · cases q1
                  refine ⟨g, 0, rfl, ?_⟩
                  rw [q3.cell, Nat.zero_add]
                  have := congrArg (fun l => l[j]?) q7
                  rw [Nat.mul_one] at this
                  simp only [List.getElem?_take_of_lt hjn] at this
                  rw [this]
                  exact encB_at hj)) (by rw [rd_len]; omega)
              rw [rd_len] at hcB
              have HK6 : Hid (KS W w6 W.heap.size W.heap.size s xs ∧ W.heap.size ≤ w6.heap.size) := ⟨hK6.drop (by intro y hy; simp [hy]), Nat.le_trans HK5.out.2 ht6.size⟩
              clear hrowP hK6 hown6 ht6
              go_wp2_with (first
                | (go_at_call 24; refine hcB.mono ?_; rintro e w7 ⟨rfl, q7, rfl⟩)
                | go_in)
              go_roundw
              case rel => exact ⟨k + 1, by omega, by go_num, HK6.out.1.drewN q7, HK6.out.2⟩
              case measure => simp [intOf]; omega
            · go_wp2
              go_roundw
              case rel => exact ⟨i + 1, by omega, by go_num, HZ.out.1.drop (by simp), HZ.out.2⟩
              case measure => simp [intOf]; omega
        · go_wp2
          go_ret
          exact ⟨rfl, HY.out.1.below⟩
theorem law_all (W : World) (f : Int) (a : Option Addr) (cap : Nat) (ops : List Op3) (hs : Scr W a ops) (hl : ops.length ≤ 140737488355328) :
    Calls Try.prog 5 #[.int .i64 f, .slice a ops.length cap] W fun e W' => e = .returned (.bool true) ∧ Below W.heap.size W W' := by
  by_cases hf : f < 1 ∨ 65536 < f
  · exact all_bad W f a ops.length cap hf
  · obtain ⟨N, rfl⟩ := Int.eq_ofNat_of_zero_le (show 0 ≤ f by omega)
    exact all_ok W N a cap ops (by omega) (by omega) hs hl
end Go.Proofs.Ytlfgnbjioofplaa

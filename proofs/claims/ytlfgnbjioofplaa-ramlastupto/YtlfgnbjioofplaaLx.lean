import Derived.Test.YtlfgnbjioofplaaLw
namespace Go.Proofs.Ytlfgnbjioofplaa
open Go.RowKit
set_option linter.unusedVariables false

theorem LS.parts {W w : World} {p bk : Nat} {c old : Value} (h : LS W w p bk c old) : c = .pointer none ∨ ∃ q g cap, c = .pointer (some ⟨q, 0, none⟩) ∧ old = .slice (some ⟨g, 0, none⟩) 16384 cap := by
  obtain ⟨⟨S, m, hP, hC, hS⟩, _, _⟩ := h
  rcases hC with h | ⟨q, T2, m2, g, cap, h1, h2, _⟩
  · exact .inl h
  · exact .inr ⟨q, g, cap, h1, h2⟩

set_option maxHeartbeats 16000000 in
set_option maxRecDepth 100000 in
theorem law_last (W : World) (a : Option Addr) (cap : Nat) (ops : List Pt) (when : Int) (hs : ScrP W a ops) (hl : ops.length ≤ 140737488355328) (hw0 : -9223372036854775808 ≤ when) (hw1 : when ≤ 9223372036854775807) :
    Calls Try.prog 4 #[.slice a ops.length cap, .int .i64 when] W fun e W' => e = .returned (.bool true) ∧ Below W.heap.size W W' := by
  have HS : Hid (ScrP W a ops) := hs
  clear hs
  generalize hn : ops.length = n at *
  have HN : Hid (ops.length = n) := hn
  clear hn
  have hnew := pnew_any W 4 (by omega) (by omega)
  have hmk : ∀ ww, (Instr.makeSlice 38 (.int .i64 16384) (.int .i64 16384)).run Try.prog ww = .ok (.slice (some ⟨ww.heap.size, 0, none⟩) 16384 16384) (ww.alloc (.cells (zr 16384 (Value.int .u8 0)) 5)) := fun ww => make8 ww 16384 (by omega)
  have he := err0 16383 1 (by omega) (by omega) (by omega)
  have HE : Hid (errV 4 (16383 : Nat) 1 = 0) := he
  clear he
  go_enter Try.func4, Try.ntmps4
  go_wp2_with (first
    | (go_at_call 9; refine hnew.mono ?_; clear hnew; rintro e w1 ⟨rfl, h1, t1⟩; have hset := setByte_any w1 _ _ 4 _ 16383 9 h1 (by omega) (by omega) (by omega); rw [HE.out] at hset;
       have HW1 : Hid (PM w1 (gr (fun _ => False) W w1) (W.heap.size + 1) 4 (fun _ => 0) ∧ Turn (fun _ => False) W w1) := ⟨h1, t1⟩; clear h1 t1)
    | (go_at_call 14; refine hset.mono ?_; clear hset; rintro e w2 ⟨rfl, h2, t2⟩;
       have HST : Hid (LS W ((w2.alloc (.cells (zr 16384 (Value.int .u8 0)) 5)).setCell ⟨w2.heap.size, 16383, none⟩ (.int .u8 9)) (W.heap.size + 1) w2.heap.size (.pointer none) (.slice none 0 0)) := LS.start HW1.out.1 HW1.out.2 h2 t2 _;
       have hcz : (w2.alloc (.cells (zr 16384 (Value.int .u8 0)) 5)).cell? ⟨w2.heap.size, 16383, none⟩ = some (.int .u8 0) := (by rw [(zr_row w2 16384 (.int .u8 0) 5).cell, List.getElem?_replicate]; simp);
       have hfz := (zr_row w2 16384 (.int .u8 0) 5).frozen 16383;
       clear h2 t2)
    | go_in)
  have HST2 : Hid (LS W (w2.alloc (.cells ((zr 16384 (Value.int .u8 0)).setIfInBounds 16383 (.int .u8 9)) 5)) (W.heap.size + 1) w2.heap.size (.pointer none) (.slice none 0 0)) := by
    have := HST.out
    rw [World.setCell_alloc_new] at this
    exact this
  clear HST HW1 hcz hfz
  have hwl : W.heap.size ≤ w2.heap.size := HST2.out.lo
  generalize w2.heap.size = bk at *
  generalize W.heap.size + 1 = p at *
  go_loopw [8, 9, 10] (fun old c i wr => ∃ (k : Nat), k ≤ n ∧ i = .int .i64 k ∧ Hid (LS W wr p bk c old)) (fun _ _ i _ => n - (intOf i).toNat)
  case atStart => exact ⟨0, Nat.zero_le _, rfl, HST2⟩
  case round =>
    obtain ⟨k, hk, rfl, HX⟩ := hrel
    clear HST2
    by_cases hlt : k < n
    · have hkz : (k : Int) < (n : Int) := by omega
      obtain ⟨o, ho⟩ : ∃ o, ops[k]? = some o := ⟨_, List.getElem?_eq_getElem (by rw [HN.out]; omega)⟩
      obtain ⟨b, off, rfl, hbl, e0, e1, e2, e3⟩ := HS.out.lies k o ho
      have hok := HS.out.oks o (List.mem_of_getElem? ho)
      have T := HX.out.trn
      by_cases hw : (k : Int) = when
      · subst hw
        have hcl := HX.out.clone 16384
        have HOK : Hid (0 ≤ o.v ∧ o.v < 256) := hok
        have HE : Hid (∀ w', Turn (fun b => W.heap.size ≤ b) W w' → w'.cell? ⟨b, off + k * 4, none⟩ = some (.int .i64 o.at_) ∧ w'.cell? ⟨b, off + k * 4 + 1, none⟩ = some (.int .u8 o.v) ∧ w'.cell? ⟨b, off + k * 4 + 2, none⟩ = some (.bool o.wp) ∧ w'.cell? ⟨b, off + k * 4 + 3, none⟩ = some (.int .i64 o.wide)) := fun w' T' => by
          rw [T'.cell hbl (by omega), T'.cell hbl (by omega), T'.cell hbl (by omega), T'.cell hbl (by omega)]
          exact ⟨e0, e1, e2, e3⟩
        clear T hok ho e0 e1 e2 e3
        go_wp2_with (first
          | (go_at_call 15; refine hcl.mono ?_; clear hcl; rintro e w3 ⟨q, rfl, g, cp, w4, hr, hL⟩; have HL : Hid _ := hL; obtain ⟨e0, e1, e2, e3⟩ := HE.out w4 hL.trn; have hput := hL.put 16384 o.at_ o.v o.wide o.wp HOK.out.1 HOK.out.2; clear hL)
          | (at_builtin; refine Lib.wpList_append_run _ rfl _ _ 38 38 rfl _ _ rfl rfl _ _ (hr _) ?_; clear hr)
          | (go_at_call 16; refine hput.mono ?_; clear hput; rintro e w5 ⟨rfl, hL5⟩; have HL5 : Hid _ := hL5; clear hL5)
          | go_in)
        go_roundw
        case rel => exact ⟨k + 1, by omega, by go_num, HL5.out⟩
        case measure => simp [intOf]; omega
      · rw [← T.cell hbl (by omega)] at e0 e1 e2 e3
        have hput := HX.out.put 16384 o.at_ o.v o.wide o.wp hok.1 hok.2
        clear T hok ho
        go_wp2_with (first
          | (go_at_call 16; refine hput.mono ?_; clear hput; rintro e w5 ⟨rfl, hL5⟩; have HL5 : Hid _ := hL5; clear hL5)
          | go_in)
        go_roundw
        case rel => exact ⟨k + 1, by omega, by go_num, HL5.out⟩
        case measure => simp [intOf]; omega
    · have hh1 := HX.out.holds1 16384
      rcases HX.out.parts with rfl | ⟨q, g, cap2, rfl, rfl⟩
      · go_wp2_with (first
          | (go_at_call 17; refine hh1.mono ?_; clear hh1; rintro e w5 ⟨rfl, hL5⟩; have HL5 : Hid _ := hL5; clear hL5)
          | go_in)
        go_ret
        exact ⟨rfl, HL5.out.trn.to (fun _ h => h) (Nat.le_refl _)⟩
      · go_wp2_with (first
          | (go_at_call 17; refine hh1.mono ?_; clear hh1; rintro e w5 ⟨rfl, hL5⟩; obtain ⟨g2, cap3, hge, hh2⟩ := hL5.holds2; cases hge; clear hL5)
          | (go_at_call 17; refine hh2.mono ?_; clear hh2; rintro e w6 ⟨rfl, hT6⟩)
          | go_in)
        go_ret
        exact ⟨rfl, hT6.to (fun _ h => h) (Nat.le_refl _)⟩
end Go.Proofs.Ytlfgnbjioofplaa

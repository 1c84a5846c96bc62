import Derived.Test.YtlfgnbjioofplabOw
import Derived.Deep.Cut
import Derived.Deep.CutRange
namespace Go.Proofs.Ytlfgnbjioofplab
open Go.RowKit
set_option linter.unusedVariables false

set_option maxHeartbeats 16000000 in
set_option maxRecDepth 100000 in
theorem own_ok (W : World) (N : Nat) (a : Option Addr) (cap : Nat) (ops : List Op3) (h1 : 1 ≤ N) (h2 : N ≤ 65536) (hs : Scr W a ops) (hl : ops.length ≤ 1048576) :
    Calls Try.prog 3 #[.int .i64 N, .slice a ops.length cap] W fun e W' => e = .returned (.bool true) ∧ Below W.heap.size W W' := by
  have hb := begin_ok W N h1 h2
  have HS : Hid (Scr W a ops) := hs
  clear hs
  generalize hn : ops.length = n at *
  have HN : Hid (ops.length = n) := hn
  clear hn
  have HZ : ∀ W : World, (zeroValue 30).run Try.prog W = .ok (.agg #[.slice none 0 0, .slice none 0 0, .slice none 0 0, .slice none 0 0]) W := fun W => by kernel_rfl
  have HZ2 : ∀ W : World, (zeroValue 35).run Try.prog W = .ok (.agg #[.int .i64 0, .int .i64 0, .int .i64 0, .int .u64 0, .int .u32 0, .slice none 0 0]) W := fun W => by kernel_rfl
  go_enter Try.func3, Try.ntmps3
  go_wp2_with (first
    | (go_at_call 4; refine hb.mono ?_; rintro e w1 ⟨rfl, s1, hK1, hg1, hz1⟩; have HK1 : Hid (RS W (w1.alloc (.cells #[.slice none 0 0, .slice none 0 0, .slice none 0 0, .slice none 0 0] 30)) w1.heap.size s1 (fun _ => .slice none 0 0) [] []) := RS.start hK1 hg1 hz1; clear hK1 hg1)
    | go_in)
  clear hb
  generalize w1.heap.size = bb at *
  go_loopw [8] (fun c wr => ∃ (k : Nat) (s : St) (v : Nat → Value) (es : List Ent), k ≤ n ∧ c = .int .i64 k ∧ Hid (RS W wr bb s v es [] ∧ es.length = 2 * k)) (fun c _ => n - (intOf c).toNat)
  case atStart => exact ⟨0, s1, _, [], Nat.zero_le _, rfl, HK1.out, rfl⟩
  case round =>
    obtain ⟨k, s, v, es, hk, rfl, HX⟩ := hrel
    clear HK1
    by_cases hlt : k < n
    · have hkz : (k : Int) < (n : Int) := by omega
      obtain ⟨o, ho⟩ : ∃ o, ops[k]? = some o := ⟨_, List.getElem?_eq_getElem (by rw [HN.out]; omega)⟩
      obtain ⟨b, off, rfl, hbl, e0, e1, e2, e3, e4, e5⟩ := HS.out.lies k o ho
      have hok := HS.out.oks o (List.mem_of_getElem? ho)
      have T := HX.out.1.kz.trn
      rw [← T.cell hbl (by omega)] at e0 e1 e2 e3 e4 e5
      have hst := (HX.out.1.add ((Turn.refl _ wr).alloc (.cells #[.int .i64 o.kind, .int .i64 o.who, .int .i64 o.n, .int .u64 o.pa, .int .u32 o.v, .slice o.a o.bs.length o.cap] 35)) (Nat.le_refl _) (row_new wr o.cells 35)).step o hok
      have HOK : Hid (o.ok W W.heap.size) := hok
      clear T hok ho
      go_wp2_with (first
        | (go_at_call 5; refine hst.mono ?_; clear hst; rintro e w2 ⟨rfl, s', hS2⟩; have HS2 : Hid _ := hS2; clear hS2)
        | go_in)
      generalize hbx : wr.heap.size = bx at *
      obtain ⟨hrb, _⟩ := HS2.out.row (bx, 35, o.cells) (by simp)
      have q1 : w2.cell? ⟨bx, 1, none⟩ = some (.int .i64 o.who) := hrb.cell 1
      have q3 : w2.cell? ⟨bx, 3, none⟩ = some (.int .u64 o.pa) := hrb.cell 3
      have hwh := fun W => who_q W o.who HOK.out.w1 HOK.out.w2
      have hi3 := w3_lt o.who
      generalize w3 o.who = i at *
      have cP := HS2.out.kz.ks.cellP hi3
      have cR := HS2.out.kz.ks.cellR hi3
      have hi3z : (i : Int) < 3 := by omega
      have hpa := not63 o.pa HOK.out.p2
      have hpm : ((o.pa - o.pa % 64 : Nat) : Int) % 4096 = (((o.pa - o.pa % 64) % 4096 : Nat) : Int) := by omega
      have hq64 : (o.pa - o.pa % 64) % 4096 + 64 ≤ 4096 := by omega
      generalize hA : o.pa - o.pa % 64 = A at *
      clear hA
      generalize A % 4096 = q at *
      clear hrb
      go_quiet ((go_at_call 6; exact Calls.quiet_of_same (hwh _)))
      have HS3 : Hid _ := HS2.out.keep ((Turn.refl (fun _ => False) w2).drewN nq)
      have q3b : (w2.drewN nq).cell? ⟨bx, 3, none⟩ = some (.int .u64 o.pa) := q3
      generalize w2.drewN nq = w3 at *
      clear hwh cP cR q1 q3 HS2
      have hes : es.length ≤ 4194303 := by have := HX.out.2; omega
      have HES : Hid (es.length ≤ 4194303 ∧ es.length = 2 * k) := ⟨hes, HX.out.2⟩
      clear hes HX
      have hA := HS3.out.read hi3 q 64 hq64
      go_wp2_with (first
        | (go_at_call 7; refine hA.mono ?_; clear hA; rintro e w4 ⟨rfl, hS4⟩;
           have HZ4 : Hid (w3.heap.size < w4.heap.size) := (hS4.row _ (List.mem_cons_self ..)).1.lt;
           have hB := hS4.touched hi3; clear hS4)
        | (go_at_call 8; refine hB.mono ?_; clear hB; rintro e w5 ⟨L, ct, cu, rfl, hL, hL1, hL2, hL3, hL4, hS5⟩;
           have HL : Hid (Touch (s'.np i) (s'.mp i) L ∧ cu.length = ct ∧ cu.take L.length = encI L) := ⟨hL, hL3, hL4⟩;
           have HZ5 : Hid (w4.heap.size < w5.heap.size) := (hS5.row _ (List.mem_cons_self ..)).1.lt;
           have hC := hS5.read hi3 0 32 (by omega); clear hS5 hL hL3 hL4)
        | (go_at_call 7; refine hC.mono ?_; clear hC; rintro e w6 ⟨rfl, hS6⟩;
           have HZ6 : Hid (w5.heap.size < w6.heap.size) := (hS6.row _ (List.mem_cons_self ..)).1.lt;
           have hD := hS6.read hi3 q 64 hq64; clear hS6)
        | (go_at_call 7; refine hD.mono ?_; clear hD; rintro e w7 ⟨rfl, hS7⟩;
           have HZ7 : Hid (w6.heap.size < w7.heap.size) := (hS7.row _ (List.mem_cons_self ..)).1.lt;
           have hE := hS7.touched hi3; clear hS7)
        | (go_at_call 8; refine hE.mono ?_; clear hE; rintro e w8 ⟨L', ct2, cu2, rfl, hM, hM1, hM2, hM3, hM4, hS8⟩;
           have hLL := hM.uniq HL.out.1; subst hLL;
           have HM : Hid (cu2.length = ct2 ∧ cu2.take L'.length = encI L') := ⟨hM3, hM4⟩;
           have hF := hS8.rread hi3 q 64 hq64 (by omega); clear hS8 hM hM3 hM4)
        | (go_at_call 9; refine hF.mono ?_; clear hF; rintro e w9 ⟨gw, cw, cv, rfl, hcv, hS9⟩;
           have HCV : Hid (cv.take 64 = encB (rd (s'.mp i) q 64)) := hcv;
           have hG := hS9.bytes (g := w3.heap.size) (g' := gw) (l := rd (s'.mp i) q 64) (n := 64) (ca := 64) (cb := cw) (by simp) (List.mem_cons_self ..) (rd_len ..) (List.take_of_length_le (by rw [encB_len, rd_len]; exact Nat.le_refl _)) hcv (by omega); clear hS9 hcv)
        | (go_at_call 10; refine hG.mono ?_; clear hG; rintro e w10 ⟨rfl, hS10⟩;
           have hH := hS10.bytes (g := w6.heap.size) (g' := gw) (l := rd (s'.mp i) q 64) (n := 64) (ca := 64) (cb := cw) (by simp) (List.mem_cons_self ..) (rd_len ..) (List.take_of_length_le (by rw [encB_len, rd_len]; exact Nat.le_refl _)) HCV.out (by omega); clear hS10)
        | (go_at_call 10; refine hH.mono ?_; clear hH; rintro e w11 ⟨rfl, hS11⟩;
           have hI := hS11.rtouched hi3 HL.out.1; clear hS11)
        | (go_at_call 12; refine hI.mono ?_; clear hI; rintro e w12 ⟨ra, rc, rfl, hra, hS12⟩;
           have hJ := hS12.ints (g := w4.heap.size) (cur := cu) (l := L') (ca := ct) (cb := rc) (by simp) HL.out.2.2 hra (by omega); clear hS12 hra)
        | (go_at_call 11; refine hJ.mono ?_; clear hJ; rintro e w13 ⟨rfl, hS13⟩;
           have hKK := hS13.ints (g := w7.heap.size) (cur := cu2) (l := L') (ca := ct2) (cb := ct) (by simp) HM.out.2 (hS13.cells (g := w4.heap.size) (cur := cu) (by simp) HL.out.2.2) (by omega); clear hS13)
        | (go_at_call 11; refine hKK.mono ?_; clear hKK; rintro e w14 ⟨rfl, hS14⟩;
           have hTk := hS14.take w3.heap.size (encB (rd (s'.mp i) q 64)) (by simp) (by rw [encB_len, rd_len]) w4.heap.size ct L'.length cu (by simp) hL2 hL1 HL.out.2.1 (by have := HES.out.1; omega); clear hS14)
        | (go_at_call 13; refine hTk.mono ?_; clear hTk; rintro e w15 ⟨rfl, v5, es5, hes5, hS15⟩;
           have hS15b := hS15 [(w6.heap.size, 5, encB (rd (s'.mp i) q 64)), (w7.heap.size, 3, cu2)] (by
             have z4 := HZ4.out; have z5 := HZ5.out; have z6 := HZ6.out; have z7 := HZ7.out
             intro x hx
             simp only [List.mem_cons, List.not_mem_nil, or_false] at hx
             rcases hx with rfl | rfl
             · exact ⟨by simp, by show w6.heap.size ≠ w3.heap.size; omega, by show w6.heap.size ≠ w4.heap.size; omega⟩
             · exact ⟨by simp, by show w7.heap.size ≠ w3.heap.size; omega, by show w7.heap.size ≠ w4.heap.size; omega⟩);
           have hTl := hS15b.take w6.heap.size (encB (rd (s'.mp i) q 64)) (by simp) (by rw [encB_len, rd_len]) w7.heap.size ct2 L'.length cu2 (by simp) hM2 hM1 HM.out.1 (by have := HES.out.1; omega);
           have HES5 : Hid (es5.length = es.length + 1) := hes5; clear hS15 hS15b hes5)
        | (go_at_call 13; refine hTl.mono ?_; clear hTl; rintro e w16 ⟨rfl, v6, es6, hes6, hS16⟩;
           have HS16 : Hid (RS W w16 bb s' v6 es6 [] ∧ es6.length = 2 * (k + 1)) := ⟨hS16 [] (by simp), by have q1 := HES.out.2; have q2 := HES5.out; omega⟩; clear hS16 hes6)
        | go_in)
      have hm6 : 2 * (k + 1) ≤ 2097152 := by omega
      generalize hm : 2 * (k + 1) = m at *
      have HM6 : Hid (es6.length = m ∧ 2 * (k + 1) = m) := ⟨HS16.out.2, hm⟩
      clear HZ HZ2 hpa hpm q3b HL HM HCV HES HES5 HZ4 HZ5 HZ6 HZ7 e0 e1 e2 e3 e4 e5 hm
      generalize wr = wz at *
      go_loopw [21] (fun c ww => ∃ j : Nat, j ≤ m ∧ c = .int .i64 j ∧ Hid (RS W ww bb s' v6 es6 [])) (fun c _ => m - (intOf c).toNat)
      case atStart => exact ⟨0, Nat.zero_le _, rfl, HS16.out.1⟩
      case round =>
        obtain ⟨j, hj, rfl, HY⟩ := hrel
        clear HS16
        by_cases hjm : j < m
        · have hjz : (j : Int) < (m : Int) := by omega
          obtain ⟨G0, C0, G1, C1, G2, C2, G3, C3, b0, c0, b1, c1, b2, c2, b3, c3, nb, ni, p0, p1, p2, p3, r0, r1, r2, r3, hby, hin⟩ := HY.out.look HM6.out.1 (j := j) hjm
          by_cases h40 : k < 40
          · have h40z : (k : Int) < 40 := by omega
            go_wp2
            go_quiet ((first
              | (go_at_call 10; exact Calls.quiet_of (hby _))
              | (go_at_call 11; exact Calls.quiet_of (hin _))))
            go_wp2
            go_roundw
            case rel => exact ⟨j + 1, by omega, by go_num, HY.out.keep ((Turn.refl _ _).drewN nq)⟩
            case measure => simp [intOf]; omega
          · have h40z : ¬ (k : Int) < 40 := by omega
            by_cases hlast : k + 1 = n
            · have hlz : ((k : Int) == (n : Int) - 1) = true := by simp; omega
              go_wp2
              go_quiet ((first
                | (go_at_call 10; exact Calls.quiet_of (hby _))
                | (go_at_call 11; exact Calls.quiet_of (hin _))))
              go_wp2
              go_roundw
              case rel => exact ⟨j + 1, by omega, by go_num, HY.out.keep ((Turn.refl _ _).drewN nq)⟩
              case measure => simp [intOf]; omega
            · have hlz : ((k : Int) == (n : Int) - 1) = false := by simp; omega
              go_wp2
              go_roundw
              case rel => exact ⟨k + 1, s', v6, es6, by omega, by go_num, HY.out, by rw [HM6.out.1, HM6.out.2]⟩
              case measure => simp [intOf]; omega
        · obtain ⟨ba, bc, hb0⟩ := HY.out.len HM6.out.1
          go_wp2
          go_roundw
          case rel => exact ⟨k + 1, s', v6, es6, by omega, by go_num, HY.out, by rw [HM6.out.1, HM6.out.2]⟩
          case measure => simp [intOf]; omega
    · go_wp2
      go_ret
      exact ⟨rfl, HX.out.1.kz.trn.to (fun _ h => h) (Nat.le_refl _)⟩
theorem law_own (W : World) (f : Int) (a : Option Addr) (cap : Nat) (ops : List Op3) (hs : Scr W a ops) (hl : ops.length ≤ 1048576) :
    Calls Try.prog 3 #[.int .i64 f, .slice a ops.length cap] W fun e W' => e = .returned (.bool true) ∧ Below W.heap.size W W' := by
  by_cases hf : f < 1 ∨ 65536 < f
  · exact own_bad W f a ops.length cap hf
  · obtain ⟨N, rfl⟩ := Int.eq_ofNat_of_zero_le (show 0 ≤ f by omega)
    exact own_ok W N a cap ops (by omega) (by omega) hs hl
end Go.Proofs.Ytlfgnbjioofplab

import Derived.Test.YtilhceajhlaojaaGreatDoorZ3
import Derived.Test.YtilhceajhlaojaaGreatDoorZ4
namespace Go.Proofs.YtilhceajhlaojaaGreatDoor.Is
open Go.RowKit
set_option linter.unusedVariables false
set_option linter.unusedSimpArgs false
set_option maxRecDepth 100000 in
set_option maxHeartbeats 1000000 in
theorem gisPC_any (b : Nat) (l : List Int) (w : World) (hs : Sl w b l) :
    Calls Tryz.prog 44 #[.slice (some ⟨b, 0, none⟩) l.length l.length] w fun e w' => e = .returned (.bool (l.contains 15)) ∧ w' = w := by
  have hlen := hs.len
  have hs : Hid _ := hs
  go_enter Tryz.func44, Tryz.ntmps44
  go_wp2
  go_loopw [7] (fun k wr => ∃ (j : Nat), j ≤ l.length ∧ k = .int .i64 (j : Int) ∧ (l.drop j).contains 15 = l.contains 15 ∧ wr = w) (fun k _ => (l.length - intOf k).toNat)
  case atStart => exact ⟨0, by omega, rfl, by simp, rfl⟩
  case round =>
    obtain ⟨j, h1, rfl, hv, rfl⟩ := hrel
    have hv : Hid _ := hv
    by_cases h : j < l.length
    · have hj1 : IntKind.i64.wrap ((j : Int) + 1) = ((j + 1 : Nat) : Int) := by rw [IntKind.wrap_i64]; omega
      have z1 : decide ((j : Int) < (l.length : Nat)) = true := decide_eq_true (by omega)
      have hcell := hs.out.cell h
      have ed : Hid ((l.drop j).contains 15 = (l[j] == 15 || (l.drop (j + 1)).contains 15)) := any_drop h
      by_cases he : l[j] = 15
      · have e2 : Hid (l.contains 15 = true) := by show _ = _; rw [← hv.out, ed.out, he]; simp
        rw [he] at hcell
        clear ed he hv
        go_wp2
        exact bodyPost_ret (v := .bool true) (by simp [results, Tryz.results44, go_sem]) rfl ⟨by rw [e2.out], rfl⟩
      · have he' : (l[j] == 15) = false := by simpa using he
        have e2 : Hid ((l.drop (j + 1)).contains 15 = l.contains 15) := by show _ = _; rw [← hv.out, ed.out, he']; simp
        clear ed he hv
        go_wp2
        refine ⟨⟨j + 1, by omega, rfl, e2.out, trivial⟩, ?_⟩
        simp only [intOf]; omega
    · have z1 : decide ((j : Int) < (l.length : Nat)) = false := decide_eq_false (by omega)
      have e : l.drop j = [] := List.drop_eq_nil_of_le (by omega)
      have hv := hv.out
      rw [e] at hv
      have hv : Hid _ := hv
      clear e
      go_wp2
      exact bodyPost_ret (v := .bool false) (by simp [results, Tryz.results44, go_sem]) rfl ⟨by rw [← hv.out]; rfl, rfl⟩
set_option maxRecDepth 100000 in
theorem gmoves_any (i : Ins) (w : World) : Calls Tryz.prog 56 #[.agg (insA i)] w fun e w' => e = .returned (.bool (movesP i)) ∧ Below w.heap.size w w' := by
  obtain ⟨jc, jo, js, jf, jd, jn, jm, jr, ja, ji, jt, jk, jp, ju, jw, jl, jx, jy, jz, jv⟩ := i
  show Calls Tryz.prog 56 #[.agg #[.int .i64 jc, .int .i64 jo, .bool js, .int .i64 jf, .int .i64 jd, .int .i64 jn, .int .i64 jm, .int .i64 jr, .int .i64 ja, .int .u32 ji, .int .i64 jt, .int .i64 jk, .bool jp, .bool ju, .bool jw, .int .u16 jl, .int .i64 jx, .int .i64 jy, .int .i64 jz, .int .i64 jv]] w fun e w' => e = .returned (.bool (jw || isOneP jo && !jp)) ∧ Below w.heap.size w w'
  have H1 : Hid (∀ w, Calls Tryz.prog 46 #[.int .i64 jo] w fun e w' => e = .returned (.bool (isOneP jo)) ∧ w' = w) := fun w => gisOne_any jo w
  generalize isOneP jo = A at *
  cases jw <;> cases A <;>
  · go_enter Tryz.func56, Tryz.ntmps56
    go_wp2_with (go_at_call 46; refine (H1.out _).mono ?_; rintro e w' ⟨rfl, rfl⟩)
    exact bodyPost_ret (by simp [results, Tryz.results56, go_sem]) rfl ⟨rfl, below_new _ _⟩
theorem ins_bl (w : World) (i : Ins) : Bl (w.alloc (.cells (insA i) 35)) w.heap.size 35 (insL i) := Bl.new w 35 (insL i)
theorem ins_info : (Tryz.prog.info? 35).map (·.size) = some 20 := by kernel_rfl
set_option maxRecDepth 100000 in
set_option maxHeartbeats 1000000 in
theorem goneMay_any (i : Ins) (w : World) : Calls Tryz.prog 47 #[.agg (insA i)] w fun e w' => e = .returned (.bool (oneMayP i)) ∧ Below w.heap.size w w' := by
  have HB := hidW (ins_bl w i)
  have H1 : Hid (∀ w, Calls Tryz.prog 56 #[.agg (insA i)] w fun e w' => e = .returned (.bool (movesP i)) ∧ Below w.heap.size w w') := fun w => gmoves_any i w
  have em : oneMayP i = (!(i.write && !i.pre) && (!(movesP i && (i.rn == 15 || i.rn == i.rd)) && (!(i.rm == 15) && (!(i.rd == 15) || i.op == 31)))) := rfl
  rw [em]
  clear em
  generalize movesP i = M at *
  obtain ⟨jc, jo, js, jf, jd, jn, jm, jr, ja, ji, jt, jk, jp, ju, jw, jl, jx, jy, jz, jv⟩ := i
  show Calls Tryz.prog 47 #[.agg #[.int .i64 jc, .int .i64 jo, .bool js, .int .i64 jf, .int .i64 jd, .int .i64 jn, .int .i64 jm, .int .i64 jr, .int .i64 ja, .int .u32 ji, .int .i64 jt, .int .i64 jk, .bool jp, .bool ju, .bool jw, .int .u16 jl, .int .i64 jx, .int .i64 jy, .int .i64 jz, .int .i64 jv]] w fun e w' => e = .returned (.bool (!(jw && !jp) && (!(M && (jn == 15 || jn == jd)) && (!(jm == 15) && (!(jd == 15) || jo == 31))))) ∧ Below w.heap.size w w'
  change Hid (∀ w, Calls Tryz.prog 56 #[.agg #[.int .i64 jc, .int .i64 jo, .bool js, .int .i64 jf, .int .i64 jd, .int .i64 jn, .int .i64 jm, .int .i64 jr, .int .i64 ja, .int .u32 ji, .int .i64 jt, .int .i64 jk, .bool jp, .bool ju, .bool jw, .int .u16 jl, .int .i64 jx, .int .i64 jy, .int .i64 jz, .int .i64 jv]] w fun e w' => e = .returned (.bool M) ∧ Below w.heap.size w w') at H1
  change Hid (Bl (w.alloc (.cells ([.int .i64 jc, .int .i64 jo, .bool js, .int .i64 jf, .int .i64 jd, .int .i64 jn, .int .i64 jm, .int .i64 jr, .int .i64 ja, .int .u32 ji, .int .i64 jt, .int .i64 jk, .bool jp, .bool ju, .bool jw, .int .u16 jl, .int .i64 jx, .int .i64 jy, .int .i64 jz, .int .i64 jv]).toArray 35)) w.heap.size 35 ([.int .i64 jc, .int .i64 jo, .bool js, .int .i64 jf, .int .i64 jd, .int .i64 jn, .int .i64 jm, .int .i64 jr, .int .i64 ja, .int .u32 ji, .int .i64 jt, .int .i64 jk, .bool jp, .bool ju, .bool jw, .int .u16 jl, .int .i64 jx, .int .i64 jy, .int .i64 jz, .int .i64 jv])) at HB
  cases jw
  · cases M
    · cases h3 : (jm == 15)
      · have g3 : (jm != 15) = true := by rw [bne, h3]; rfl
        cases h4 : (jd == 15)
        · have g4 : (jd != 15) = true := by rw [bne, h4]; rfl
          go_enter Tryz.func47, Tryz.ntmps47
          go_wp2_with (guard_target =~ wpList _ _ _ (Oper.mk (some 10) _ _ _ _ _ :: _) _ _; refine wpList_load_mid rfl _ _ rfl w.heap.size 0 rfl _ _ HB.out.range Tryz.underlying35 rfl ins_info ?_)
          go_at_call 56
          refine (H1.out _).mono ?_
          rintro e w1 ⟨rfl, hb⟩
          have HC := hidW (HB.out.below hb)
          have HW := hidW (Below.step (below_new _ _) hb)
          clear HB H1 hb
          have c1 := HC.out.cell 1
          have c4 := HC.out.cell 4
          have c5 := HC.out.cell 5
          have c6 := HC.out.cell 6
          dsimp only [List.getElem?_cons_zero, List.getElem?_cons_succ] at c1 c4 c5 c6
          go_wp2
          exact bodyPost_ret (v := .bool (true)) (by simp [results, Tryz.results47, go_sem]) rfl ⟨rfl, by first | exact below_new _ _ | exact HW.out⟩
        · have g4 : (jd != 15) = false := by rw [bne, h4]; rfl
          go_enter Tryz.func47, Tryz.ntmps47
          go_wp2_with (guard_target =~ wpList _ _ _ (Oper.mk (some 10) _ _ _ _ _ :: _) _ _; refine wpList_load_mid rfl _ _ rfl w.heap.size 0 rfl _ _ HB.out.range Tryz.underlying35 rfl ins_info ?_)
          go_at_call 56
          refine (H1.out _).mono ?_
          rintro e w1 ⟨rfl, hb⟩
          have HC := hidW (HB.out.below hb)
          have HW := hidW (Below.step (below_new _ _) hb)
          clear HB H1 hb
          have c1 := HC.out.cell 1
          have c4 := HC.out.cell 4
          have c5 := HC.out.cell 5
          have c6 := HC.out.cell 6
          dsimp only [List.getElem?_cons_zero, List.getElem?_cons_succ] at c1 c4 c5 c6
          go_wp2
          exact bodyPost_ret (v := .bool (jo == 31)) (by simp [results, Tryz.results47, go_sem]) rfl ⟨rfl, by first | exact below_new _ _ | exact HW.out⟩
      · have g3 : (jm != 15) = false := by rw [bne, h3]; rfl
        go_enter Tryz.func47, Tryz.ntmps47
        go_wp2_with (guard_target =~ wpList _ _ _ (Oper.mk (some 10) _ _ _ _ _ :: _) _ _; refine wpList_load_mid rfl _ _ rfl w.heap.size 0 rfl _ _ HB.out.range Tryz.underlying35 rfl ins_info ?_)
        go_at_call 56
        refine (H1.out _).mono ?_
        rintro e w1 ⟨rfl, hb⟩
        have HC := hidW (HB.out.below hb)
        have HW := hidW (Below.step (below_new _ _) hb)
        clear HB H1 hb
        have c1 := HC.out.cell 1
        have c4 := HC.out.cell 4
        have c5 := HC.out.cell 5
        have c6 := HC.out.cell 6
        dsimp only [List.getElem?_cons_zero, List.getElem?_cons_succ] at c1 c4 c5 c6
        go_wp2
        exact bodyPost_ret (v := .bool (false)) (by simp [results, Tryz.results47, go_sem]) rfl ⟨rfl, by first | exact below_new _ _ | exact HW.out⟩
    · cases h1 : (jn == 15)
      · cases h2 : (jn == jd)
        · cases h3 : (jm == 15)
          · have g3 : (jm != 15) = true := by rw [bne, h3]; rfl
            cases h4 : (jd == 15)
            · have g4 : (jd != 15) = true := by rw [bne, h4]; rfl
              go_enter Tryz.func47, Tryz.ntmps47
              go_wp2_with (guard_target =~ wpList _ _ _ (Oper.mk (some 10) _ _ _ _ _ :: _) _ _; refine wpList_load_mid rfl _ _ rfl w.heap.size 0 rfl _ _ HB.out.range Tryz.underlying35 rfl ins_info ?_)
              go_at_call 56
              refine (H1.out _).mono ?_
              rintro e w1 ⟨rfl, hb⟩
              have HC := hidW (HB.out.below hb)
              have HW := hidW (Below.step (below_new _ _) hb)
              clear HB H1 hb
              have c1 := HC.out.cell 1
              have c4 := HC.out.cell 4
              have c5 := HC.out.cell 5
              have c6 := HC.out.cell 6
              dsimp only [List.getElem?_cons_zero, List.getElem?_cons_succ] at c1 c4 c5 c6
              go_wp2
              exact bodyPost_ret (v := .bool (true)) (by simp [results, Tryz.results47, go_sem]) rfl ⟨rfl, by first | exact below_new _ _ | exact HW.out⟩
            · have g4 : (jd != 15) = false := by rw [bne, h4]; rfl
              go_enter Tryz.func47, Tryz.ntmps47
              go_wp2_with (guard_target =~ wpList _ _ _ (Oper.mk (some 10) _ _ _ _ _ :: _) _ _; refine wpList_load_mid rfl _ _ rfl w.heap.size 0 rfl _ _ HB.out.range Tryz.underlying35 rfl ins_info ?_)
              go_at_call 56
              refine (H1.out _).mono ?_
              rintro e w1 ⟨rfl, hb⟩
              have HC := hidW (HB.out.below hb)
              have HW := hidW (Below.step (below_new _ _) hb)
              clear HB H1 hb
              have c1 := HC.out.cell 1
              have c4 := HC.out.cell 4
              have c5 := HC.out.cell 5
              have c6 := HC.out.cell 6
              dsimp only [List.getElem?_cons_zero, List.getElem?_cons_succ] at c1 c4 c5 c6
              go_wp2
              exact bodyPost_ret (v := .bool (jo == 31)) (by simp [results, Tryz.results47, go_sem]) rfl ⟨rfl, by first | exact below_new _ _ | exact HW.out⟩
          · have g3 : (jm != 15) = false := by rw [bne, h3]; rfl
            go_enter Tryz.func47, Tryz.ntmps47
            go_wp2_with (guard_target =~ wpList _ _ _ (Oper.mk (some 10) _ _ _ _ _ :: _) _ _; refine wpList_load_mid rfl _ _ rfl w.heap.size 0 rfl _ _ HB.out.range Tryz.underlying35 rfl ins_info ?_)
            go_at_call 56
            refine (H1.out _).mono ?_
            rintro e w1 ⟨rfl, hb⟩
            have HC := hidW (HB.out.below hb)
            have HW := hidW (Below.step (below_new _ _) hb)
            clear HB H1 hb
            have c1 := HC.out.cell 1
            have c4 := HC.out.cell 4
            have c5 := HC.out.cell 5
            have c6 := HC.out.cell 6
            dsimp only [List.getElem?_cons_zero, List.getElem?_cons_succ] at c1 c4 c5 c6
            go_wp2
            exact bodyPost_ret (v := .bool (false)) (by simp [results, Tryz.results47, go_sem]) rfl ⟨rfl, by first | exact below_new _ _ | exact HW.out⟩
        · go_enter Tryz.func47, Tryz.ntmps47
          go_wp2_with (guard_target =~ wpList _ _ _ (Oper.mk (some 10) _ _ _ _ _ :: _) _ _; refine wpList_load_mid rfl _ _ rfl w.heap.size 0 rfl _ _ HB.out.range Tryz.underlying35 rfl ins_info ?_)
          go_at_call 56
          refine (H1.out _).mono ?_
          rintro e w1 ⟨rfl, hb⟩
          have HC := hidW (HB.out.below hb)
          have HW := hidW (Below.step (below_new _ _) hb)
          clear HB H1 hb
          have c1 := HC.out.cell 1
          have c4 := HC.out.cell 4
          have c5 := HC.out.cell 5
          have c6 := HC.out.cell 6
          dsimp only [List.getElem?_cons_zero, List.getElem?_cons_succ] at c1 c4 c5 c6
          go_wp2
          exact bodyPost_ret (v := .bool (false)) (by simp [results, Tryz.results47, go_sem]) rfl ⟨rfl, by first | exact below_new _ _ | exact HW.out⟩
      · go_enter Tryz.func47, Tryz.ntmps47
        go_wp2_with (guard_target =~ wpList _ _ _ (Oper.mk (some 10) _ _ _ _ _ :: _) _ _; refine wpList_load_mid rfl _ _ rfl w.heap.size 0 rfl _ _ HB.out.range Tryz.underlying35 rfl ins_info ?_)
        go_at_call 56
        refine (H1.out _).mono ?_
        rintro e w1 ⟨rfl, hb⟩
        have HC := hidW (HB.out.below hb)
        have HW := hidW (Below.step (below_new _ _) hb)
        clear HB H1 hb
        have c1 := HC.out.cell 1
        have c4 := HC.out.cell 4
        have c5 := HC.out.cell 5
        have c6 := HC.out.cell 6
        dsimp only [List.getElem?_cons_zero, List.getElem?_cons_succ] at c1 c4 c5 c6
        go_wp2
        exact bodyPost_ret (v := .bool (false)) (by simp [results, Tryz.results47, go_sem]) rfl ⟨rfl, by first | exact below_new _ _ | exact HW.out⟩
  · cases jp
    · go_enter Tryz.func47, Tryz.ntmps47
      go_wp2
      exact bodyPost_ret (v := .bool (false)) (by simp [results, Tryz.results47, go_sem]) rfl ⟨rfl, by first | exact below_new _ _ | exact HW.out⟩
    · cases M
      · cases h3 : (jm == 15)
        · have g3 : (jm != 15) = true := by rw [bne, h3]; rfl
          cases h4 : (jd == 15)
          · have g4 : (jd != 15) = true := by rw [bne, h4]; rfl
            go_enter Tryz.func47, Tryz.ntmps47
            go_wp2_with (guard_target =~ wpList _ _ _ (Oper.mk (some 10) _ _ _ _ _ :: _) _ _; refine wpList_load_mid rfl _ _ rfl w.heap.size 0 rfl _ _ HB.out.range Tryz.underlying35 rfl ins_info ?_)
            go_at_call 56
            refine (H1.out _).mono ?_
            rintro e w1 ⟨rfl, hb⟩
            have HC := hidW (HB.out.below hb)
            have HW := hidW (Below.step (below_new _ _) hb)
            clear HB H1 hb
            have c1 := HC.out.cell 1
            have c4 := HC.out.cell 4
            have c5 := HC.out.cell 5
            have c6 := HC.out.cell 6
            dsimp only [List.getElem?_cons_zero, List.getElem?_cons_succ] at c1 c4 c5 c6
            go_wp2
            exact bodyPost_ret (v := .bool (true)) (by simp [results, Tryz.results47, go_sem]) rfl ⟨rfl, by first | exact below_new _ _ | exact HW.out⟩
          · have g4 : (jd != 15) = false := by rw [bne, h4]; rfl
            go_enter Tryz.func47, Tryz.ntmps47
            go_wp2_with (guard_target =~ wpList _ _ _ (Oper.mk (some 10) _ _ _ _ _ :: _) _ _; refine wpList_load_mid rfl _ _ rfl w.heap.size 0 rfl _ _ HB.out.range Tryz.underlying35 rfl ins_info ?_)
            go_at_call 56
            refine (H1.out _).mono ?_
            rintro e w1 ⟨rfl, hb⟩
            have HC := hidW (HB.out.below hb)
            have HW := hidW (Below.step (below_new _ _) hb)
            clear HB H1 hb
            have c1 := HC.out.cell 1
            have c4 := HC.out.cell 4
            have c5 := HC.out.cell 5
            have c6 := HC.out.cell 6
            dsimp only [List.getElem?_cons_zero, List.getElem?_cons_succ] at c1 c4 c5 c6
            go_wp2
            exact bodyPost_ret (v := .bool (jo == 31)) (by simp [results, Tryz.results47, go_sem]) rfl ⟨rfl, by first | exact below_new _ _ | exact HW.out⟩
        · have g3 : (jm != 15) = false := by rw [bne, h3]; rfl
          go_enter Tryz.func47, Tryz.ntmps47
          go_wp2_with (guard_target =~ wpList _ _ _ (Oper.mk (some 10) _ _ _ _ _ :: _) _ _; refine wpList_load_mid rfl _ _ rfl w.heap.size 0 rfl _ _ HB.out.range Tryz.underlying35 rfl ins_info ?_)
          go_at_call 56
          refine (H1.out _).mono ?_
          rintro e w1 ⟨rfl, hb⟩
          have HC := hidW (HB.out.below hb)
          have HW := hidW (Below.step (below_new _ _) hb)
          clear HB H1 hb
          have c1 := HC.out.cell 1
          have c4 := HC.out.cell 4
          have c5 := HC.out.cell 5
          have c6 := HC.out.cell 6
          dsimp only [List.getElem?_cons_zero, List.getElem?_cons_succ] at c1 c4 c5 c6
          go_wp2
          exact bodyPost_ret (v := .bool (false)) (by simp [results, Tryz.results47, go_sem]) rfl ⟨rfl, by first | exact below_new _ _ | exact HW.out⟩
      · cases h1 : (jn == 15)
        · cases h2 : (jn == jd)
          · cases h3 : (jm == 15)
            · have g3 : (jm != 15) = true := by rw [bne, h3]; rfl
              cases h4 : (jd == 15)
              · have g4 : (jd != 15) = true := by rw [bne, h4]; rfl
                go_enter Tryz.func47, Tryz.ntmps47
                go_wp2_with (guard_target =~ wpList _ _ _ (Oper.mk (some 10) _ _ _ _ _ :: _) _ _; refine wpList_load_mid rfl _ _ rfl w.heap.size 0 rfl _ _ HB.out.range Tryz.underlying35 rfl ins_info ?_)
                go_at_call 56
                refine (H1.out _).mono ?_
                rintro e w1 ⟨rfl, hb⟩
                have HC := hidW (HB.out.below hb)
                have HW := hidW (Below.step (below_new _ _) hb)
                clear HB H1 hb
                have c1 := HC.out.cell 1
                have c4 := HC.out.cell 4
                have c5 := HC.out.cell 5
                have c6 := HC.out.cell 6
                dsimp only [List.getElem?_cons_zero, List.getElem?_cons_succ] at c1 c4 c5 c6
                go_wp2
                exact bodyPost_ret (v := .bool (true)) (by simp [results, Tryz.results47, go_sem]) rfl ⟨rfl, by first | exact below_new _ _ | exact HW.out⟩
              · have g4 : (jd != 15) = false := by rw [bne, h4]; rfl
                go_enter Tryz.func47, Tryz.ntmps47
                go_wp2_with (guard_target =~ wpList _ _ _ (Oper.mk (some 10) _ _ _ _ _ :: _) _ _; refine wpList_load_mid rfl _ _ rfl w.heap.size 0 rfl _ _ HB.out.range Tryz.underlying35 rfl ins_info ?_)
                go_at_call 56
                refine (H1.out _).mono ?_
                rintro e w1 ⟨rfl, hb⟩
                have HC := hidW (HB.out.below hb)
                have HW := hidW (Below.step (below_new _ _) hb)
                clear HB H1 hb
                have c1 := HC.out.cell 1
                have c4 := HC.out.cell 4
                have c5 := HC.out.cell 5
                have c6 := HC.out.cell 6
                dsimp only [List.getElem?_cons_zero, List.getElem?_cons_succ] at c1 c4 c5 c6
                go_wp2
                exact bodyPost_ret (v := .bool (jo == 31)) (by simp [results, Tryz.results47, go_sem]) rfl ⟨rfl, by first | exact below_new _ _ | exact HW.out⟩
            · have g3 : (jm != 15) = false := by rw [bne, h3]; rfl
              go_enter Tryz.func47, Tryz.ntmps47
              go_wp2_with (guard_target =~ wpList _ _ _ (Oper.mk (some 10) _ _ _ _ _ :: _) _ _; refine wpList_load_mid rfl _ _ rfl w.heap.size 0 rfl _ _ HB.out.range Tryz.underlying35 rfl ins_info ?_)
              go_at_call 56
              refine (H1.out _).mono ?_
              rintro e w1 ⟨rfl, hb⟩
              have HC := hidW (HB.out.below hb)
              have HW := hidW (Below.step (below_new _ _) hb)
              clear HB H1 hb
              have c1 := HC.out.cell 1
              have c4 := HC.out.cell 4
              have c5 := HC.out.cell 5
              have c6 := HC.out.cell 6
              dsimp only [List.getElem?_cons_zero, List.getElem?_cons_succ] at c1 c4 c5 c6
              go_wp2
              exact bodyPost_ret (v := .bool (false)) (by simp [results, Tryz.results47, go_sem]) rfl ⟨rfl, by first | exact below_new _ _ | exact HW.out⟩
          · go_enter Tryz.func47, Tryz.ntmps47
            go_wp2_with (guard_target =~ wpList _ _ _ (Oper.mk (some 10) _ _ _ _ _ :: _) _ _; refine wpList_load_mid rfl _ _ rfl w.heap.size 0 rfl _ _ HB.out.range Tryz.underlying35 rfl ins_info ?_)
            go_at_call 56
            refine (H1.out _).mono ?_
            rintro e w1 ⟨rfl, hb⟩
            have HC := hidW (HB.out.below hb)
            have HW := hidW (Below.step (below_new _ _) hb)
            clear HB H1 hb
            have c1 := HC.out.cell 1
            have c4 := HC.out.cell 4
            have c5 := HC.out.cell 5
            have c6 := HC.out.cell 6
            dsimp only [List.getElem?_cons_zero, List.getElem?_cons_succ] at c1 c4 c5 c6
            go_wp2
            exact bodyPost_ret (v := .bool (false)) (by simp [results, Tryz.results47, go_sem]) rfl ⟨rfl, by first | exact below_new _ _ | exact HW.out⟩
        · go_enter Tryz.func47, Tryz.ntmps47
          go_wp2_with (guard_target =~ wpList _ _ _ (Oper.mk (some 10) _ _ _ _ _ :: _) _ _; refine wpList_load_mid rfl _ _ rfl w.heap.size 0 rfl _ _ HB.out.range Tryz.underlying35 rfl ins_info ?_)
          go_at_call 56
          refine (H1.out _).mono ?_
          rintro e w1 ⟨rfl, hb⟩
          have HC := hidW (HB.out.below hb)
          have HW := hidW (Below.step (below_new _ _) hb)
          clear HB H1 hb
          have c1 := HC.out.cell 1
          have c4 := HC.out.cell 4
          have c5 := HC.out.cell 5
          have c6 := HC.out.cell 6
          dsimp only [List.getElem?_cons_zero, List.getElem?_cons_succ] at c1 c4 c5 c6
          go_wp2
          exact bodyPost_ret (v := .bool (false)) (by simp [results, Tryz.results47, go_sem]) rfl ⟨rfl, by first | exact below_new _ _ | exact HW.out⟩
theorem band16 (x : Int) (hx : 0 ≤ x ∧ x < 65536) : bits .and .u16 x 1 = x % 2 := by
  rw [u16_and x 1 hx.1 hx.2 (by decide) (by decide)]
  obtain ⟨X, rfl⟩ := Int.eq_ofNat_of_zero_le hx.1
  have := Nat.and_two_pow_sub_one_eq_mod X 1
  rw [Int.toNat_natCast]
  show ((X &&& 1 : Nat) : Int) = _
  rw [show (1 : Nat) = 2 ^ 1 - 1 from rfl, this]
  rfl
theorem shr16 (x : Int) (n : Nat) (hx : 0 ≤ x ∧ x < 65536) : 0 ≤ x / 2 ^ n ∧ x / 2 ^ n < 65536 := by
  have h := pow_pos n
  refine ⟨Int.ediv_nonneg hx.1 (by omega), ?_⟩
  have := Int.ediv_le_self (2 ^ n) hx.1
  omega
set_option maxRecDepth 100000 in
set_option maxHeartbeats 1000000 in
theorem gmanyMay_any (i : Ins) (w : World) (hl : 0 ≤ i.list ∧ i.list < 65536) (hn : 0 ≤ i.rn ∧ i.rn < 16) : Calls Tryz.prog 48 #[.agg (insA i)] w fun e w' => e = .returned (.bool (manyMayP i)) ∧ Below w.heap.size w w' := by
  have em : manyMayP i = (!(i.list == 0 || i.rn == 15) && (!(i.write && lsP i.list i.rn) && (i.op == 39 || !lsP i.list 15))) := rfl
  rw [em]
  clear em
  have e1 : (bits .and .u16 (i.list / 2 ^ i.rn.toNat) 1 == 1) = lsP i.list i.rn := by rw [band16 _ (shr16 _ _ hl)]; rfl
  have e2 : (bits .and .u16 (i.list / 32768) 1 == 0) = !lsP i.list 15 := by
    have := shr16 i.list 15 hl
    rw [show (i.list / 32768) = i.list / 2 ^ 15 from rfl, band16 _ this]
    show _ = !(i.list / 2 ^ 15 % 2 == 1)
    generalize i.list / 2 ^ 15 = q
    show _ = !(q % 2 == 1)
    rcases (by omega : q % 2 = 0 ∨ q % 2 = 1) with h | h <;> rw [h] <;> rfl
  generalize lsP i.list i.rn = A at *
  generalize lsP i.list 15 = B at *
  obtain ⟨jc, jo, js, jf, jd, jn, jm, jr, ja, ji, jt, jk, jp, ju, jw, jl, jx, jy, jz, jv⟩ := i
  show Calls Tryz.prog 48 #[.agg #[.int .i64 jc, .int .i64 jo, .bool js, .int .i64 jf, .int .i64 jd, .int .i64 jn, .int .i64 jm, .int .i64 jr, .int .i64 ja, .int .u32 ji, .int .i64 jt, .int .i64 jk, .bool jp, .bool ju, .bool jw, .int .u16 jl, .int .i64 jx, .int .i64 jy, .int .i64 jz, .int .i64 jv]] w fun e w' => e = .returned (.bool (!(jl == 0 || jn == 15) && (!(jw && A) && (jo == 39 || !B)))) ∧ Below w.heap.size w w'
  dsimp only at e1 e2 hl hn
  obtain ⟨hl1, hl2⟩ := hl
  obtain ⟨hn1, hn2⟩ := hn
  cases h1 : (jl == 0)
  · cases h2 : (jn == 15)
    · cases jw
      · cases h3 : (jo == 39)
        · go_enter Tryz.func48, Tryz.ntmps48
          go_wp2
          exact bodyPost_ret (v := .bool (!B)) (by simp [results, Tryz.results48, go_sem]) rfl ⟨rfl, by first | exact below_new _ _ | exact HW.out⟩
        · go_enter Tryz.func48, Tryz.ntmps48
          go_wp2
          exact bodyPost_ret (v := .bool (true)) (by simp [results, Tryz.results48, go_sem]) rfl ⟨rfl, by first | exact below_new _ _ | exact HW.out⟩
      · cases A
        · cases h3 : (jo == 39)
          · go_enter Tryz.func48, Tryz.ntmps48
            go_wp2
            exact bodyPost_ret (v := .bool (!B)) (by simp [results, Tryz.results48, go_sem]) rfl ⟨rfl, by first | exact below_new _ _ | exact HW.out⟩
          · go_enter Tryz.func48, Tryz.ntmps48
            go_wp2
            exact bodyPost_ret (v := .bool (true)) (by simp [results, Tryz.results48, go_sem]) rfl ⟨rfl, by first | exact below_new _ _ | exact HW.out⟩
        · go_enter Tryz.func48, Tryz.ntmps48
          go_wp2
          exact bodyPost_ret (v := .bool (false)) (by simp [results, Tryz.results48, go_sem]) rfl ⟨rfl, by first | exact below_new _ _ | exact HW.out⟩
    · go_enter Tryz.func48, Tryz.ntmps48
      go_wp2
      exact bodyPost_ret (v := .bool (false)) (by simp [results, Tryz.results48, go_sem]) rfl ⟨rfl, by first | exact below_new _ _ | exact HW.out⟩
  · go_enter Tryz.func48, Tryz.ntmps48
    go_wp2
    exact bodyPost_ret (v := .bool (false)) (by simp [results, Tryz.results48, go_sem]) rfl ⟨rfl, by first | exact below_new _ _ | exact HW.out⟩
end Go.Proofs.YtilhceajhlaojaaGreatDoor.Is

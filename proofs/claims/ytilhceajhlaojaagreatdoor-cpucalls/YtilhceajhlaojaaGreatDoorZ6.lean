import Derived.Test.YtilhceajhlaojaaGreatDoorIGc
import Derived.Test.YtilhceajhlaojaaGreatDoorZ0
import Derived.Test.YtilhceajhlaojaaGreatDoorZ1
namespace Go.Proofs.YtilhceajhlaojaaGreatDoor.Is
open Go.RowKit
set_option linter.unusedVariables false
set_option linter.unusedSimpArgs false
theorem sl_new (w : World) (l : List Int) (h : l.length ≤ 100) : Sl (w.alloc (.cells (l.map fun n => Value.int .i64 n).toArray 3)) w.heap.size l := ⟨Bl.new _ _ _, h⟩
theorem pc_new (w : World) (o : Obj) (a b c d : Int) : Calls Tryz.prog 44 #[.slice (some ⟨w.heap.size + 1, 0, none⟩) 4 4] ((w.alloc o).alloc (.cells #[.int .i64 a, .int .i64 b, .int .i64 c, .int .i64 d] 3)) fun e w' => e = .returned (.bool (a == 15 || (b == 15 || (c == 15 || d == 15)))) ∧ w' = (w.alloc o).alloc (.cells #[.int .i64 a, .int .i64 b, .int .i64 c, .int .i64 d] 3) := by
  have hs := sl_new (w.alloc o) [a, b, c, d] (by show 4 ≤ 100; decide)
  have e : (w.alloc o).heap.size = w.heap.size + 1 := by simp
  rw [e] at hs
  refine (gisPC_any (w.heap.size + 1) [a, b, c, d] _ hs).mono ?_
  rintro e w' ⟨rfl, rfl⟩
  refine ⟨?_, rfl⟩
  have h : ∀ x : Int, ((15 : Int) == x) = (x == 15) := fun x => Bool.eq_iff_iff.2 ⟨fun h => by simpa using (beq_iff_eq.1 h).symm, fun h => by simpa using (beq_iff_eq.1 h).symm⟩
  simp only [List.contains_cons, List.contains_nil, Bool.or_false, h]
set_option maxRecDepth 100000 in
set_option maxHeartbeats 1000000 in
theorem gmay_1 (i : Ins) (w : World) (h1 : i.cond = 15) : Calls Tryz.prog 30 #[.agg (insA i)] w fun e w' => e = .returned (.bool false) ∧ Below w.heap.size w w' := by
  obtain ⟨jc, jo, js, jf, jd, jn, jm, jr, ja, ji, jt, jk, jp, ju, jw, jl, jx, jy, jz, jv⟩ := i
  obtain rfl : jc = 15 := h1
  change Calls Tryz.prog 30 #[.agg #[.int .i64 15, .int .i64 jo, .bool js, .int .i64 jf, .int .i64 jd, .int .i64 jn, .int .i64 jm, .int .i64 jr, .int .i64 ja, .int .u32 ji, .int .i64 jt, .int .i64 jk, .bool jp, .bool ju, .bool jw, .int .u16 jl, .int .i64 jx, .int .i64 jy, .int .i64 jz, .int .i64 jv]] w fun e w' => e = .returned (.bool false) ∧ Below w.heap.size w w'
  go_enter Tryz.func30, Tryz.ntmps30
  go_wp2
  exact bodyPost_ret (v := .bool false) (by simp [results, Tryz.results30, go_sem]) rfl ⟨rfl, below_new _ _⟩
set_option maxRecDepth 100000 in
set_option maxHeartbeats 1000000 in
theorem gmay_2 (i : Ins) (w : World) (h1 : ¬ i.cond = 15) (h2 : i.form = 3) : Calls Tryz.prog 30 #[.agg (insA i)] w fun e w' => e = .returned (.bool (!(i.rd == 15 || (i.rn == 15 || (i.rm == 15 || i.rs == 15))))) ∧ Below w.heap.size w w' := by
  obtain ⟨jc, jo, js, jf, jd, jn, jm, jr, ja, ji, jt, jk, jp, ju, jw, jl, jx, jy, jz, jv⟩ := i
  change ¬ jc = 15 at h1
  have b1 : (jc == 15) = false := beq_eq_false_iff_ne.2 h1
  clear h1
  change jf = 3 at h2
  have b2 : (jf == 3) = true := beq_iff_eq.2 h2
  clear h2
  change Calls Tryz.prog 30 #[.agg #[.int .i64 jc, .int .i64 jo, .bool js, .int .i64 jf, .int .i64 jd, .int .i64 jn, .int .i64 jm, .int .i64 jr, .int .i64 ja, .int .u32 ji, .int .i64 jt, .int .i64 jk, .bool jp, .bool ju, .bool jw, .int .u16 jl, .int .i64 jx, .int .i64 jy, .int .i64 jz, .int .i64 jv]] w fun e w' => e = .returned (.bool (!(jd == 15 || (jn == 15 || (jm == 15 || jr == 15))))) ∧ Below w.heap.size w w'
  have HP : Hid _ := pc_new w (.cells ([.int .i64 jc, .int .i64 jo, .bool js, .int .i64 jf, .int .i64 jd, .int .i64 jn, .int .i64 jm, .int .i64 jr, .int .i64 ja, .int .u32 ji, .int .i64 jt, .int .i64 jk, .bool jp, .bool ju, .bool jw, .int .u16 jl, .int .i64 jx, .int .i64 jy, .int .i64 jz, .int .i64 jv]).toArray 35) jd jn jm jr
  generalize (jd == 15 || (jn == 15 || (jm == 15 || jr == 15))) = PC at *
  go_enter Tryz.func30, Tryz.ntmps30
  go_wp2_with (go_at_call 44; refine Calls.mono HP.out ?_; rintro e w1 ⟨rfl, rfl⟩; clear HP)
  exact bodyPost_ret (v := .bool (!PC)) (by simp [results, Tryz.results30, go_sem]) rfl ⟨rfl, Below.step (below_new _ _) (below_new _ _)⟩
set_option maxRecDepth 100000 in
set_option maxHeartbeats 1000000 in
theorem gmay_3 (i : Ins) (w : World) (h1 : ¬ i.cond = 15) (h2 : ¬ i.form = 3) (h3 : 17 ≤ i.op ∧ i.op ≤ 30) : Calls Tryz.prog 30 #[.agg (insA i)] w fun e w' => e = .returned (.bool (!(i.rd == 15 || (i.rm == 15 || (i.rs == 15 || i.ra == 15))) && !(isLongP i.op && i.rd == i.ra))) ∧ Below w.heap.size w w' := by
  obtain ⟨jc, jo, js, jf, jd, jn, jm, jr, ja, ji, jt, jk, jp, ju, jw, jl, jx, jy, jz, jv⟩ := i
  change ¬ jc = 15 at h1
  have b1 : (jc == 15) = false := beq_eq_false_iff_ne.2 h1
  clear h1
  change ¬ jf = 3 at h2
  have b2 : (jf == 3) = false := beq_eq_false_iff_ne.2 h2
  clear h2
  change 17 ≤ jo ∧ jo ≤ 30 at h3
  have b3 : decide (17 ≤ jo) = true := decide_eq_true h3.1
  have b4 : decide (jo ≤ 30) = true := decide_eq_true h3.2
  obtain ⟨c3, c4⟩ := h3
  change Calls Tryz.prog 30 #[.agg #[.int .i64 jc, .int .i64 jo, .bool js, .int .i64 jf, .int .i64 jd, .int .i64 jn, .int .i64 jm, .int .i64 jr, .int .i64 ja, .int .u32 ji, .int .i64 jt, .int .i64 jk, .bool jp, .bool ju, .bool jw, .int .u16 jl, .int .i64 jx, .int .i64 jy, .int .i64 jz, .int .i64 jv]] w fun e w' => e = .returned (.bool (!(jd == 15 || (jm == 15 || (jr == 15 || ja == 15))) && !(isLongP jo && jd == ja))) ∧ Below w.heap.size w w'
  have HP : Hid _ := pc_new w (.cells ([.int .i64 jc, .int .i64 jo, .bool js, .int .i64 jf, .int .i64 jd, .int .i64 jn, .int .i64 jm, .int .i64 jr, .int .i64 ja, .int .u32 ji, .int .i64 jt, .int .i64 jk, .bool jp, .bool ju, .bool jw, .int .u16 jl, .int .i64 jx, .int .i64 jy, .int .i64 jz, .int .i64 jv]).toArray 35) jd jm jr ja
  have HL : Hid (∀ w, Calls Tryz.prog 45 #[.int .i64 jo] w fun e w' => e = .returned (.bool (isLongP jo)) ∧ w' = w) := fun w => gisLong_any jo w
  generalize (jd == 15 || (jm == 15 || (jr == 15 || ja == 15))) = PC at *
  generalize isLongP jo = IL at *
  cases PC
  · cases IL
    · go_enter Tryz.func30, Tryz.ntmps30
      go_wp2_with (first | (go_at_call 44; refine Calls.mono HP.out ?_; rintro e w1 ⟨rfl, rfl⟩; clear HP) | (go_at_call 45; refine (HL.out _).mono ?_; rintro e w' ⟨rfl, rfl⟩))
      exact bodyPost_ret (v := .bool true) (by simp [results, Tryz.results30, go_sem]) rfl ⟨rfl, Below.step (below_new _ _) (below_new _ _)⟩
    · go_enter Tryz.func30, Tryz.ntmps30
      go_wp2_with (first | (go_at_call 44; refine Calls.mono HP.out ?_; rintro e w1 ⟨rfl, rfl⟩; clear HP) | (go_at_call 45; refine (HL.out _).mono ?_; rintro e w' ⟨rfl, rfl⟩))
      exact bodyPost_ret (v := .bool (!(jd == ja))) (by simp [results, Tryz.results30, go_sem]) rfl ⟨rfl, Below.step (below_new _ _) (below_new _ _)⟩
  · go_enter Tryz.func30, Tryz.ntmps30
    go_wp2_with (go_at_call 44; refine Calls.mono HP.out ?_; rintro e w1 ⟨rfl, rfl⟩; clear HP)
    exact bodyPost_ret (v := .bool false) (by simp [results, Tryz.results30, go_sem]) rfl ⟨rfl, Below.step (below_new _ _) (below_new _ _)⟩
set_option maxRecDepth 100000 in
set_option maxHeartbeats 1000000 in
theorem gmay_4 (i : Ins) (w : World) (h1 : ¬ i.cond = 15) (h2 : ¬ i.form = 3) (h3 : 31 ≤ i.op ∧ i.op ≤ 38) : Calls Tryz.prog 30 #[.agg (insA i)] w fun e w' => e = .returned (.bool (oneMayP i)) ∧ Below w.heap.size w w' := by
  have HO : Hid (∀ w, Calls Tryz.prog 47 #[.agg (insA i)] w fun e w' => e = .returned (.bool (oneMayP i)) ∧ Below w.heap.size w w') := fun w => goneMay_any i w
  have HB := hidW (ins_bl w i)
  generalize oneMayP i = R at *
  obtain ⟨jc, jo, js, jf, jd, jn, jm, jr, ja, ji, jt, jk, jp, ju, jw, jl, jx, jy, jz, jv⟩ := i
  change ¬ jc = 15 at h1
  have b1 : (jc == 15) = false := beq_eq_false_iff_ne.2 h1
  clear h1
  change ¬ jf = 3 at h2
  have b2 : (jf == 3) = false := beq_eq_false_iff_ne.2 h2
  clear h2
  change 31 ≤ jo ∧ jo ≤ 38 at h3
  have b3 : decide (17 ≤ jo) = true := decide_eq_true (by omega)
  have b4 : decide (jo ≤ 30) = false := decide_eq_false (by omega)
  have e1 : isOneP jo = true := by rw [isOneP]; simp [h3.1, h3.2]
  obtain ⟨c3, c4⟩ := h3
  have c5 : 17 ≤ jo := by omega
  have c6 : ¬ jo ≤ 30 := by omega
  have HI : Hid (∀ w, Calls Tryz.prog 46 #[.int .i64 jo] w fun e w' => e = .returned (.bool true) ∧ w' = w) := fun w => by rw [← e1]; exact gisOne_any jo w
  clear e1
  change Calls Tryz.prog 30 #[.agg #[.int .i64 jc, .int .i64 jo, .bool js, .int .i64 jf, .int .i64 jd, .int .i64 jn, .int .i64 jm, .int .i64 jr, .int .i64 ja, .int .u32 ji, .int .i64 jt, .int .i64 jk, .bool jp, .bool ju, .bool jw, .int .u16 jl, .int .i64 jx, .int .i64 jy, .int .i64 jz, .int .i64 jv]] w fun e w' => e = .returned (.bool R) ∧ Below w.heap.size w w'
  change Hid (∀ w, Calls Tryz.prog 47 #[.agg #[.int .i64 jc, .int .i64 jo, .bool js, .int .i64 jf, .int .i64 jd, .int .i64 jn, .int .i64 jm, .int .i64 jr, .int .i64 ja, .int .u32 ji, .int .i64 jt, .int .i64 jk, .bool jp, .bool ju, .bool jw, .int .u16 jl, .int .i64 jx, .int .i64 jy, .int .i64 jz, .int .i64 jv]] w fun e w' => e = .returned (.bool R) ∧ Below w.heap.size w w') at HO
  change Hid (Bl (w.alloc (.cells ([.int .i64 jc, .int .i64 jo, .bool js, .int .i64 jf, .int .i64 jd, .int .i64 jn, .int .i64 jm, .int .i64 jr, .int .i64 ja, .int .u32 ji, .int .i64 jt, .int .i64 jk, .bool jp, .bool ju, .bool jw, .int .u16 jl, .int .i64 jx, .int .i64 jy, .int .i64 jz, .int .i64 jv]).toArray 35)) w.heap.size 35 ([.int .i64 jc, .int .i64 jo, .bool js, .int .i64 jf, .int .i64 jd, .int .i64 jn, .int .i64 jm, .int .i64 jr, .int .i64 ja, .int .u32 ji, .int .i64 jt, .int .i64 jk, .bool jp, .bool ju, .bool jw, .int .u16 jl, .int .i64 jx, .int .i64 jy, .int .i64 jz, .int .i64 jv])) at HB
  go_enter Tryz.func30, Tryz.ntmps30
  go_wp2_with (first | (go_at_call 46; refine (HI.out _).mono ?_; rintro e w' ⟨rfl, rfl⟩) | (guard_target =~ wpList _ _ _ (Oper.mk (some 59) _ _ _ _ _ :: _) _ _; refine wpList_load_mid rfl _ _ rfl w.heap.size 0 rfl _ _ HB.out.range Tryz.underlying35 rfl ins_info ?_))
  go_at_call 47
  refine (HO.out _).mono ?_
  rintro e w1 ⟨rfl, hb⟩
  have HW := hidW (Below.step (below_new _ _) hb)
  clear HB HO hb
  go_wp2
  exact bodyPost_ret (v := .bool R) (by simp [results, Tryz.results30, go_sem]) rfl ⟨rfl, HW.out⟩
set_option maxRecDepth 100000 in
set_option maxHeartbeats 1000000 in
theorem gmay_39 (i : Ins) (w : World) (h1 : ¬ i.cond = 15) (h2 : ¬ i.form = 3) (h3 : i.op = 39) (hl : 0 ≤ i.list ∧ i.list < 65536) (hn : 0 ≤ i.rn ∧ i.rn < 16) : Calls Tryz.prog 30 #[.agg (insA i)] w fun e w' => e = .returned (.bool (manyMayP i)) ∧ Below w.heap.size w w' := by
  have HO : Hid (∀ w, Calls Tryz.prog 48 #[.agg (insA i)] w fun e w' => e = .returned (.bool (manyMayP i)) ∧ Below w.heap.size w w') := fun w => gmanyMay_any i w hl hn
  have HB := hidW (ins_bl w i)
  generalize manyMayP i = R at *
  clear hl hn
  obtain ⟨jc, jo, js, jf, jd, jn, jm, jr, ja, ji, jt, jk, jp, ju, jw, jl, jx, jy, jz, jv⟩ := i
  change ¬ jc = 15 at h1
  have b1 : (jc == 15) = false := beq_eq_false_iff_ne.2 h1
  clear h1
  change ¬ jf = 3 at h2
  have b2 : (jf == 3) = false := beq_eq_false_iff_ne.2 h2
  clear h2
  obtain rfl : jo = 39 := h3
  have HI : Hid (∀ w, Calls Tryz.prog 46 #[.int .i64 39] w fun e w' => e = .returned (.bool false) ∧ w' = w) := fun w => gisOne_any 39 w
  change Calls Tryz.prog 30 #[.agg #[.int .i64 jc, .int .i64 39, .bool js, .int .i64 jf, .int .i64 jd, .int .i64 jn, .int .i64 jm, .int .i64 jr, .int .i64 ja, .int .u32 ji, .int .i64 jt, .int .i64 jk, .bool jp, .bool ju, .bool jw, .int .u16 jl, .int .i64 jx, .int .i64 jy, .int .i64 jz, .int .i64 jv]] w fun e w' => e = .returned (.bool R) ∧ Below w.heap.size w w'
  change Hid (∀ w, Calls Tryz.prog 48 #[.agg #[.int .i64 jc, .int .i64 39, .bool js, .int .i64 jf, .int .i64 jd, .int .i64 jn, .int .i64 jm, .int .i64 jr, .int .i64 ja, .int .u32 ji, .int .i64 jt, .int .i64 jk, .bool jp, .bool ju, .bool jw, .int .u16 jl, .int .i64 jx, .int .i64 jy, .int .i64 jz, .int .i64 jv]] w fun e w' => e = .returned (.bool R) ∧ Below w.heap.size w w') at HO
  change Hid (Bl (w.alloc (.cells ([.int .i64 jc, .int .i64 39, .bool js, .int .i64 jf, .int .i64 jd, .int .i64 jn, .int .i64 jm, .int .i64 jr, .int .i64 ja, .int .u32 ji, .int .i64 jt, .int .i64 jk, .bool jp, .bool ju, .bool jw, .int .u16 jl, .int .i64 jx, .int .i64 jy, .int .i64 jz, .int .i64 jv]).toArray 35)) w.heap.size 35 ([.int .i64 jc, .int .i64 39, .bool js, .int .i64 jf, .int .i64 jd, .int .i64 jn, .int .i64 jm, .int .i64 jr, .int .i64 ja, .int .u32 ji, .int .i64 jt, .int .i64 jk, .bool jp, .bool ju, .bool jw, .int .u16 jl, .int .i64 jx, .int .i64 jy, .int .i64 jz, .int .i64 jv])) at HB
  go_enter Tryz.func30, Tryz.ntmps30
  go_wp2_with (first | (go_at_call 46; refine (HI.out _).mono ?_; rintro e w' ⟨rfl, rfl⟩) | (guard_target =~ wpList _ _ _ (Oper.mk (some 66) _ _ _ _ _ :: _) _ _; refine wpList_load_mid rfl _ _ rfl w.heap.size 0 rfl _ _ HB.out.range Tryz.underlying35 rfl ins_info ?_))
  go_at_call 48
  refine (HO.out _).mono ?_
  rintro e w1 ⟨rfl, hb⟩
  have HW := hidW (Below.step (below_new _ _) hb)
  clear HB HO hb
  go_wp2
  exact bodyPost_ret (v := .bool R) (by simp [results, Tryz.results30, go_sem]) rfl ⟨rfl, HW.out⟩
set_option maxRecDepth 100000 in
set_option maxHeartbeats 1000000 in
theorem gmay_40 (i : Ins) (w : World) (h1 : ¬ i.cond = 15) (h2 : ¬ i.form = 3) (h3 : i.op = 40) (hl : 0 ≤ i.list ∧ i.list < 65536) (hn : 0 ≤ i.rn ∧ i.rn < 16) : Calls Tryz.prog 30 #[.agg (insA i)] w fun e w' => e = .returned (.bool (manyMayP i)) ∧ Below w.heap.size w w' := by
  have HO : Hid (∀ w, Calls Tryz.prog 48 #[.agg (insA i)] w fun e w' => e = .returned (.bool (manyMayP i)) ∧ Below w.heap.size w w') := fun w => gmanyMay_any i w hl hn
  have HB := hidW (ins_bl w i)
  generalize manyMayP i = R at *
  clear hl hn
  obtain ⟨jc, jo, js, jf, jd, jn, jm, jr, ja, ji, jt, jk, jp, ju, jw, jl, jx, jy, jz, jv⟩ := i
  change ¬ jc = 15 at h1
  have b1 : (jc == 15) = false := beq_eq_false_iff_ne.2 h1
  clear h1
  change ¬ jf = 3 at h2
  have b2 : (jf == 3) = false := beq_eq_false_iff_ne.2 h2
  clear h2
  obtain rfl : jo = 40 := h3
  have HI : Hid (∀ w, Calls Tryz.prog 46 #[.int .i64 40] w fun e w' => e = .returned (.bool false) ∧ w' = w) := fun w => gisOne_any 40 w
  change Calls Tryz.prog 30 #[.agg #[.int .i64 jc, .int .i64 40, .bool js, .int .i64 jf, .int .i64 jd, .int .i64 jn, .int .i64 jm, .int .i64 jr, .int .i64 ja, .int .u32 ji, .int .i64 jt, .int .i64 jk, .bool jp, .bool ju, .bool jw, .int .u16 jl, .int .i64 jx, .int .i64 jy, .int .i64 jz, .int .i64 jv]] w fun e w' => e = .returned (.bool R) ∧ Below w.heap.size w w'
  change Hid (∀ w, Calls Tryz.prog 48 #[.agg #[.int .i64 jc, .int .i64 40, .bool js, .int .i64 jf, .int .i64 jd, .int .i64 jn, .int .i64 jm, .int .i64 jr, .int .i64 ja, .int .u32 ji, .int .i64 jt, .int .i64 jk, .bool jp, .bool ju, .bool jw, .int .u16 jl, .int .i64 jx, .int .i64 jy, .int .i64 jz, .int .i64 jv]] w fun e w' => e = .returned (.bool R) ∧ Below w.heap.size w w') at HO
  change Hid (Bl (w.alloc (.cells ([.int .i64 jc, .int .i64 40, .bool js, .int .i64 jf, .int .i64 jd, .int .i64 jn, .int .i64 jm, .int .i64 jr, .int .i64 ja, .int .u32 ji, .int .i64 jt, .int .i64 jk, .bool jp, .bool ju, .bool jw, .int .u16 jl, .int .i64 jx, .int .i64 jy, .int .i64 jz, .int .i64 jv]).toArray 35)) w.heap.size 35 ([.int .i64 jc, .int .i64 40, .bool js, .int .i64 jf, .int .i64 jd, .int .i64 jn, .int .i64 jm, .int .i64 jr, .int .i64 ja, .int .u32 ji, .int .i64 jt, .int .i64 jk, .bool jp, .bool ju, .bool jw, .int .u16 jl, .int .i64 jx, .int .i64 jy, .int .i64 jz, .int .i64 jv])) at HB
  go_enter Tryz.func30, Tryz.ntmps30
  go_wp2_with (first | (go_at_call 46; refine (HI.out _).mono ?_; rintro e w' ⟨rfl, rfl⟩) | (guard_target =~ wpList _ _ _ (Oper.mk (some 66) _ _ _ _ _ :: _) _ _; refine wpList_load_mid rfl _ _ rfl w.heap.size 0 rfl _ _ HB.out.range Tryz.underlying35 rfl ins_info ?_))
  go_at_call 48
  refine (HO.out _).mono ?_
  rintro e w1 ⟨rfl, hb⟩
  have HW := hidW (Below.step (below_new _ _) hb)
  clear HB HO hb
  go_wp2
  exact bodyPost_ret (v := .bool R) (by simp [results, Tryz.results30, go_sem]) rfl ⟨rfl, HW.out⟩
set_option maxRecDepth 100000 in
set_option maxHeartbeats 1000000 in
theorem gmay_43 (i : Ins) (w : World) (h1 : ¬ i.cond = 15) (h2 : ¬ i.form = 3) (h3 : i.op = 43) : Calls Tryz.prog 30 #[.agg (insA i)] w fun e w' => e = .returned (.bool (!(i.rm == 15))) ∧ Below w.heap.size w w' := by
  obtain ⟨jc, jo, js, jf, jd, jn, jm, jr, ja, ji, jt, jk, jp, ju, jw, jl, jx, jy, jz, jv⟩ := i
  change ¬ jc = 15 at h1
  have b1 : (jc == 15) = false := beq_eq_false_iff_ne.2 h1
  clear h1
  change ¬ jf = 3 at h2
  have b2 : (jf == 3) = false := beq_eq_false_iff_ne.2 h2
  clear h2
  obtain rfl : jo = 43 := h3
  change Calls Tryz.prog 30 #[.agg #[.int .i64 jc, .int .i64 43, .bool js, .int .i64 jf, .int .i64 jd, .int .i64 jn, .int .i64 jm, .int .i64 jr, .int .i64 ja, .int .u32 ji, .int .i64 jt, .int .i64 jk, .bool jp, .bool ju, .bool jw, .int .u16 jl, .int .i64 jx, .int .i64 jy, .int .i64 jz, .int .i64 jv]] w fun e w' => e = .returned (.bool (!(jm == 15))) ∧ Below w.heap.size w w'
  have HI : Hid (∀ w, Calls Tryz.prog 46 #[.int .i64 43] w fun e w' => e = .returned (.bool false) ∧ w' = w) := fun w => gisOne_any 43 w
  go_enter Tryz.func30, Tryz.ntmps30
  go_wp2_with (first | (go_at_call 46; refine (HI.out _).mono ?_; rintro e w' ⟨rfl, rfl⟩))
  exact bodyPost_ret (v := .bool (!(jm == 15))) (by simp [results, Tryz.results30, go_sem, bne]) rfl ⟨rfl, below_new _ _⟩
set_option maxRecDepth 100000 in
set_option maxHeartbeats 1000000 in
theorem gmay_44 (i : Ins) (w : World) (h1 : ¬ i.cond = 15) (h2 : ¬ i.form = 3) (h3 : i.op = 44) : Calls Tryz.prog 30 #[.agg (insA i)] w fun e w' => e = .returned (.bool (!(i.rm == 15))) ∧ Below w.heap.size w w' := by
  obtain ⟨jc, jo, js, jf, jd, jn, jm, jr, ja, ji, jt, jk, jp, ju, jw, jl, jx, jy, jz, jv⟩ := i
  change ¬ jc = 15 at h1
  have b1 : (jc == 15) = false := beq_eq_false_iff_ne.2 h1
  clear h1
  change ¬ jf = 3 at h2
  have b2 : (jf == 3) = false := beq_eq_false_iff_ne.2 h2
  clear h2
  obtain rfl : jo = 44 := h3
  change Calls Tryz.prog 30 #[.agg #[.int .i64 jc, .int .i64 44, .bool js, .int .i64 jf, .int .i64 jd, .int .i64 jn, .int .i64 jm, .int .i64 jr, .int .i64 ja, .int .u32 ji, .int .i64 jt, .int .i64 jk, .bool jp, .bool ju, .bool jw, .int .u16 jl, .int .i64 jx, .int .i64 jy, .int .i64 jz, .int .i64 jv]] w fun e w' => e = .returned (.bool (!(jm == 15))) ∧ Below w.heap.size w w'
  have HI : Hid (∀ w, Calls Tryz.prog 46 #[.int .i64 44] w fun e w' => e = .returned (.bool false) ∧ w' = w) := fun w => gisOne_any 44 w
  go_enter Tryz.func30, Tryz.ntmps30
  go_wp2_with (first | (go_at_call 46; refine (HI.out _).mono ?_; rintro e w' ⟨rfl, rfl⟩))
  exact bodyPost_ret (v := .bool (!(jm == 15))) (by simp [results, Tryz.results30, go_sem, bne]) rfl ⟨rfl, below_new _ _⟩
set_option maxRecDepth 100000 in
set_option maxHeartbeats 1000000 in
theorem gmay_47 (i : Ins) (w : World) (h1 : ¬ i.cond = 15) (h2 : ¬ i.form = 3) (h3 : i.op = 47) : Calls Tryz.prog 30 #[.agg (insA i)] w fun e w' => e = .returned (.bool (!(i.rd == 15))) ∧ Below w.heap.size w w' := by
  obtain ⟨jc, jo, js, jf, jd, jn, jm, jr, ja, ji, jt, jk, jp, ju, jw, jl, jx, jy, jz, jv⟩ := i
  change ¬ jc = 15 at h1
  have b1 : (jc == 15) = false := beq_eq_false_iff_ne.2 h1
  clear h1
  change ¬ jf = 3 at h2
  have b2 : (jf == 3) = false := beq_eq_false_iff_ne.2 h2
  clear h2
  obtain rfl : jo = 47 := h3
  change Calls Tryz.prog 30 #[.agg #[.int .i64 jc, .int .i64 47, .bool js, .int .i64 jf, .int .i64 jd, .int .i64 jn, .int .i64 jm, .int .i64 jr, .int .i64 ja, .int .u32 ji, .int .i64 jt, .int .i64 jk, .bool jp, .bool ju, .bool jw, .int .u16 jl, .int .i64 jx, .int .i64 jy, .int .i64 jz, .int .i64 jv]] w fun e w' => e = .returned (.bool (!(jd == 15))) ∧ Below w.heap.size w w'
  have HI : Hid (∀ w, Calls Tryz.prog 46 #[.int .i64 47] w fun e w' => e = .returned (.bool false) ∧ w' = w) := fun w => gisOne_any 47 w
  go_enter Tryz.func30, Tryz.ntmps30
  go_wp2_with (first | (go_at_call 46; refine (HI.out _).mono ?_; rintro e w' ⟨rfl, rfl⟩))
  exact bodyPost_ret (v := .bool (!(jd == 15))) (by simp [results, Tryz.results30, go_sem, bne]) rfl ⟨rfl, below_new _ _⟩
set_option maxRecDepth 100000 in
set_option maxHeartbeats 1000000 in
theorem gmay_49 (i : Ins) (w : World) (h1 : ¬ i.cond = 15) (h2 : ¬ i.form = 3) (h3 : i.op = 49) : Calls Tryz.prog 30 #[.agg (insA i)] w fun e w' => e = .returned (.bool (!(i.rd == 15))) ∧ Below w.heap.size w w' := by
  obtain ⟨jc, jo, js, jf, jd, jn, jm, jr, ja, ji, jt, jk, jp, ju, jw, jl, jx, jy, jz, jv⟩ := i
  change ¬ jc = 15 at h1
  have b1 : (jc == 15) = false := beq_eq_false_iff_ne.2 h1
  clear h1
  change ¬ jf = 3 at h2
  have b2 : (jf == 3) = false := beq_eq_false_iff_ne.2 h2
  clear h2
  obtain rfl : jo = 49 := h3
  change Calls Tryz.prog 30 #[.agg #[.int .i64 jc, .int .i64 49, .bool js, .int .i64 jf, .int .i64 jd, .int .i64 jn, .int .i64 jm, .int .i64 jr, .int .i64 ja, .int .u32 ji, .int .i64 jt, .int .i64 jk, .bool jp, .bool ju, .bool jw, .int .u16 jl, .int .i64 jx, .int .i64 jy, .int .i64 jz, .int .i64 jv]] w fun e w' => e = .returned (.bool (!(jd == 15))) ∧ Below w.heap.size w w'
  have HI : Hid (∀ w, Calls Tryz.prog 46 #[.int .i64 49] w fun e w' => e = .returned (.bool false) ∧ w' = w) := fun w => gisOne_any 49 w
  go_enter Tryz.func30, Tryz.ntmps30
  go_wp2_with (first | (go_at_call 46; refine (HI.out _).mono ?_; rintro e w' ⟨rfl, rfl⟩))
  exact bodyPost_ret (v := .bool (!(jd == 15))) (by simp [results, Tryz.results30, go_sem, bne]) rfl ⟨rfl, below_new _ _⟩
set_option maxRecDepth 100000 in
set_option maxHeartbeats 1000000 in
theorem gmay_50 (i : Ins) (w : World) (h1 : ¬ i.cond = 15) (h2 : ¬ i.form = 3) (h3 : i.op = 50) : Calls Tryz.prog 30 #[.agg (insA i)] w fun e w' => e = .returned (.bool (!(i.rd == 15))) ∧ Below w.heap.size w w' := by
  obtain ⟨jc, jo, js, jf, jd, jn, jm, jr, ja, ji, jt, jk, jp, ju, jw, jl, jx, jy, jz, jv⟩ := i
  change ¬ jc = 15 at h1
  have b1 : (jc == 15) = false := beq_eq_false_iff_ne.2 h1
  clear h1
  change ¬ jf = 3 at h2
  have b2 : (jf == 3) = false := beq_eq_false_iff_ne.2 h2
  clear h2
  obtain rfl : jo = 50 := h3
  change Calls Tryz.prog 30 #[.agg #[.int .i64 jc, .int .i64 50, .bool js, .int .i64 jf, .int .i64 jd, .int .i64 jn, .int .i64 jm, .int .i64 jr, .int .i64 ja, .int .u32 ji, .int .i64 jt, .int .i64 jk, .bool jp, .bool ju, .bool jw, .int .u16 jl, .int .i64 jx, .int .i64 jy, .int .i64 jz, .int .i64 jv]] w fun e w' => e = .returned (.bool (!(jd == 15))) ∧ Below w.heap.size w w'
  have HI : Hid (∀ w, Calls Tryz.prog 46 #[.int .i64 50] w fun e w' => e = .returned (.bool false) ∧ w' = w) := fun w => gisOne_any 50 w
  go_enter Tryz.func30, Tryz.ntmps30
  go_wp2_with (first | (go_at_call 46; refine (HI.out _).mono ?_; rintro e w' ⟨rfl, rfl⟩))
  exact bodyPost_ret (v := .bool (!(jd == 15))) (by simp [results, Tryz.results30, go_sem, bne]) rfl ⟨rfl, below_new _ _⟩
set_option maxRecDepth 100000 in
set_option maxHeartbeats 1000000 in
theorem gmay_46 (i : Ins) (w : World) (h1 : ¬ i.cond = 15) (h2 : ¬ i.form = 3) (h3 : i.op = 46) : Calls Tryz.prog 30 #[.agg (insA i)] w fun e w' => e = .returned (.bool (i.cond == 14)) ∧ Below w.heap.size w w' := by
  obtain ⟨jc, jo, js, jf, jd, jn, jm, jr, ja, ji, jt, jk, jp, ju, jw, jl, jx, jy, jz, jv⟩ := i
  change ¬ jc = 15 at h1
  have b1 : (jc == 15) = false := beq_eq_false_iff_ne.2 h1
  clear h1
  change ¬ jf = 3 at h2
  have b2 : (jf == 3) = false := beq_eq_false_iff_ne.2 h2
  clear h2
  obtain rfl : jo = 46 := h3
  change Calls Tryz.prog 30 #[.agg #[.int .i64 jc, .int .i64 46, .bool js, .int .i64 jf, .int .i64 jd, .int .i64 jn, .int .i64 jm, .int .i64 jr, .int .i64 ja, .int .u32 ji, .int .i64 jt, .int .i64 jk, .bool jp, .bool ju, .bool jw, .int .u16 jl, .int .i64 jx, .int .i64 jy, .int .i64 jz, .int .i64 jv]] w fun e w' => e = .returned (.bool (jc == 14)) ∧ Below w.heap.size w w'
  have HI : Hid (∀ w, Calls Tryz.prog 46 #[.int .i64 46] w fun e w' => e = .returned (.bool false) ∧ w' = w) := fun w => gisOne_any 46 w
  go_enter Tryz.func30, Tryz.ntmps30
  go_wp2_with (first | (go_at_call 46; refine (HI.out _).mono ?_; rintro e w' ⟨rfl, rfl⟩))
  exact bodyPost_ret (v := .bool (jc == 14)) (by simp [results, Tryz.results30, go_sem, bne]) rfl ⟨rfl, below_new _ _⟩
set_option maxRecDepth 100000 in
set_option maxHeartbeats 1000000 in
theorem gmay_48 (i : Ins) (w : World) (h1 : ¬ i.cond = 15) (h2 : ¬ i.form = 3) (h3 : i.op = 48) : Calls Tryz.prog 30 #[.agg (insA i)] w fun e w' => e = .returned (.bool (!(i.amount == 0) && !(i.rm == 15))) ∧ Below w.heap.size w w' := by
  obtain ⟨jc, jo, js, jf, jd, jn, jm, jr, ja, ji, jt, jk, jp, ju, jw, jl, jx, jy, jz, jv⟩ := i
  change ¬ jc = 15 at h1
  have b1 : (jc == 15) = false := beq_eq_false_iff_ne.2 h1
  clear h1
  change ¬ jf = 3 at h2
  have b2 : (jf == 3) = false := beq_eq_false_iff_ne.2 h2
  clear h2
  obtain rfl : jo = 48 := h3
  change Calls Tryz.prog 30 #[.agg #[.int .i64 jc, .int .i64 48, .bool js, .int .i64 jf, .int .i64 jd, .int .i64 jn, .int .i64 jm, .int .i64 jr, .int .i64 ja, .int .u32 ji, .int .i64 jt, .int .i64 jk, .bool jp, .bool ju, .bool jw, .int .u16 jl, .int .i64 jx, .int .i64 jy, .int .i64 jz, .int .i64 jv]] w fun e w' => e = .returned (.bool (!(jk == 0) && !(jm == 15))) ∧ Below w.heap.size w w'
  have HI : Hid (∀ w, Calls Tryz.prog 46 #[.int .i64 48] w fun e w' => e = .returned (.bool false) ∧ w' = w) := fun w => gisOne_any 48 w
  cases hk : (jk == 0)
  · have g : (jk != 0) = true := by rw [bne, hk]; rfl
    go_enter Tryz.func30, Tryz.ntmps30
    go_wp2_with (go_at_call 46; refine (HI.out _).mono ?_; rintro e w' ⟨rfl, rfl⟩)
    exact bodyPost_ret (v := .bool (!(jm == 15))) (by simp [results, Tryz.results30, go_sem, bne]) rfl ⟨rfl, below_new _ _⟩
  · have g : (jk != 0) = false := by rw [bne, hk]; rfl
    go_enter Tryz.func30, Tryz.ntmps30
    go_wp2_with (go_at_call 46; refine (HI.out _).mono ?_; rintro e w' ⟨rfl, rfl⟩)
    exact bodyPost_ret (v := .bool false) (by simp [results, Tryz.results30, go_sem]) rfl ⟨rfl, below_new _ _⟩
set_option maxRecDepth 100000 in
set_option maxHeartbeats 1000000 in
theorem gmay_0 (i : Ins) (w : World) (h1 : ¬ i.cond = 15) (h2 : ¬ i.form = 3) (h3 : ¬ (17 ≤ i.op ∧ i.op ≤ 38)) (n39 : ¬ i.op = 39) (n40 : ¬ i.op = 40) (n43 : ¬ i.op = 43) (n44 : ¬ i.op = 44) (n47 : ¬ i.op = 47) (n49 : ¬ i.op = 49) (n50 : ¬ i.op = 50) (n48 : ¬ i.op = 48) (n46 : ¬ i.op = 46) : Calls Tryz.prog 30 #[.agg (insA i)] w fun e w' => e = .returned (.bool true) ∧ Below w.heap.size w w' := by
  obtain ⟨jc, jo, js, jf, jd, jn, jm, jr, ja, ji, jt, jk, jp, ju, jw, jl, jx, jy, jz, jv⟩ := i
  change ¬ jc = 15 at h1
  have b1 : (jc == 15) = false := beq_eq_false_iff_ne.2 h1
  clear h1
  change ¬ jf = 3 at h2
  have b2 : (jf == 3) = false := beq_eq_false_iff_ne.2 h2
  clear h2
  change ¬ (17 ≤ jo ∧ jo ≤ 38) at h3
  change ¬ jo = 39 at n39
  have m39 : (jo == 39) = false := beq_eq_false_iff_ne.2 n39
  change ¬ jo = 40 at n40
  have m40 : (jo == 40) = false := beq_eq_false_iff_ne.2 n40
  change ¬ jo = 43 at n43
  have m43 : (jo == 43) = false := beq_eq_false_iff_ne.2 n43
  change ¬ jo = 44 at n44
  have m44 : (jo == 44) = false := beq_eq_false_iff_ne.2 n44
  change ¬ jo = 47 at n47
  have m47 : (jo == 47) = false := beq_eq_false_iff_ne.2 n47
  change ¬ jo = 49 at n49
  have m49 : (jo == 49) = false := beq_eq_false_iff_ne.2 n49
  change ¬ jo = 50 at n50
  have m50 : (jo == 50) = false := beq_eq_false_iff_ne.2 n50
  change ¬ jo = 48 at n48
  have m48 : (jo == 48) = false := beq_eq_false_iff_ne.2 n48
  change ¬ jo = 46 at n46
  have m46 : (jo == 46) = false := beq_eq_false_iff_ne.2 n46
  have e1 : isOneP jo = false := by rw [isOneP]; by_cases x : 31 ≤ jo <;> by_cases y : jo ≤ 38 <;> simp [x, y] <;> omega
  have HI : Hid (∀ w, Calls Tryz.prog 46 #[.int .i64 jo] w fun e w' => e = .returned (.bool false) ∧ w' = w) := fun w => by rw [← e1]; exact gisOne_any jo w
  clear e1 n39 n40 n43 n44 n47 n49 n50 n48 n46
  change Calls Tryz.prog 30 #[.agg #[.int .i64 jc, .int .i64 jo, .bool js, .int .i64 jf, .int .i64 jd, .int .i64 jn, .int .i64 jm, .int .i64 jr, .int .i64 ja, .int .u32 ji, .int .i64 jt, .int .i64 jk, .bool jp, .bool ju, .bool jw, .int .u16 jl, .int .i64 jx, .int .i64 jy, .int .i64 jz, .int .i64 jv]] w fun e w' => e = .returned (.bool true) ∧ Below w.heap.size w w'
  by_cases h : 17 ≤ jo
  · have b3 : decide (17 ≤ jo) = true := decide_eq_true h
    have b4 : decide (jo ≤ 30) = false := decide_eq_false (by omega)
    have c4 : ¬ jo ≤ 30 := by omega
    clear h3
    go_enter Tryz.func30, Tryz.ntmps30
    go_wp2_with (go_at_call 46; refine (HI.out _).mono ?_; rintro e w' ⟨rfl, rfl⟩)
    exact bodyPost_ret (v := .bool true) (by simp [results, Tryz.results30, go_sem]) rfl ⟨rfl, below_new _ _⟩
  · have b3 : decide (17 ≤ jo) = false := decide_eq_false h
    clear h3
    go_enter Tryz.func30, Tryz.ntmps30
    go_wp2_with (go_at_call 46; refine (HI.out _).mono ?_; rintro e w' ⟨rfl, rfl⟩)
    exact bodyPost_ret (v := .bool true) (by simp [results, Tryz.results30, go_sem]) rfl ⟨rfl, below_new _ _⟩
theorem gmay_any (i : Ins) (w : World) (hl : 0 ≤ i.list ∧ i.list < 65536) (hn : 0 ≤ i.rn ∧ i.rn < 16) : Calls Tryz.prog 30 #[.agg (insA i)] w fun e w' => e = .returned (.bool (mayP i)) ∧ Below w.heap.size w w' := by
  unfold mayP
  by_cases h1 : i.cond = 15
  · rw [if_pos h1]; exact gmay_1 i w h1
  rw [if_neg h1]
  by_cases h2 : i.form = 3
  · rw [if_pos h2]; exact gmay_2 i w h1 h2
  rw [if_neg h2]
  by_cases h3 : 17 ≤ i.op ∧ i.op ≤ 30
  · rw [if_pos h3]; exact gmay_3 i w h1 h2 h3
  rw [if_neg h3]
  by_cases h4 : 31 ≤ i.op ∧ i.op ≤ 38
  · rw [if_pos (show isOneP i.op = true by rw [isOneP]; simp [h4.1, h4.2])]; exact gmay_4 i w h1 h2 h4
  rw [if_neg (show ¬ isOneP i.op = true by rw [isOneP]; simp; omega)]
  by_cases h5 : i.op = 39 ∨ i.op = 40
  · rw [if_pos h5]
    rcases h5 with h | h
    · exact gmay_39 i w h1 h2 h hl hn
    · exact gmay_40 i w h1 h2 h hl hn
  rw [if_neg h5]
  by_cases h6 : i.op = 43 ∨ i.op = 44
  · rw [if_pos h6]
    rcases h6 with h | h
    · exact gmay_43 i w h1 h2 h
    · exact gmay_44 i w h1 h2 h
  rw [if_neg h6]
  by_cases h7 : i.op = 47 ∨ i.op = 49 ∨ i.op = 50
  · rw [if_pos h7]
    rcases h7 with h | h | h
    · exact gmay_47 i w h1 h2 h
    · exact gmay_49 i w h1 h2 h
    · exact gmay_50 i w h1 h2 h
  rw [if_neg h7]
  by_cases h8 : i.op = 48
  · rw [if_pos h8]; exact gmay_48 i w h1 h2 h8
  rw [if_neg h8]
  by_cases h9 : i.op = 46
  · rw [if_pos h9]; exact gmay_46 i w h1 h2 h9
  rw [if_neg h9]
  exact gmay_0 i w h1 h2 (by omega) (by omega) (by omega) (by omega) (by omega) (by omega) (by omega) (by omega) (by omega) (by omega)
end Go.Proofs.YtilhceajhlaojaaGreatDoor.Is
namespace Go.Proofs.YtilhceajhlaojaaGreatDoor.Is
set_option linter.unusedVariables false
/-- How many places of a pattern are no blanks. -/
def nb : List UInt8 → Nat
  | [] => 0
  | x :: l => if x = 32 then nb l else nb l + 1
/-- How many places of a pattern have a letter. -/
def cnt (c : UInt8) : List UInt8 → Nat
  | [] => 0
  | x :: l => if x = c then cnt c l + 1 else cnt c l
/-- A bit of a word. -/
def bN (w i : Nat) : Nat := w / 2 ^ i % 2
theorem bN_lt (w i : Nat) : bN w i < 2 := Nat.mod_lt _ (by decide)
/-- A letter's bits in a word, as a number. -/
def fvP (c : UInt8) (w : Nat) : List UInt8 → Nat
  | [] => 0
  | x :: l => if x = c then bN w (nb l) * 2 ^ cnt c l + fvP c w l else fvP c w l
/-- Do a pattern's 0s and 1s stand in the word? -/
def fiP (w : Nat) : List UInt8 → Bool
  | [] => true
  | x :: l => !(x == 48 && bN w (nb l) != 0 || x == 49 && bN w (nb l) != 1) && fiP w l
/-- A value's bits at a letter's places. -/
def mkP (c : UInt8) (v : Nat) : List UInt8 → Nat
  | [] => 0
  | x :: l => if x = c then v / 2 ^ cnt c l % 2 * 2 ^ nb l + mkP c v l else mkP c v l
/-- A word's own bits at a letter's places. -/
def seP (c : UInt8) (w : Nat) : List UInt8 → Nat
  | [] => 0
  | x :: l => if x = c then bN w (nb l) * 2 ^ nb l + seP c w l else seP c w l
theorem fvP_lt (c : UInt8) (w : Nat) (l : List UInt8) : fvP c w l < 2 ^ cnt c l := by
  induction l with
  | nil => simp [fvP, cnt]
  | cons x l ih =>
    simp only [fvP, cnt]
    split
    · have := bN_lt w (nb l)
      rw [Nat.pow_succ]
      rcases (by omega : bN w (nb l) = 0 ∨ bN w (nb l) = 1) with h | h <;> rw [h] <;> omega
    · exact ih
/-- A value that agrees with a word's letter in its lowest bits lays the word's own bits. -/
theorem mk_se (c : UInt8) (w : Nat) (l : List UInt8) : ∀ v, v % 2 ^ cnt c l = fvP c w l → mkP c v l = seP c w l := by
  induction l with
  | nil => intro v _; rfl
  | cons x l ih =>
    intro v hv
    simp only [fvP, cnt] at hv
    simp only [mkP, seP]
    split
    · rename_i hx
      rw [if_pos hx, if_pos hx] at hv
      have hlt := fvP_lt c w l
      have hp : 0 < 2 ^ cnt c l := Nat.two_pow_pos _
      have hb := bN_lt w (nb l)
      have e1 : v % 2 ^ (cnt c l + 1) = v % 2 ^ cnt c l + 2 ^ cnt c l * (v / 2 ^ cnt c l % 2) := by
        rw [Nat.pow_succ, Nat.mod_mul]
      rw [e1] at hv
      have hm := Nat.mod_lt v hp
      have h2 : v / 2 ^ cnt c l % 2 < 2 := Nat.mod_lt _ (by decide)
      have hboth : v / 2 ^ cnt c l % 2 = bN w (nb l) ∧ v % 2 ^ cnt c l = fvP c w l := by
        generalize v / 2 ^ cnt c l % 2 = p at *
        generalize bN w (nb l) = q at *
        generalize 2 ^ cnt c l = B at *
        generalize v % B = a at *
        generalize fvP c w l = b at *
        rcases (by omega : p = 0 ∨ p = 1) with rfl | rfl <;> rcases (by omega : q = 0 ∨ q = 1) with rfl | rfl <;> simp at hv ⊢ <;> omega
      rw [ih v hboth.2, hboth.1]
    · rename_i hx
      rw [if_neg hx, if_neg hx] at hv
      exact ih v hv
/-- The value of a letter that has n bits at most does not matter beyond them. -/
theorem mk_mod (c : UInt8) (l : List UInt8) (v u : Nat) (n : Nat) (hn : cnt c l ≤ n) (h : v % 2 ^ n = u % 2 ^ n) : mkP c v l = mkP c u l := by
  induction l with
  | nil => rfl
  | cons x l ih =>
    simp only [cnt] at hn
    simp only [mkP]
    split
    · rename_i hx
      rw [if_pos hx] at hn
      have e : v / 2 ^ cnt c l % 2 = u / 2 ^ cnt c l % 2 := by
        have h1 : ∀ z : Nat, z / 2 ^ cnt c l % 2 = z % 2 ^ n / 2 ^ cnt c l % 2 := by
          intro z
          have hs : 2 ^ n = 2 ^ cnt c l * (2 * 2 ^ (n - cnt c l - 1)) := by
            rw [← Nat.mul_assoc, ← Nat.pow_succ, ← Nat.pow_add]
            congr 1
            omega
          rw [hs, Nat.mod_mul_right_div_self, Nat.mod_mul_right_mod]
        rw [h1 v, h1 u, h]
      rw [ih (by omega), e]
    · rename_i hx
      rw [if_neg hx] at hn
      exact ih hn
/-- The places of the 1s. -/
def onP : List UInt8 → Nat
  | [] => 0
  | x :: l => if x = 49 then 2 ^ nb l + onP l else onP l
theorem ones_bit (k : Nat) (h : k < 32) : 4294967295 / 2 ^ k % 2 = 1 := by
  have : ∀ k : Fin 32, 4294967295 / 2 ^ k.1 % 2 = 1 := by decide
  exact this ⟨k, h⟩
theorem mk_on (l : List UInt8) (h : cnt 49 l ≤ 32) : mkP 49 4294967295 l = onP l := by
  induction l with
  | nil => rfl
  | cons x l ih =>
    simp only [cnt] at h
    simp only [mkP, onP]
    split
    · rename_i hx
      rw [if_pos hx] at h
      rw [ih (by omega), ones_bit _ (by omega), Nat.one_mul]
    · rename_i hx
      rw [if_neg hx] at h
      exact ih h
/-- A sum over letters. -/
def suP (f : UInt8 → Nat) : List UInt8 → Nat
  | [] => 0
  | c :: L => f c + suP f L
theorem suP_add (f g : UInt8 → Nat) (L : List UInt8) : suP (fun c => f c + g c) L = suP f L + suP g L := by
  induction L with
  | nil => rfl
  | cons c L ih => simp only [suP, ih]; omega
theorem suP_congr {f g : UInt8 → Nat} {L : List UInt8} (h : ∀ c ∈ L, f c = g c) : suP f L = suP g L := by
  induction L with
  | nil => rfl
  | cons c L ih => simp only [suP]; rw [h c (List.mem_cons_self ..), ih fun x hx => h x (List.mem_cons_of_mem _ hx)]
theorem suP_zero (x : UInt8) (a : Nat) (L : List UInt8) (h : x ∉ L) : suP (fun c => if x = c then a else 0) L = 0 := by
  induction L with
  | nil => rfl
  | cons c L ih =>
    simp only [List.mem_cons, not_or] at h
    simp only [suP, if_neg h.1, ih h.2]
theorem suP_one (x : UInt8) (a : Nat) (L : List UInt8) (hn : L.Nodup) (h : x ∈ L) : suP (fun c => if x = c then a else 0) L = a := by
  induction L with
  | nil => cases h
  | cons c L ih =>
    rw [List.nodup_cons] at hn
    simp only [suP]
    by_cases e : x = c
    · subst e; rw [if_pos rfl, suP_zero x a L hn.1]; omega
    · rw [if_neg e, ih hn.2 (by simpa [e] using h)]; omega
/-- A word that fits is the sum of its pattern's 1s and of what its letters say. -/
theorem all_se (L : List UInt8) (hn : L.Nodup) (h0 : (48 : UInt8) ∉ L) (h1 : (49 : UInt8) ∉ L) (hb : (32 : UInt8) ∉ L) (w : Nat) (l : List UInt8) (hl : ∀ x ∈ l, x ∈ L ∨ x = 48 ∨ x = 49 ∨ x = 32) (hf : fiP w l = true) :
    onP l + suP (fun c => seP c w l) L = w % 2 ^ nb l := by
  induction l with
  | nil =>
    have : suP (fun c => seP c w []) L = 0 := by
      clear hn h0 h1 hb hl
      induction L with
      | nil => rfl
      | cons c L ih => simp only [suP, seP, Nat.zero_add]; exact ih
    rw [this]; simp [onP, nb, Nat.mod_one]
  | cons x l ih =>
    have ih' := ih (fun y hy => hl y (List.mem_cons_of_mem _ hy)) (by simp only [fiP, Bool.and_eq_true] at hf; exact hf.2)
    simp only [fiP, Bool.and_eq_true] at hf
    have hx := hl x (List.mem_cons_self ..)
    have es : suP (fun c => seP c w (x :: l)) L = suP (fun c => if x = c then bN w (nb l) * 2 ^ nb l else 0) L + suP (fun c => seP c w l) L := by
      rw [← suP_add]
      refine suP_congr fun c _ => ?_
      simp only [seP]
      split <;> omega
    have em : ∀ k, w % 2 ^ (k + 1) = w % 2 ^ k + 2 ^ k * bN w k := by
      intro k; rw [Nat.pow_succ, Nat.mod_mul, bN]
    rw [es]
    simp only [onP, nb]
    by_cases hbl : x = 32
    · subst hbl
      rw [suP_zero _ _ _ hb, if_neg (by decide), if_pos rfl]
      omega
    · rw [if_neg hbl, em]
      rcases hx with h | h | h | h
      · rw [suP_one _ _ _ hn h, if_neg (by rintro rfl; exact h1 h), Nat.mul_comm]; omega
      · subst h
        rw [suP_zero _ _ _ h0, if_neg (by decide)]
        have : bN w (nb l) = 0 := by have := hf.1; simpa using this
        rw [this]; omega
      · subst h
        rw [suP_zero _ _ _ h1, if_pos rfl]
        have : bN w (nb l) = 1 := by have := hf.1; simpa using this
        rw [this]; omega
      · exact absurd h hbl
end Go.Proofs.YtilhceajhlaojaaGreatDoor.Is
namespace Go.Proofs.YtilhceajhlaojaaGreatDoor.Is
set_option linter.unusedVariables false
/-- A row of the reference. -/
structure RowJ where
  ops : List Int
  form : Int
  pat : List UInt8
def rj0 : RowJ := ⟨[1, 2, 3, 4, 5, 6, 7, 8, 13, 15], 1, [99, 99, 99, 99, 32, 48, 48, 49, 32, 111, 111, 111, 111, 32, 115, 32, 110, 110, 110, 110, 32, 100, 100, 100, 100, 32, 105, 105, 105, 105, 32, 105, 105, 105, 105, 32, 105, 105, 105, 105]⟩
def rj1 : RowJ := ⟨[1, 2, 3, 4, 5, 6, 7, 8, 13, 15], 2, [99, 99, 99, 99, 32, 48, 48, 48, 32, 111, 111, 111, 111, 32, 115, 32, 110, 110, 110, 110, 32, 100, 100, 100, 100, 32, 107, 107, 107, 107, 107, 32, 116, 116, 32, 48, 32, 109, 109, 109, 109]⟩
def rj2 : RowJ := ⟨[1, 2, 3, 4, 5, 6, 7, 8, 13, 15], 3, [99, 99, 99, 99, 32, 48, 48, 48, 32, 111, 111, 111, 111, 32, 115, 32, 110, 110, 110, 110, 32, 100, 100, 100, 100, 32, 114, 114, 114, 114, 32, 48, 32, 116, 116, 32, 49, 32, 109, 109, 109, 109]⟩
def rj3 : RowJ := ⟨[9, 10, 11, 12], 1, [99, 99, 99, 99, 32, 48, 48, 49, 32, 111, 111, 111, 111, 32, 49, 32, 110, 110, 110, 110, 32, 48, 48, 48, 48, 32, 105, 105, 105, 105, 32, 105, 105, 105, 105, 32, 105, 105, 105, 105]⟩
def rj4 : RowJ := ⟨[9, 10, 11, 12], 2, [99, 99, 99, 99, 32, 48, 48, 48, 32, 111, 111, 111, 111, 32, 49, 32, 110, 110, 110, 110, 32, 48, 48, 48, 48, 32, 107, 107, 107, 107, 107, 32, 116, 116, 32, 48, 32, 109, 109, 109, 109]⟩
def rj5 : RowJ := ⟨[9, 10, 11, 12], 3, [99, 99, 99, 99, 32, 48, 48, 48, 32, 111, 111, 111, 111, 32, 49, 32, 110, 110, 110, 110, 32, 48, 48, 48, 48, 32, 114, 114, 114, 114, 32, 48, 32, 116, 116, 32, 49, 32, 109, 109, 109, 109]⟩
def rj6 : RowJ := ⟨[14, 16], 1, [99, 99, 99, 99, 32, 48, 48, 49, 32, 111, 111, 111, 111, 32, 115, 32, 48, 48, 48, 48, 32, 100, 100, 100, 100, 32, 105, 105, 105, 105, 32, 105, 105, 105, 105, 32, 105, 105, 105, 105]⟩
def rj7 : RowJ := ⟨[14, 16], 2, [99, 99, 99, 99, 32, 48, 48, 48, 32, 111, 111, 111, 111, 32, 115, 32, 48, 48, 48, 48, 32, 100, 100, 100, 100, 32, 107, 107, 107, 107, 107, 32, 116, 116, 32, 48, 32, 109, 109, 109, 109]⟩
def rj8 : RowJ := ⟨[14, 16], 3, [99, 99, 99, 99, 32, 48, 48, 48, 32, 111, 111, 111, 111, 32, 115, 32, 48, 48, 48, 48, 32, 100, 100, 100, 100, 32, 114, 114, 114, 114, 32, 48, 32, 116, 116, 32, 49, 32, 109, 109, 109, 109]⟩
def rj9 : RowJ := ⟨[17], 0, [99, 99, 99, 99, 32, 48, 48, 49, 49, 32, 48, 48, 48, 48, 32, 105, 105, 105, 105, 32, 100, 100, 100, 100, 32, 105, 105, 105, 105, 32, 105, 105, 105, 105, 32, 105, 105, 105, 105]⟩
def rj10 : RowJ := ⟨[18], 0, [99, 99, 99, 99, 32, 48, 48, 49, 49, 32, 48, 49, 48, 48, 32, 105, 105, 105, 105, 32, 100, 100, 100, 100, 32, 105, 105, 105, 105, 32, 105, 105, 105, 105, 32, 105, 105, 105, 105]⟩
def rj11 : RowJ := ⟨[19], 0, [99, 99, 99, 99, 32, 48, 48, 48, 48, 32, 48, 48, 48, 115, 32, 100, 100, 100, 100, 32, 48, 48, 48, 48, 32, 114, 114, 114, 114, 32, 49, 48, 48, 49, 32, 109, 109, 109, 109]⟩
def rj12 : RowJ := ⟨[20], 0, [99, 99, 99, 99, 32, 48, 48, 48, 48, 32, 48, 48, 49, 115, 32, 100, 100, 100, 100, 32, 97, 97, 97, 97, 32, 114, 114, 114, 114, 32, 49, 48, 48, 49, 32, 109, 109, 109, 109]⟩
def rj13 : RowJ := ⟨[21], 0, [99, 99, 99, 99, 32, 48, 48, 48, 48, 32, 49, 48, 48, 115, 32, 100, 100, 100, 100, 32, 97, 97, 97, 97, 32, 114, 114, 114, 114, 32, 49, 48, 48, 49, 32, 109, 109, 109, 109]⟩
def rj14 : RowJ := ⟨[22], 0, [99, 99, 99, 99, 32, 48, 48, 48, 48, 32, 49, 48, 49, 115, 32, 100, 100, 100, 100, 32, 97, 97, 97, 97, 32, 114, 114, 114, 114, 32, 49, 48, 48, 49, 32, 109, 109, 109, 109]⟩
def rj15 : RowJ := ⟨[23], 0, [99, 99, 99, 99, 32, 48, 48, 48, 48, 32, 49, 49, 48, 115, 32, 100, 100, 100, 100, 32, 97, 97, 97, 97, 32, 114, 114, 114, 114, 32, 49, 48, 48, 49, 32, 109, 109, 109, 109]⟩
def rj16 : RowJ := ⟨[24], 0, [99, 99, 99, 99, 32, 48, 48, 48, 48, 32, 49, 49, 49, 115, 32, 100, 100, 100, 100, 32, 97, 97, 97, 97, 32, 114, 114, 114, 114, 32, 49, 48, 48, 49, 32, 109, 109, 109, 109]⟩
def rj17 : RowJ := ⟨[25], 0, [99, 99, 99, 99, 32, 48, 48, 48, 49, 32, 48, 49, 49, 48, 32, 49, 49, 49, 49, 32, 100, 100, 100, 100, 32, 49, 49, 49, 49, 32, 48, 48, 48, 49, 32, 109, 109, 109, 109]⟩
def rj18 : RowJ := ⟨[26], 0, [99, 99, 99, 99, 32, 48, 49, 49, 48, 32, 49, 48, 49, 49, 32, 49, 49, 49, 49, 32, 100, 100, 100, 100, 32, 49, 49, 49, 49, 32, 48, 48, 49, 49, 32, 109, 109, 109, 109]⟩
def rj19 : RowJ := ⟨[27], 0, [99, 99, 99, 99, 32, 48, 49, 49, 48, 32, 49, 49, 49, 48, 32, 49, 49, 49, 49, 32, 100, 100, 100, 100, 32, 107, 107, 48, 48, 32, 48, 49, 49, 49, 32, 109, 109, 109, 109]⟩
def rj20 : RowJ := ⟨[28], 0, [99, 99, 99, 99, 32, 48, 49, 49, 48, 32, 49, 49, 49, 49, 32, 49, 49, 49, 49, 32, 100, 100, 100, 100, 32, 107, 107, 48, 48, 32, 48, 49, 49, 49, 32, 109, 109, 109, 109]⟩
def rj21 : RowJ := ⟨[29], 0, [99, 99, 99, 99, 32, 48, 49, 49, 48, 32, 49, 48, 49, 48, 32, 49, 49, 49, 49, 32, 100, 100, 100, 100, 32, 107, 107, 48, 48, 32, 48, 49, 49, 49, 32, 109, 109, 109, 109]⟩
def rj22 : RowJ := ⟨[30], 0, [99, 99, 99, 99, 32, 48, 49, 49, 48, 32, 49, 48, 49, 49, 32, 49, 49, 49, 49, 32, 100, 100, 100, 100, 32, 107, 107, 48, 48, 32, 48, 49, 49, 49, 32, 109, 109, 109, 109]⟩
def rj23 : RowJ := ⟨[41], 0, [99, 99, 99, 99, 32, 49, 48, 49, 48, 32, 105, 105, 105, 105, 32, 105, 105, 105, 105, 32, 105, 105, 105, 105, 32, 105, 105, 105, 105, 32, 105, 105, 105, 105, 32, 105, 105, 105, 105]⟩
def rj24 : RowJ := ⟨[42], 0, [99, 99, 99, 99, 32, 49, 48, 49, 49, 32, 105, 105, 105, 105, 32, 105, 105, 105, 105, 32, 105, 105, 105, 105, 32, 105, 105, 105, 105, 32, 105, 105, 105, 105, 32, 105, 105, 105, 105]⟩
def rj25 : RowJ := ⟨[43], 0, [99, 99, 99, 99, 32, 48, 48, 48, 49, 32, 48, 48, 49, 48, 32, 49, 49, 49, 49, 32, 49, 49, 49, 49, 32, 49, 49, 49, 49, 32, 48, 48, 48, 49, 32, 109, 109, 109, 109]⟩
def rj26 : RowJ := ⟨[44], 0, [99, 99, 99, 99, 32, 48, 48, 48, 49, 32, 48, 48, 49, 48, 32, 49, 49, 49, 49, 32, 49, 49, 49, 49, 32, 49, 49, 49, 49, 32, 48, 48, 49, 49, 32, 109, 109, 109, 109]⟩
def rj27 : RowJ := ⟨[45], 0, [99, 99, 99, 99, 32, 49, 49, 49, 49, 32, 105, 105, 105, 105, 32, 105, 105, 105, 105, 32, 105, 105, 105, 105, 32, 105, 105, 105, 105, 32, 105, 105, 105, 105, 32, 105, 105, 105, 105]⟩
def rj28 : RowJ := ⟨[46], 0, [99, 99, 99, 99, 32, 48, 48, 48, 49, 32, 48, 48, 49, 48, 32, 105, 105, 105, 105, 32, 105, 105, 105, 105, 32, 105, 105, 105, 105, 32, 48, 49, 49, 49, 32, 105, 105, 105, 105]⟩
def rj29 : RowJ := ⟨[47], 0, [99, 99, 99, 99, 32, 48, 48, 48, 49, 32, 48, 115, 48, 48, 32, 49, 49, 49, 49, 32, 100, 100, 100, 100, 32, 48, 48, 48, 48, 32, 48, 48, 48, 48, 32, 48, 48, 48, 48]⟩
def rj30 : RowJ := ⟨[48], 2, [99, 99, 99, 99, 32, 48, 48, 48, 49, 32, 48, 115, 49, 48, 32, 107, 107, 107, 107, 32, 49, 49, 49, 49, 32, 48, 48, 48, 48, 32, 48, 48, 48, 48, 32, 109, 109, 109, 109]⟩
def rj31 : RowJ := ⟨[48], 1, [99, 99, 99, 99, 32, 48, 48, 49, 49, 32, 48, 115, 49, 48, 32, 107, 107, 107, 107, 32, 49, 49, 49, 49, 32, 105, 105, 105, 105, 32, 105, 105, 105, 105, 32, 105, 105, 105, 105]⟩
def rj32 : RowJ := ⟨[49], 0, [99, 99, 99, 99, 32, 49, 49, 49, 48, 32, 121, 121, 121, 48, 32, 120, 120, 120, 120, 32, 100, 100, 100, 100, 32, 49, 49, 49, 49, 32, 118, 118, 118, 49, 32, 122, 122, 122, 122]⟩
def rj33 : RowJ := ⟨[50], 0, [99, 99, 99, 99, 32, 49, 49, 49, 48, 32, 121, 121, 121, 49, 32, 120, 120, 120, 120, 32, 100, 100, 100, 100, 32, 49, 49, 49, 49, 32, 118, 118, 118, 49, 32, 122, 122, 122, 122]⟩
def rj34 : RowJ := ⟨[51], 0, [99, 99, 99, 99, 32, 48, 48, 49, 49, 32, 48, 48, 49, 48, 32, 48, 48, 48, 48, 32, 49, 49, 49, 49, 32, 48, 48, 48, 48, 32, 48, 48, 48, 48, 32, 48, 48, 48, 48]⟩
def rj35 : RowJ := ⟨[52], 0, [99, 99, 99, 99, 32, 48, 48, 49, 49, 32, 48, 48, 49, 48, 32, 48, 48, 48, 48, 32, 49, 49, 49, 49, 32, 48, 48, 48, 48, 32, 48, 48, 48, 48, 32, 48, 48, 49, 49]⟩
def rj36 : RowJ := ⟨[31], 1, [99, 99, 99, 99, 32, 48, 49, 48, 112, 32, 117, 48, 119, 49, 32, 110, 110, 110, 110, 32, 100, 100, 100, 100, 32, 105, 105, 105, 105, 32, 105, 105, 105, 105, 32, 105, 105, 105, 105]⟩
def rj37 : RowJ := ⟨[32], 1, [99, 99, 99, 99, 32, 48, 49, 48, 112, 32, 117, 48, 119, 48, 32, 110, 110, 110, 110, 32, 100, 100, 100, 100, 32, 105, 105, 105, 105, 32, 105, 105, 105, 105, 32, 105, 105, 105, 105]⟩
def rj38 : RowJ := ⟨[33], 1, [99, 99, 99, 99, 32, 48, 49, 48, 112, 32, 117, 49, 119, 49, 32, 110, 110, 110, 110, 32, 100, 100, 100, 100, 32, 105, 105, 105, 105, 32, 105, 105, 105, 105, 32, 105, 105, 105, 105]⟩
def rj39 : RowJ := ⟨[34], 1, [99, 99, 99, 99, 32, 48, 49, 48, 112, 32, 117, 49, 119, 48, 32, 110, 110, 110, 110, 32, 100, 100, 100, 100, 32, 105, 105, 105, 105, 32, 105, 105, 105, 105, 32, 105, 105, 105, 105]⟩
def rj40 : RowJ := ⟨[31], 2, [99, 99, 99, 99, 32, 48, 49, 49, 112, 32, 117, 48, 119, 49, 32, 110, 110, 110, 110, 32, 100, 100, 100, 100, 32, 107, 107, 107, 107, 107, 32, 116, 116, 32, 48, 32, 109, 109, 109, 109]⟩
def rj41 : RowJ := ⟨[32], 2, [99, 99, 99, 99, 32, 48, 49, 49, 112, 32, 117, 48, 119, 48, 32, 110, 110, 110, 110, 32, 100, 100, 100, 100, 32, 107, 107, 107, 107, 107, 32, 116, 116, 32, 48, 32, 109, 109, 109, 109]⟩
def rj42 : RowJ := ⟨[33], 2, [99, 99, 99, 99, 32, 48, 49, 49, 112, 32, 117, 49, 119, 49, 32, 110, 110, 110, 110, 32, 100, 100, 100, 100, 32, 107, 107, 107, 107, 107, 32, 116, 116, 32, 48, 32, 109, 109, 109, 109]⟩
def rj43 : RowJ := ⟨[34], 2, [99, 99, 99, 99, 32, 48, 49, 49, 112, 32, 117, 49, 119, 48, 32, 110, 110, 110, 110, 32, 100, 100, 100, 100, 32, 107, 107, 107, 107, 107, 32, 116, 116, 32, 48, 32, 109, 109, 109, 109]⟩
def rj44 : RowJ := ⟨[35], 1, [99, 99, 99, 99, 32, 48, 48, 48, 112, 32, 117, 49, 119, 49, 32, 110, 110, 110, 110, 32, 100, 100, 100, 100, 32, 105, 105, 105, 105, 32, 49, 48, 49, 49, 32, 105, 105, 105, 105]⟩
def rj45 : RowJ := ⟨[36], 1, [99, 99, 99, 99, 32, 48, 48, 48, 112, 32, 117, 49, 119, 48, 32, 110, 110, 110, 110, 32, 100, 100, 100, 100, 32, 105, 105, 105, 105, 32, 49, 48, 49, 49, 32, 105, 105, 105, 105]⟩
def rj46 : RowJ := ⟨[37], 1, [99, 99, 99, 99, 32, 48, 48, 48, 112, 32, 117, 49, 119, 49, 32, 110, 110, 110, 110, 32, 100, 100, 100, 100, 32, 105, 105, 105, 105, 32, 49, 49, 48, 49, 32, 105, 105, 105, 105]⟩
def rj47 : RowJ := ⟨[38], 1, [99, 99, 99, 99, 32, 48, 48, 48, 112, 32, 117, 49, 119, 49, 32, 110, 110, 110, 110, 32, 100, 100, 100, 100, 32, 105, 105, 105, 105, 32, 49, 49, 49, 49, 32, 105, 105, 105, 105]⟩
def rj48 : RowJ := ⟨[35], 2, [99, 99, 99, 99, 32, 48, 48, 48, 112, 32, 117, 48, 119, 49, 32, 110, 110, 110, 110, 32, 100, 100, 100, 100, 32, 48, 48, 48, 48, 32, 49, 48, 49, 49, 32, 109, 109, 109, 109]⟩
def rj49 : RowJ := ⟨[36], 2, [99, 99, 99, 99, 32, 48, 48, 48, 112, 32, 117, 48, 119, 48, 32, 110, 110, 110, 110, 32, 100, 100, 100, 100, 32, 48, 48, 48, 48, 32, 49, 48, 49, 49, 32, 109, 109, 109, 109]⟩
def rj50 : RowJ := ⟨[37], 2, [99, 99, 99, 99, 32, 48, 48, 48, 112, 32, 117, 48, 119, 49, 32, 110, 110, 110, 110, 32, 100, 100, 100, 100, 32, 48, 48, 48, 48, 32, 49, 49, 48, 49, 32, 109, 109, 109, 109]⟩
def rj51 : RowJ := ⟨[38], 2, [99, 99, 99, 99, 32, 48, 48, 48, 112, 32, 117, 48, 119, 49, 32, 110, 110, 110, 110, 32, 100, 100, 100, 100, 32, 48, 48, 48, 48, 32, 49, 49, 49, 49, 32, 109, 109, 109, 109]⟩
def rj52 : RowJ := ⟨[39], 0, [99, 99, 99, 99, 32, 49, 48, 48, 112, 32, 117, 48, 119, 49, 32, 110, 110, 110, 110, 32, 108, 108, 108, 108, 32, 108, 108, 108, 108, 32, 108, 108, 108, 108, 32, 108, 108, 108, 108]⟩
def rj53 : RowJ := ⟨[40], 0, [99, 99, 99, 99, 32, 49, 48, 48, 112, 32, 117, 48, 119, 48, 32, 110, 110, 110, 110, 32, 108, 108, 108, 108, 32, 108, 108, 108, 108, 32, 108, 108, 108, 108, 32, 108, 108, 108, 108]⟩
def headJ : List RowJ := [rj0, rj1, rj2, rj3, rj4, rj5, rj6, rj7, rj8]
def moreJ : List RowJ := [rj9, rj10, rj11, rj12, rj13, rj14, rj15, rj16, rj17, rj18, rj19, rj20, rj21, rj22, rj23, rj24, rj25, rj26, rj27, rj28, rj29, rj30, rj31, rj32, rj33, rj34, rj35]
def loadsJ : List RowJ := [rj36, rj37, rj38, rj39, rj40, rj41, rj42, rj43, rj44, rj45, rj46, rj47, rj48, rj49, rj50, rj51, rj52, rj53]
def rowsJ : List RowJ := headJ ++ moreJ ++ loadsJ
/-- What a row says of a word. -/
def opJ (r : RowJ) (w : Nat) : Int := if 0 < cnt 111 r.pat then (fvP 111 w r.pat : Int) + 1 else r.ops.headD 0
def isB (op : Int) : Bool := op == 41 || op == 42
def tests (op : Int) : Bool := [9, 10, 11, 12].contains op
def immJ (op : Int) (x : Nat) : Int := if isB op then (if 33554432 ≤ x * 4 % 4294967296 then ((x * 4 + 4227858432) % 4294967296 : Nat) else (x * 4 % 4294967296 : Nat)) else (x : Nat)
def sayJ (r : RowJ) (w : Nat) : Ins where
  cond := fvP 99 w r.pat
  op := opJ r w
  s := fvP 115 w r.pat == 1 || tests (opJ r w)
  form := r.form
  rd := fvP 100 w r.pat
  rn := fvP 110 w r.pat
  rm := fvP 109 w r.pat
  rs := fvP 114 w r.pat
  ra := fvP 97 w r.pat
  imm := immJ (opJ r w) (fvP 105 w r.pat)
  shift := fvP 116 w r.pat
  amount := fvP 107 w r.pat
  pre := fvP 112 w r.pat == 1
  up := fvP 117 w r.pat == 1
  write := fvP 119 w r.pat == 1
  list := (fvP 108 w r.pat % 65536 : Nat)
  crn := fvP 120 w r.pat
  op1 := fvP 121 w r.pat
  crm := fvP 122 w r.pat
  op2 := fvP 118 w r.pat
def hasJ (r : RowJ) (c : UInt8) : Bool := decide (0 < cnt c r.pat)
def any15J (r : RowJ) (i : Ins) : Bool := hasJ r 100 && i.rd == 15 || (hasJ r 110 && i.rn == 15 || (hasJ r 109 && i.rm == 15 || (hasJ r 114 && i.rs == 15 || hasJ r 97 && i.ra == 15)))
def mayJ (r : RowJ) (i : Ins) : Bool :=
  if i.cond = 15 ∨ r.form = 3 ∧ any15J r i = true then false else
  if 17 ≤ i.op ∧ i.op ≤ 30 then !any15J r i && (decide (i.op < 21) || (decide (24 < i.op) || i.rd != i.ra)) else
  if 31 ≤ i.op ∧ i.op ≤ 38 then
    if i.write && !i.pre || (i.write || !i.pre) && (i.rn == 15 || i.rn == i.rd) then false else
      (r.form == 1 || i.rm != 15) && (i.rd != 15 || i.op == 31) else
  if i.op = 39 ∨ i.op = 40 then
    if i.list == 0 || (i.rn == 15 || i.write && lsP i.list i.rn) then false else i.op == 39 || !lsP i.list 15 else
  if i.op = 43 ∨ i.op = 44 then i.rm != 15 else
  if i.op = 46 then i.cond == 14 else
  if i.op = 47 ∨ i.op = 49 ∨ i.op = 50 then i.rd != 15 else
  if i.op = 48 then i.amount != 0 && (r.form == 1 || i.rm != 15) else true
/-- Does the row say something of the word? -/
def hitJ (w : Nat) (r : RowJ) : Bool := fiP w r.pat && (r.ops.contains (opJ r w) && mayJ r (sayJ r w))
def findJ (w : Nat) : Option RowJ := rowsJ.find? (hitJ w)
def decJ (w : Nat) : Option Ins := (findJ w).map fun r => sayJ r w
/-- The word of a row that says an instruction. -/
def lettersJ : List UInt8 := [99, 111, 100, 110, 109, 114, 97, 116, 107, 120, 121, 122, 118, 108, 105, 115, 112, 117, 119]
def valsJ (i : Ins) : List Nat := [(i.cond % 4294967296).toNat, ((i.op - 1) % 4294967296).toNat, (i.rd % 4294967296).toNat, (i.rn % 4294967296).toNat, (i.rm % 4294967296).toNat, (i.rs % 4294967296).toNat, (i.ra % 4294967296).toNat, (i.shift % 4294967296).toNat, (i.amount % 4294967296).toNat, (i.crn % 4294967296).toNat, (i.op1 % 4294967296).toNat, (i.crm % 4294967296).toNat, (i.op2 % 4294967296).toNat, i.list.toNat, (if isB i.op then i.imm.toNat / 4 else i.imm.toNat), i.s.toNat, i.pre.toNat, i.up.toNat, i.write.toNat]
def sumJ (p : List UInt8) : List UInt8 → List Nat → Nat → Nat
  | c :: L, v :: V, w => sumJ p L V ((w + mkP c v p) % 4294967296)
  | _, _, w => w
def wordJ (r : RowJ) (i : Ins) : Nat := sumJ r.pat lettersJ (valsJ i) (mkP 49 4294967295 r.pat)
def tryJ (i : Ins) (r : RowJ) : Bool := r.ops.contains i.op && (r.form == i.form && (match decJ (wordJ r i) with | none => false | some j => j.same i))
def encJ (i : Ins) : Option Nat := (rowsJ.find? (tryJ i)).map fun r => wordJ r i
end Go.Proofs.YtilhceajhlaojaaGreatDoor.Is
